/-
  The program's alike four numbers: the walk.
-/
import Derived.Test.YtchdcncnlfgjfaaDoorImplN2
import Derived.Test.YtchdcncnlfgjfaaDoorEqVec
import Derived.Test.YtchdcncnlfgjfaaDoorImplAlike
import Derived.Deep.RegionWith
namespace Go.Proofs.YtchdcncnlfgjfaaDoor
open Go.ChangeShapes Go.WideShapes Go.ChangeAt Go.RowKit
set_option linter.unusedVariables false

set_option maxHeartbeats 64000000 in
theorem nalike_gen (v0 v1 v2 v3 u0 u1 u2 u3 : Value) (sa sb : Int) (c : Bool) (o10 p10 o20 p20 o21 p21 o30 p30 o31 p31 o32 p32 : Option (Int × Int × Int)) (B C : Nat) (w : World) (Ma : Mp w B [v0, v1, v2, v3]) (Me : Mp w C [u0, u1, u2, u3])
    (KC : ∀ W, Acc w W → Calls Tryd.prog 32 #[.map (some B), .map (some C)] W (Checked c W))
    (KA : ∀ W, Calls Tryd.prog 33 #[v0] W fun e w' => e = .returned (.int .i64 sa) ∧ Below W.heap.size W w')
    (KB : ∀ W, Calls Tryd.prog 33 #[u0] W fun e w' => e = .returned (.int .i64 sb) ∧ Below W.heap.size W w')
    (L10 : ∀ W, Calls Tryd.prog 23 #[v1, u0] W (Erred o10 W)) (R10 : ∀ W, Calls Tryd.prog 23 #[v0, u1] W (Erred p10 W)) (L20 : ∀ W, Calls Tryd.prog 23 #[v2, u0] W (Erred o20 W)) (R20 : ∀ W, Calls Tryd.prog 23 #[v0, u2] W (Erred p20 W)) (L21 : ∀ W, Calls Tryd.prog 23 #[v2, u1] W (Erred o21 W)) (R21 : ∀ W, Calls Tryd.prog 23 #[v1, u2] W (Erred p21 W)) (L30 : ∀ W, Calls Tryd.prog 23 #[v3, u0] W (Erred o30 W)) (R30 : ∀ W, Calls Tryd.prog 23 #[v0, u3] W (Erred p30 W)) (L31 : ∀ W, Calls Tryd.prog 23 #[v3, u1] W (Erred o31 W)) (R31 : ∀ W, Calls Tryd.prog 23 #[v1, u3] W (Erred p31 W)) (L32 : ∀ W, Calls Tryd.prog 23 #[v3, u2] W (Erred o32 W)) (R32 : ∀ W, Calls Tryd.prog 23 #[v2, u3] W (Erred p32 W)) :
    Calls Tryd.prog 17 #[.map (some B), .map (some C)] w (ErredB (if c = true then foldO (sa == sb) [(o10, p10), (o20, p20), (o21, p21), (o30, p30), (o31, p31), (o32, p32)] else none) w) := by
  have HC := Lib.hid KC
  have HA := Lib.hid KA
  have HB := Lib.hid KB
  have HL10 := Lib.hid L10
  have HR10 := Lib.hid R10
  have HL20 := Lib.hid L20
  have HR20 := Lib.hid R20
  have HL21 := Lib.hid L21
  have HR21 := Lib.hid R21
  have HL30 := Lib.hid L30
  have HR30 := Lib.hid R30
  have HL31 := Lib.hid L31
  have HR31 := Lib.hid R31
  have HL32 := Lib.hid L32
  have HR32 := Lib.hid R32
  clear KC KA KB L10 R10 L20 R20 L21 R21 L30 R30 L31 R31 L32 R32
  obtain ⟨O, E⟩ : ∃ O, (if c = true then foldO (sa == sb) [(o10, p10), (o20, p20), (o21, p21), (o30, p30), (o31, p31), (o32, p32)] else none) = O := ⟨_, rfl⟩
  rw [E]
  have HE := Lib.hid E
  clear E
  have ma := Ma.out
  have na_w := Ma.lt
  have me := Me.out
  have ne_w := Me.lt
  have qr1 := @mapOf_drew
  have qr2 := @mapOf_drewN
  have qr3 := @mapOf_cells
  have qr5 := @mapOf_setCell
  have qa0 := @look0 (B) (v0) (v1) (v2) (v3)
  have qa1 := @look1 (B) (v0) (v1) (v2) (v3)
  have qa2 := @look2 (B) (v0) (v1) (v2) (v3)
  have qa3 := @look3 (B) (v0) (v1) (v2) (v3)
  have qr1 := @mapOf_drew
  have qr2 := @mapOf_drewN
  have qr3 := @mapOf_cells
  have qr5 := @mapOf_setCell
  have qe0 := @look0 (C) (u0) (u1) (u2) (u3)
  have qe1 := @look1 (C) (u0) (u1) (u2) (u3)
  have qe2 := @look2 (C) (u0) (u1) (u2) (u3)
  have qe3 := @look3 (C) (u0) (u1) (u2) (u3)
  go_enter Tryd.func17, Tryd.ntmps17
  go_wp2_with fail
  refine (HC.out _ (by repeat' (first | (with_reducible first | assumption | exact Acc.refl _ | refine Acc.drew ?_ | refine Acc.drewN ?_ _ | refine Acc.alloc ?_ _ | refine Acc.setCell ?_ ?_ _ | refine Acc.mapPut ?_ ?_ _ _) | (refine leB ?_; omega)))).mono ?_
  rintro e W1 ⟨h1, h2, hb⟩
  have Ma : Mp W1 (B) [v0, v1, v2, v3] := Mp.keep hb (by repeat' (first | (with_reducible first | assumption | refine Mp.drew ?_ | refine Mp.drewN ?_ _ | refine Mp.set ?_ _ _ | (refine Mp.new ?_; focus (first | rfl | (simp; done)))) | (refine Mp.put (vs := []) ?_ rfl rfl) | (refine Mp.put (vs := [v0]) ?_ rfl rfl) | (refine Mp.put (vs := [v0, v1]) ?_ rfl rfl) | (refine Mp.put (vs := [v0, v1, v2]) ?_ rfl rfl) | (with_reducible first | refine Mp.putOther ?_ ?_ _ _ | refine Mp.alloc ?_ _) | (refine neB ?_; omega)))
  have Me : Mp W1 (C) [u0, u1, u2, u3] := Mp.keep hb (by repeat' (first | (with_reducible first | assumption | refine Mp.drew ?_ | refine Mp.drewN ?_ _ | refine Mp.set ?_ _ _ | (refine Mp.new ?_; focus (first | rfl | (simp; done)))) | (refine Mp.put (vs := []) ?_ rfl rfl) | (refine Mp.put (vs := [u0]) ?_ rfl rfl) | (refine Mp.put (vs := [u0, u1]) ?_ rfl rfl) | (refine Mp.put (vs := [u0, u1, u2]) ?_ rfl rfl) | (with_reducible first | refine Mp.putOther ?_ ?_ _ _ | refine Mp.alloc ?_ _) | (refine neB ?_; omega)))
  have ma := Ma.out
  have na_W1 := Ma.lt
  have me := Me.out
  have ne_W1 := Me.lt
  have kaW1 : Acc w W1 := by
    refine Acc.call ?_ hb
    (repeat' (first | (with_reducible first | assumption | exact Acc.refl _ | refine Acc.drew ?_ | refine Acc.drewN ?_ _ | refine Acc.alloc ?_ _ | refine Acc.setCell ?_ ?_ _ | refine Acc.mapPut ?_ ?_ _ _) | (refine leB ?_; omega)))
  clear hb
  cases c with
  | false =>
    obtain ⟨s, rfl⟩ := h2 rfl
    clear h1 h2
    obtain rfl : O = none := HE.out.symm
    go_wp2_with fail
    go_ret2
    refine ⟨fun _ h => (by cases h), fun _ => ⟨_, rfl⟩, ?_⟩
    show Acc w _
    (repeat' (first | (with_reducible first | assumption | exact Acc.refl _ | refine Acc.drew ?_ | refine Acc.drewN ?_ _ | refine Acc.alloc ?_ _ | refine Acc.setCell ?_ ?_ _ | refine Acc.mapPut ?_ ?_ _ _) | (refine leB ?_; omega)))
  | true =>
    obtain rfl := h1 rfl
    clear h1 h2
    have e := HE.out
    rw [if_pos rfl] at e
    have HE := Lib.hid e
    clear e
    go_upto_region 4 with fail
    go_cut [7] (fun s7 wx => s7 = .bool (sa == sb) ∧ Mp wx (B) [v0, v1, v2, v3] ∧ Mp wx (C) [u0, u1, u2, u3] ∧ Acc w wx)
    case first =>
      go_region_with
        (first
          | (go_at_call_of 33 (v0); refine (HA.out _).mono ?_; rintro e W3 ⟨rfl, hb⟩; have Ma : Mp W3 (B) [v0, v1, v2, v3] := Mp.keep hb (by repeat' (first | (with_reducible first | assumption | refine Mp.drew ?_ | refine Mp.drewN ?_ _ | refine Mp.set ?_ _ _ | (refine Mp.new ?_; focus (first | rfl | (simp; done)))) | (refine Mp.put (vs := []) ?_ rfl rfl) | (refine Mp.put (vs := [v0]) ?_ rfl rfl) | (refine Mp.put (vs := [v0, v1]) ?_ rfl rfl) | (refine Mp.put (vs := [v0, v1, v2]) ?_ rfl rfl) | (with_reducible first | refine Mp.putOther ?_ ?_ _ _ | refine Mp.alloc ?_ _) | (refine neB ?_; omega))); have Me : Mp W3 (C) [u0, u1, u2, u3] := Mp.keep hb (by repeat' (first | (with_reducible first | assumption | refine Mp.drew ?_ | refine Mp.drewN ?_ _ | refine Mp.set ?_ _ _ | (refine Mp.new ?_; focus (first | rfl | (simp; done)))) | (refine Mp.put (vs := []) ?_ rfl rfl) | (refine Mp.put (vs := [u0]) ?_ rfl rfl) | (refine Mp.put (vs := [u0, u1]) ?_ rfl rfl) | (refine Mp.put (vs := [u0, u1, u2]) ?_ rfl rfl) | (with_reducible first | refine Mp.putOther ?_ ?_ _ _ | refine Mp.alloc ?_ _) | (refine neB ?_; omega))); have ma := Ma.out; have na_W3 := Ma.lt; have me := Me.out; have ne_W3 := Me.lt; have kaW3 : Acc w W3 := (by refine Acc.call ?_ hb; (repeat' (first | (with_reducible first | assumption | exact Acc.refl _ | refine Acc.drew ?_ | refine Acc.drewN ?_ _ | refine Acc.alloc ?_ _ | refine Acc.setCell ?_ ?_ _ | refine Acc.mapPut ?_ ?_ _ _) | (refine leB ?_; omega)))); clear hb)
          | (go_at_call_of 33 (u0); refine (HB.out _).mono ?_; rintro e W4 ⟨rfl, hb⟩; have Ma : Mp W4 (B) [v0, v1, v2, v3] := Mp.keep hb (by repeat' (first | (with_reducible first | assumption | refine Mp.drew ?_ | refine Mp.drewN ?_ _ | refine Mp.set ?_ _ _ | (refine Mp.new ?_; focus (first | rfl | (simp; done)))) | (refine Mp.put (vs := []) ?_ rfl rfl) | (refine Mp.put (vs := [v0]) ?_ rfl rfl) | (refine Mp.put (vs := [v0, v1]) ?_ rfl rfl) | (refine Mp.put (vs := [v0, v1, v2]) ?_ rfl rfl) | (with_reducible first | refine Mp.putOther ?_ ?_ _ _ | refine Mp.alloc ?_ _) | (refine neB ?_; omega))); have Me : Mp W4 (C) [u0, u1, u2, u3] := Mp.keep hb (by repeat' (first | (with_reducible first | assumption | refine Mp.drew ?_ | refine Mp.drewN ?_ _ | refine Mp.set ?_ _ _ | (refine Mp.new ?_; focus (first | rfl | (simp; done)))) | (refine Mp.put (vs := []) ?_ rfl rfl) | (refine Mp.put (vs := [u0]) ?_ rfl rfl) | (refine Mp.put (vs := [u0, u1]) ?_ rfl rfl) | (refine Mp.put (vs := [u0, u1, u2]) ?_ rfl rfl) | (with_reducible first | refine Mp.putOther ?_ ?_ _ _ | refine Mp.alloc ?_ _) | (refine neB ?_; omega))); have ma := Ma.out; have na_W4 := Ma.lt; have me := Me.out; have ne_W4 := Me.lt; have kaW4 : Acc w W4 := (by refine Acc.call ?_ hb; (repeat' (first | (with_reducible first | assumption | exact Acc.refl _ | refine Acc.drew ?_ | refine Acc.drewN ?_ _ | refine Acc.alloc ?_ _ | refine Acc.setCell ?_ ?_ _ | refine Acc.mapPut ?_ ?_ _ _) | (refine leB ?_; omega)))); clear hb))
      all_goals
        go_wp2_with fail
        go_meet
        refine ⟨by first | rfl | (simp; done) | (simp [*]; done), ?_, ?_, ?_⟩
        · (repeat' (first | (with_reducible first | assumption | refine Mp.drew ?_ | refine Mp.drewN ?_ _ | refine Mp.set ?_ _ _ | (refine Mp.new ?_; focus (first | rfl | (simp; done)))) | (refine Mp.put (vs := []) ?_ rfl rfl) | (refine Mp.put (vs := [v0]) ?_ rfl rfl) | (refine Mp.put (vs := [v0, v1]) ?_ rfl rfl) | (refine Mp.put (vs := [v0, v1, v2]) ?_ rfl rfl) | (with_reducible first | refine Mp.putOther ?_ ?_ _ _ | refine Mp.alloc ?_ _) | (refine neB ?_; omega)))
        · (repeat' (first | (with_reducible first | assumption | refine Mp.drew ?_ | refine Mp.drewN ?_ _ | refine Mp.set ?_ _ _ | (refine Mp.new ?_; focus (first | rfl | (simp; done)))) | (refine Mp.put (vs := []) ?_ rfl rfl) | (refine Mp.put (vs := [u0]) ?_ rfl rfl) | (refine Mp.put (vs := [u0, u1]) ?_ rfl rfl) | (refine Mp.put (vs := [u0, u1, u2]) ?_ rfl rfl) | (with_reducible first | refine Mp.putOther ?_ ?_ _ _ | refine Mp.alloc ?_ _) | (refine neB ?_; omega)))
        · show Acc w _
          (repeat' (first | (with_reducible first | assumption | exact Acc.refl _ | refine Acc.drew ?_ | refine Acc.drewN ?_ _ | refine Acc.alloc ?_ _ | refine Acc.setCell ?_ ?_ _ | refine Acc.mapPut ?_ ?_ _ _) | (refine leB ?_; omega)))
    case rest =>
      obtain ⟨rfl, Ma, Me, kawc⟩ := hcut
      have ma := Ma.out
      have na_wc := Ma.lt
      have me := Me.out
      have ne_wc := Me.lt
      obtain ⟨s, hs⟩ : ∃ k, (sa == sb) = k := ⟨_, rfl⟩
      have e := HE.out
      rw [hs] at e ⊢
      have HE := Lib.hid e
      clear e hs
      cases s with
      | true =>
        go_wp2_with fail
        refine wp_loop_rounds 5 ?_
        rw [rounds_succ]
        go_wp2_with fail
        refine wp_loop_rounds 1 ?_
        rw [rounds_succ]
        go_wp2_with fail
        rw [rounds_succ]
        go_wp2_with fail
        refine wp_loop_rounds 2 ?_
        rw [rounds_succ]
        go_wp2_with fail
        refine (HL10.out _).mono ?_
        rintro e W2 ⟨h1, h2, hb⟩
        have Ma : Mp W2 (B) [v0, v1, v2, v3] := Mp.keep hb (by repeat' (first | (with_reducible first | assumption | refine Mp.drew ?_ | refine Mp.drewN ?_ _ | refine Mp.set ?_ _ _ | (refine Mp.new ?_; focus (first | rfl | (simp; done)))) | (refine Mp.put (vs := []) ?_ rfl rfl) | (refine Mp.put (vs := [v0]) ?_ rfl rfl) | (refine Mp.put (vs := [v0, v1]) ?_ rfl rfl) | (refine Mp.put (vs := [v0, v1, v2]) ?_ rfl rfl) | (with_reducible first | refine Mp.putOther ?_ ?_ _ _ | refine Mp.alloc ?_ _) | (refine neB ?_; omega)))
        have Me : Mp W2 (C) [u0, u1, u2, u3] := Mp.keep hb (by repeat' (first | (with_reducible first | assumption | refine Mp.drew ?_ | refine Mp.drewN ?_ _ | refine Mp.set ?_ _ _ | (refine Mp.new ?_; focus (first | rfl | (simp; done)))) | (refine Mp.put (vs := []) ?_ rfl rfl) | (refine Mp.put (vs := [u0]) ?_ rfl rfl) | (refine Mp.put (vs := [u0, u1]) ?_ rfl rfl) | (refine Mp.put (vs := [u0, u1, u2]) ?_ rfl rfl) | (with_reducible first | refine Mp.putOther ?_ ?_ _ _ | refine Mp.alloc ?_ _) | (refine neB ?_; omega)))
        have ma := Ma.out
        have na_W2 := Ma.lt
        have me := Me.out
        have ne_W2 := Me.lt
        have kaW2 : Acc w W2 := by
          refine Acc.call ?_ hb
          (repeat' (first | (with_reducible first | assumption | exact Acc.refl _ | refine Acc.drew ?_ | refine Acc.drewN ?_ _ | refine Acc.alloc ?_ _ | refine Acc.setCell ?_ ?_ _ | refine Acc.mapPut ?_ ?_ _ _) | (refine leB ?_; omega)))
        clear hb
        cases o10 with
        | none =>
          obtain ⟨s, rfl⟩ := h2 rfl
          clear h1 h2
          obtain rfl : O = none := HE.out.symm.trans (foldO_n1 _ _ _)
          go_wp2_with fail
          go_ret2
          refine ⟨fun _ h => (by cases h), fun _ => ⟨_, rfl⟩, ?_⟩
          show Acc w _
          (repeat' (first | (with_reducible first | assumption | exact Acc.refl _ | refine Acc.drew ?_ | refine Acc.drewN ?_ _ | refine Acc.alloc ?_ _ | refine Acc.setCell ?_ ?_ _ | refine Acc.mapPut ?_ ?_ _ _) | (refine leB ?_; omega)))
        | some u =>
          obtain ⟨x1, x2, x3⟩ := u
          obtain rfl := h1 _ _ _ rfl
          clear h1 h2
          go_wp2_with fail
          refine (HR10.out _).mono ?_
          rintro e W3 ⟨h1, h2, hb⟩
          have Bx : Blk W3 (W2.heap.size) [.int .i64 x1, .int .i64 x2, .int .i64 x3] := Blk.keep hb (by repeat' (first | (with_reducible first | assumption | refine Blk.drew ?_ | refine Blk.drewN ?_ _ | refine Blk.mapPut ?_ _ _ | apply Blk.set | (refine Blk.new ?_; focus (first | rfl | (simp; done))) | refine Blk.alloc ?_ _ | refine Blk.other ?_ ?_ _) | exact eqL rfl | (refine neB ?_; omega)))
          have Ma : Mp W3 (B) [v0, v1, v2, v3] := Mp.keep hb (by repeat' (first | (with_reducible first | assumption | refine Mp.drew ?_ | refine Mp.drewN ?_ _ | refine Mp.set ?_ _ _ | (refine Mp.new ?_; focus (first | rfl | (simp; done)))) | (refine Mp.put (vs := []) ?_ rfl rfl) | (refine Mp.put (vs := [v0]) ?_ rfl rfl) | (refine Mp.put (vs := [v0, v1]) ?_ rfl rfl) | (refine Mp.put (vs := [v0, v1, v2]) ?_ rfl rfl) | (with_reducible first | refine Mp.putOther ?_ ?_ _ _ | refine Mp.alloc ?_ _) | (refine neB ?_; omega)))
          have Me : Mp W3 (C) [u0, u1, u2, u3] := Mp.keep hb (by repeat' (first | (with_reducible first | assumption | refine Mp.drew ?_ | refine Mp.drewN ?_ _ | refine Mp.set ?_ _ _ | (refine Mp.new ?_; focus (first | rfl | (simp; done)))) | (refine Mp.put (vs := []) ?_ rfl rfl) | (refine Mp.put (vs := [u0]) ?_ rfl rfl) | (refine Mp.put (vs := [u0, u1]) ?_ rfl rfl) | (refine Mp.put (vs := [u0, u1, u2]) ?_ rfl rfl) | (with_reducible first | refine Mp.putOther ?_ ?_ _ _ | refine Mp.alloc ?_ _) | (refine neB ?_; omega)))
          have cx := Bx.cell
          have fx := Bx.free
          have lx_W3 := Bx.lt
          have ma := Ma.out
          have na_W3 := Ma.lt
          have me := Me.out
          have ne_W3 := Me.lt
          have kaW3 : Acc w W3 := by
            refine Acc.call ?_ hb
            (repeat' (first | (with_reducible first | assumption | exact Acc.refl _ | refine Acc.drew ?_ | refine Acc.drewN ?_ _ | refine Acc.alloc ?_ _ | refine Acc.setCell ?_ ?_ _ | refine Acc.mapPut ?_ ?_ _ _) | (refine leB ?_; omega)))
          clear hb
          cases p10 with
          | none =>
            obtain ⟨s, rfl⟩ := h2 rfl
            clear h1 h2
            obtain rfl : O = none := HE.out.symm.trans (foldO_n2 _ _ _)
            go_wp2_with fail
            go_ret2
            refine ⟨fun _ h => (by cases h), fun _ => ⟨_, rfl⟩, ?_⟩
            show Acc w _
            (repeat' (first | (with_reducible first | assumption | exact Acc.refl _ | refine Acc.drew ?_ | refine Acc.drewN ?_ _ | refine Acc.alloc ?_ _ | refine Acc.setCell ?_ ?_ _ | refine Acc.mapPut ?_ ?_ _ _) | (refine leB ?_; omega)))
          | some u =>
            obtain ⟨y1, y2, y3⟩ := u
            obtain rfl := h1 _ _ _ rfl
            clear h1 h2
            have e := HE.out
            rw [foldO_on] at e
            obtain ⟨k, hk⟩ : ∃ k, (x1 == y1 && x2 == y2 && x3 == y3) = k := ⟨_, rfl⟩
            have qk := eqFr 9998 x1 x2 x3 y1 y2 y3
            rw [hk] at qk e
            clear hk
            cases k with
            | true =>
              rw [Bool.and_self] at e
              have HE := Lib.hid e
              clear e
              go_wp2_with fail
              clear qk
              rw [rounds_succ]
              go_wp2_with fail
              rw [rounds_succ]
              go_wp2_with fail
              refine wp_loop_rounds 3 ?_
              rw [rounds_succ]
              go_wp2_with fail
              refine (HL20.out _).mono ?_
              rintro e W4 ⟨h1, h2, hb⟩
              have Ma : Mp W4 (B) [v0, v1, v2, v3] := Mp.keep hb (by repeat' (first | (with_reducible first | assumption | refine Mp.drew ?_ | refine Mp.drewN ?_ _ | refine Mp.set ?_ _ _ | (refine Mp.new ?_; focus (first | rfl | (simp; done)))) | (refine Mp.put (vs := []) ?_ rfl rfl) | (refine Mp.put (vs := [v0]) ?_ rfl rfl) | (refine Mp.put (vs := [v0, v1]) ?_ rfl rfl) | (refine Mp.put (vs := [v0, v1, v2]) ?_ rfl rfl) | (with_reducible first | refine Mp.putOther ?_ ?_ _ _ | refine Mp.alloc ?_ _) | (refine neB ?_; omega)))
              have Me : Mp W4 (C) [u0, u1, u2, u3] := Mp.keep hb (by repeat' (first | (with_reducible first | assumption | refine Mp.drew ?_ | refine Mp.drewN ?_ _ | refine Mp.set ?_ _ _ | (refine Mp.new ?_; focus (first | rfl | (simp; done)))) | (refine Mp.put (vs := []) ?_ rfl rfl) | (refine Mp.put (vs := [u0]) ?_ rfl rfl) | (refine Mp.put (vs := [u0, u1]) ?_ rfl rfl) | (refine Mp.put (vs := [u0, u1, u2]) ?_ rfl rfl) | (with_reducible first | refine Mp.putOther ?_ ?_ _ _ | refine Mp.alloc ?_ _) | (refine neB ?_; omega)))
              have ma := Ma.out
              have na_W4 := Ma.lt
              have me := Me.out
              have ne_W4 := Me.lt
              have kaW4 : Acc w W4 := by
                refine Acc.call ?_ hb
                (repeat' (first | (with_reducible first | assumption | exact Acc.refl _ | refine Acc.drew ?_ | refine Acc.drewN ?_ _ | refine Acc.alloc ?_ _ | refine Acc.setCell ?_ ?_ _ | refine Acc.mapPut ?_ ?_ _ _) | (refine leB ?_; omega)))
              clear hb
              cases o20 with
              | none =>
                obtain ⟨s, rfl⟩ := h2 rfl
                clear h1 h2
                obtain rfl : O = none := HE.out.symm.trans (foldO_n1 _ _ _)
                go_wp2_with fail
                go_ret2
                refine ⟨fun _ h => (by cases h), fun _ => ⟨_, rfl⟩, ?_⟩
                show Acc w _
                (repeat' (first | (with_reducible first | assumption | exact Acc.refl _ | refine Acc.drew ?_ | refine Acc.drewN ?_ _ | refine Acc.alloc ?_ _ | refine Acc.setCell ?_ ?_ _ | refine Acc.mapPut ?_ ?_ _ _) | (refine leB ?_; omega)))
              | some u =>
                obtain ⟨x1, x2, x3⟩ := u
                obtain rfl := h1 _ _ _ rfl
                clear h1 h2
                go_wp2_with fail
                refine (HR20.out _).mono ?_
                rintro e W5 ⟨h1, h2, hb⟩
                have Bx : Blk W5 (W4.heap.size) [.int .i64 x1, .int .i64 x2, .int .i64 x3] := Blk.keep hb (by repeat' (first | (with_reducible first | assumption | refine Blk.drew ?_ | refine Blk.drewN ?_ _ | refine Blk.mapPut ?_ _ _ | apply Blk.set | (refine Blk.new ?_; focus (first | rfl | (simp; done))) | refine Blk.alloc ?_ _ | refine Blk.other ?_ ?_ _) | exact eqL rfl | (refine neB ?_; omega)))
                have Ma : Mp W5 (B) [v0, v1, v2, v3] := Mp.keep hb (by repeat' (first | (with_reducible first | assumption | refine Mp.drew ?_ | refine Mp.drewN ?_ _ | refine Mp.set ?_ _ _ | (refine Mp.new ?_; focus (first | rfl | (simp; done)))) | (refine Mp.put (vs := []) ?_ rfl rfl) | (refine Mp.put (vs := [v0]) ?_ rfl rfl) | (refine Mp.put (vs := [v0, v1]) ?_ rfl rfl) | (refine Mp.put (vs := [v0, v1, v2]) ?_ rfl rfl) | (with_reducible first | refine Mp.putOther ?_ ?_ _ _ | refine Mp.alloc ?_ _) | (refine neB ?_; omega)))
                have Me : Mp W5 (C) [u0, u1, u2, u3] := Mp.keep hb (by repeat' (first | (with_reducible first | assumption | refine Mp.drew ?_ | refine Mp.drewN ?_ _ | refine Mp.set ?_ _ _ | (refine Mp.new ?_; focus (first | rfl | (simp; done)))) | (refine Mp.put (vs := []) ?_ rfl rfl) | (refine Mp.put (vs := [u0]) ?_ rfl rfl) | (refine Mp.put (vs := [u0, u1]) ?_ rfl rfl) | (refine Mp.put (vs := [u0, u1, u2]) ?_ rfl rfl) | (with_reducible first | refine Mp.putOther ?_ ?_ _ _ | refine Mp.alloc ?_ _) | (refine neB ?_; omega)))
                have cx := Bx.cell
                have fx := Bx.free
                have lx_W5 := Bx.lt
                have ma := Ma.out
                have na_W5 := Ma.lt
                have me := Me.out
                have ne_W5 := Me.lt
                have kaW5 : Acc w W5 := by
                  refine Acc.call ?_ hb
                  (repeat' (first | (with_reducible first | assumption | exact Acc.refl _ | refine Acc.drew ?_ | refine Acc.drewN ?_ _ | refine Acc.alloc ?_ _ | refine Acc.setCell ?_ ?_ _ | refine Acc.mapPut ?_ ?_ _ _) | (refine leB ?_; omega)))
                clear hb
                cases p20 with
                | none =>
                  obtain ⟨s, rfl⟩ := h2 rfl
                  clear h1 h2
                  obtain rfl : O = none := HE.out.symm.trans (foldO_n2 _ _ _)
                  go_wp2_with fail
                  go_ret2
                  refine ⟨fun _ h => (by cases h), fun _ => ⟨_, rfl⟩, ?_⟩
                  show Acc w _
                  (repeat' (first | (with_reducible first | assumption | exact Acc.refl _ | refine Acc.drew ?_ | refine Acc.drewN ?_ _ | refine Acc.alloc ?_ _ | refine Acc.setCell ?_ ?_ _ | refine Acc.mapPut ?_ ?_ _ _) | (refine leB ?_; omega)))
                | some u =>
                  obtain ⟨y1, y2, y3⟩ := u
                  obtain rfl := h1 _ _ _ rfl
                  clear h1 h2
                  have e := HE.out
                  rw [foldO_on] at e
                  obtain ⟨k, hk⟩ : ∃ k, (x1 == y1 && x2 == y2 && x3 == y3) = k := ⟨_, rfl⟩
                  have qk := eqFr 9998 x1 x2 x3 y1 y2 y3
                  rw [hk] at qk e
                  clear hk
                  cases k with
                  | true =>
                    rw [Bool.and_self] at e
                    have HE := Lib.hid e
                    clear e
                    go_wp2_with fail
                    clear qk
                    rw [rounds_succ]
                    go_wp2_with fail
                    refine (HL21.out _).mono ?_
                    rintro e W6 ⟨h1, h2, hb⟩
                    have Ma : Mp W6 (B) [v0, v1, v2, v3] := Mp.keep hb (by repeat' (first | (with_reducible first | assumption | refine Mp.drew ?_ | refine Mp.drewN ?_ _ | refine Mp.set ?_ _ _ | (refine Mp.new ?_; focus (first | rfl | (simp; done)))) | (refine Mp.put (vs := []) ?_ rfl rfl) | (refine Mp.put (vs := [v0]) ?_ rfl rfl) | (refine Mp.put (vs := [v0, v1]) ?_ rfl rfl) | (refine Mp.put (vs := [v0, v1, v2]) ?_ rfl rfl) | (with_reducible first | refine Mp.putOther ?_ ?_ _ _ | refine Mp.alloc ?_ _) | (refine neB ?_; omega)))
                    have Me : Mp W6 (C) [u0, u1, u2, u3] := Mp.keep hb (by repeat' (first | (with_reducible first | assumption | refine Mp.drew ?_ | refine Mp.drewN ?_ _ | refine Mp.set ?_ _ _ | (refine Mp.new ?_; focus (first | rfl | (simp; done)))) | (refine Mp.put (vs := []) ?_ rfl rfl) | (refine Mp.put (vs := [u0]) ?_ rfl rfl) | (refine Mp.put (vs := [u0, u1]) ?_ rfl rfl) | (refine Mp.put (vs := [u0, u1, u2]) ?_ rfl rfl) | (with_reducible first | refine Mp.putOther ?_ ?_ _ _ | refine Mp.alloc ?_ _) | (refine neB ?_; omega)))
                    have ma := Ma.out
                    have na_W6 := Ma.lt
                    have me := Me.out
                    have ne_W6 := Me.lt
                    have kaW6 : Acc w W6 := by
                      refine Acc.call ?_ hb
                      (repeat' (first | (with_reducible first | assumption | exact Acc.refl _ | refine Acc.drew ?_ | refine Acc.drewN ?_ _ | refine Acc.alloc ?_ _ | refine Acc.setCell ?_ ?_ _ | refine Acc.mapPut ?_ ?_ _ _) | (refine leB ?_; omega)))
                    clear hb
                    cases o21 with
                    | none =>
                      obtain ⟨s, rfl⟩ := h2 rfl
                      clear h1 h2
                      obtain rfl : O = none := HE.out.symm.trans (foldO_n1 _ _ _)
                      go_wp2_with fail
                      go_ret2
                      refine ⟨fun _ h => (by cases h), fun _ => ⟨_, rfl⟩, ?_⟩
                      show Acc w _
                      (repeat' (first | (with_reducible first | assumption | exact Acc.refl _ | refine Acc.drew ?_ | refine Acc.drewN ?_ _ | refine Acc.alloc ?_ _ | refine Acc.setCell ?_ ?_ _ | refine Acc.mapPut ?_ ?_ _ _) | (refine leB ?_; omega)))
                    | some u =>
                      obtain ⟨x1, x2, x3⟩ := u
                      obtain rfl := h1 _ _ _ rfl
                      clear h1 h2
                      go_wp2_with fail
                      refine (HR21.out _).mono ?_
                      rintro e W7 ⟨h1, h2, hb⟩
                      have Bx : Blk W7 (W6.heap.size) [.int .i64 x1, .int .i64 x2, .int .i64 x3] := Blk.keep hb (by repeat' (first | (with_reducible first | assumption | refine Blk.drew ?_ | refine Blk.drewN ?_ _ | refine Blk.mapPut ?_ _ _ | apply Blk.set | (refine Blk.new ?_; focus (first | rfl | (simp; done))) | refine Blk.alloc ?_ _ | refine Blk.other ?_ ?_ _) | exact eqL rfl | (refine neB ?_; omega)))
                      have Ma : Mp W7 (B) [v0, v1, v2, v3] := Mp.keep hb (by repeat' (first | (with_reducible first | assumption | refine Mp.drew ?_ | refine Mp.drewN ?_ _ | refine Mp.set ?_ _ _ | (refine Mp.new ?_; focus (first | rfl | (simp; done)))) | (refine Mp.put (vs := []) ?_ rfl rfl) | (refine Mp.put (vs := [v0]) ?_ rfl rfl) | (refine Mp.put (vs := [v0, v1]) ?_ rfl rfl) | (refine Mp.put (vs := [v0, v1, v2]) ?_ rfl rfl) | (with_reducible first | refine Mp.putOther ?_ ?_ _ _ | refine Mp.alloc ?_ _) | (refine neB ?_; omega)))
                      have Me : Mp W7 (C) [u0, u1, u2, u3] := Mp.keep hb (by repeat' (first | (with_reducible first | assumption | refine Mp.drew ?_ | refine Mp.drewN ?_ _ | refine Mp.set ?_ _ _ | (refine Mp.new ?_; focus (first | rfl | (simp; done)))) | (refine Mp.put (vs := []) ?_ rfl rfl) | (refine Mp.put (vs := [u0]) ?_ rfl rfl) | (refine Mp.put (vs := [u0, u1]) ?_ rfl rfl) | (refine Mp.put (vs := [u0, u1, u2]) ?_ rfl rfl) | (with_reducible first | refine Mp.putOther ?_ ?_ _ _ | refine Mp.alloc ?_ _) | (refine neB ?_; omega)))
                      have cx := Bx.cell
                      have fx := Bx.free
                      have lx_W7 := Bx.lt
                      have ma := Ma.out
                      have na_W7 := Ma.lt
                      have me := Me.out
                      have ne_W7 := Me.lt
                      have kaW7 : Acc w W7 := by
                        refine Acc.call ?_ hb
                        (repeat' (first | (with_reducible first | assumption | exact Acc.refl _ | refine Acc.drew ?_ | refine Acc.drewN ?_ _ | refine Acc.alloc ?_ _ | refine Acc.setCell ?_ ?_ _ | refine Acc.mapPut ?_ ?_ _ _) | (refine leB ?_; omega)))
                      clear hb
                      cases p21 with
                      | none =>
                        obtain ⟨s, rfl⟩ := h2 rfl
                        clear h1 h2
                        obtain rfl : O = none := HE.out.symm.trans (foldO_n2 _ _ _)
                        go_wp2_with fail
                        go_ret2
                        refine ⟨fun _ h => (by cases h), fun _ => ⟨_, rfl⟩, ?_⟩
                        show Acc w _
                        (repeat' (first | (with_reducible first | assumption | exact Acc.refl _ | refine Acc.drew ?_ | refine Acc.drewN ?_ _ | refine Acc.alloc ?_ _ | refine Acc.setCell ?_ ?_ _ | refine Acc.mapPut ?_ ?_ _ _) | (refine leB ?_; omega)))
                      | some u =>
                        obtain ⟨y1, y2, y3⟩ := u
                        obtain rfl := h1 _ _ _ rfl
                        clear h1 h2
                        have e := HE.out
                        rw [foldO_on] at e
                        obtain ⟨k, hk⟩ : ∃ k, (x1 == y1 && x2 == y2 && x3 == y3) = k := ⟨_, rfl⟩
                        have qk := eqFr 9998 x1 x2 x3 y1 y2 y3
                        rw [hk] at qk e
                        clear hk
                        cases k with
                        | true =>
                          rw [Bool.and_self] at e
                          have HE := Lib.hid e
                          clear e
                          go_wp2_with fail
                          clear qk
                          rw [rounds_succ]
                          go_wp2_with fail
                          rw [rounds_succ]
                          go_wp2_with fail
                          refine wp_loop_rounds 4 ?_
                          rw [rounds_succ]
                          go_wp2_with fail
                          refine (HL30.out _).mono ?_
                          rintro e W8 ⟨h1, h2, hb⟩
                          have Ma : Mp W8 (B) [v0, v1, v2, v3] := Mp.keep hb (by repeat' (first | (with_reducible first | assumption | refine Mp.drew ?_ | refine Mp.drewN ?_ _ | refine Mp.set ?_ _ _ | (refine Mp.new ?_; focus (first | rfl | (simp; done)))) | (refine Mp.put (vs := []) ?_ rfl rfl) | (refine Mp.put (vs := [v0]) ?_ rfl rfl) | (refine Mp.put (vs := [v0, v1]) ?_ rfl rfl) | (refine Mp.put (vs := [v0, v1, v2]) ?_ rfl rfl) | (with_reducible first | refine Mp.putOther ?_ ?_ _ _ | refine Mp.alloc ?_ _) | (refine neB ?_; omega)))
                          have Me : Mp W8 (C) [u0, u1, u2, u3] := Mp.keep hb (by repeat' (first | (with_reducible first | assumption | refine Mp.drew ?_ | refine Mp.drewN ?_ _ | refine Mp.set ?_ _ _ | (refine Mp.new ?_; focus (first | rfl | (simp; done)))) | (refine Mp.put (vs := []) ?_ rfl rfl) | (refine Mp.put (vs := [u0]) ?_ rfl rfl) | (refine Mp.put (vs := [u0, u1]) ?_ rfl rfl) | (refine Mp.put (vs := [u0, u1, u2]) ?_ rfl rfl) | (with_reducible first | refine Mp.putOther ?_ ?_ _ _ | refine Mp.alloc ?_ _) | (refine neB ?_; omega)))
                          have ma := Ma.out
                          have na_W8 := Ma.lt
                          have me := Me.out
                          have ne_W8 := Me.lt
                          have kaW8 : Acc w W8 := by
                            refine Acc.call ?_ hb
                            (repeat' (first | (with_reducible first | assumption | exact Acc.refl _ | refine Acc.drew ?_ | refine Acc.drewN ?_ _ | refine Acc.alloc ?_ _ | refine Acc.setCell ?_ ?_ _ | refine Acc.mapPut ?_ ?_ _ _) | (refine leB ?_; omega)))
                          clear hb
                          cases o30 with
                          | none =>
                            obtain ⟨s, rfl⟩ := h2 rfl
                            clear h1 h2
                            obtain rfl : O = none := HE.out.symm.trans (foldO_n1 _ _ _)
                            go_wp2_with fail
                            go_ret2
                            refine ⟨fun _ h => (by cases h), fun _ => ⟨_, rfl⟩, ?_⟩
                            show Acc w _
                            (repeat' (first | (with_reducible first | assumption | exact Acc.refl _ | refine Acc.drew ?_ | refine Acc.drewN ?_ _ | refine Acc.alloc ?_ _ | refine Acc.setCell ?_ ?_ _ | refine Acc.mapPut ?_ ?_ _ _) | (refine leB ?_; omega)))
                          | some u =>
                            obtain ⟨x1, x2, x3⟩ := u
                            obtain rfl := h1 _ _ _ rfl
                            clear h1 h2
                            go_wp2_with fail
                            refine (HR30.out _).mono ?_
                            rintro e W9 ⟨h1, h2, hb⟩
                            have Bx : Blk W9 (W8.heap.size) [.int .i64 x1, .int .i64 x2, .int .i64 x3] := Blk.keep hb (by repeat' (first | (with_reducible first | assumption | refine Blk.drew ?_ | refine Blk.drewN ?_ _ | refine Blk.mapPut ?_ _ _ | apply Blk.set | (refine Blk.new ?_; focus (first | rfl | (simp; done))) | refine Blk.alloc ?_ _ | refine Blk.other ?_ ?_ _) | exact eqL rfl | (refine neB ?_; omega)))
                            have Ma : Mp W9 (B) [v0, v1, v2, v3] := Mp.keep hb (by repeat' (first | (with_reducible first | assumption | refine Mp.drew ?_ | refine Mp.drewN ?_ _ | refine Mp.set ?_ _ _ | (refine Mp.new ?_; focus (first | rfl | (simp; done)))) | (refine Mp.put (vs := []) ?_ rfl rfl) | (refine Mp.put (vs := [v0]) ?_ rfl rfl) | (refine Mp.put (vs := [v0, v1]) ?_ rfl rfl) | (refine Mp.put (vs := [v0, v1, v2]) ?_ rfl rfl) | (with_reducible first | refine Mp.putOther ?_ ?_ _ _ | refine Mp.alloc ?_ _) | (refine neB ?_; omega)))
                            have Me : Mp W9 (C) [u0, u1, u2, u3] := Mp.keep hb (by repeat' (first | (with_reducible first | assumption | refine Mp.drew ?_ | refine Mp.drewN ?_ _ | refine Mp.set ?_ _ _ | (refine Mp.new ?_; focus (first | rfl | (simp; done)))) | (refine Mp.put (vs := []) ?_ rfl rfl) | (refine Mp.put (vs := [u0]) ?_ rfl rfl) | (refine Mp.put (vs := [u0, u1]) ?_ rfl rfl) | (refine Mp.put (vs := [u0, u1, u2]) ?_ rfl rfl) | (with_reducible first | refine Mp.putOther ?_ ?_ _ _ | refine Mp.alloc ?_ _) | (refine neB ?_; omega)))
                            have cx := Bx.cell
                            have fx := Bx.free
                            have lx_W9 := Bx.lt
                            have ma := Ma.out
                            have na_W9 := Ma.lt
                            have me := Me.out
                            have ne_W9 := Me.lt
                            have kaW9 : Acc w W9 := by
                              refine Acc.call ?_ hb
                              (repeat' (first | (with_reducible first | assumption | exact Acc.refl _ | refine Acc.drew ?_ | refine Acc.drewN ?_ _ | refine Acc.alloc ?_ _ | refine Acc.setCell ?_ ?_ _ | refine Acc.mapPut ?_ ?_ _ _) | (refine leB ?_; omega)))
                            clear hb
                            cases p30 with
                            | none =>
                              obtain ⟨s, rfl⟩ := h2 rfl
                              clear h1 h2
                              obtain rfl : O = none := HE.out.symm.trans (foldO_n2 _ _ _)
                              go_wp2_with fail
                              go_ret2
                              refine ⟨fun _ h => (by cases h), fun _ => ⟨_, rfl⟩, ?_⟩
                              show Acc w _
                              (repeat' (first | (with_reducible first | assumption | exact Acc.refl _ | refine Acc.drew ?_ | refine Acc.drewN ?_ _ | refine Acc.alloc ?_ _ | refine Acc.setCell ?_ ?_ _ | refine Acc.mapPut ?_ ?_ _ _) | (refine leB ?_; omega)))
                            | some u =>
                              obtain ⟨y1, y2, y3⟩ := u
                              obtain rfl := h1 _ _ _ rfl
                              clear h1 h2
                              have e := HE.out
                              rw [foldO_on] at e
                              obtain ⟨k, hk⟩ : ∃ k, (x1 == y1 && x2 == y2 && x3 == y3) = k := ⟨_, rfl⟩
                              have qk := eqFr 9998 x1 x2 x3 y1 y2 y3
                              rw [hk] at qk e
                              clear hk
                              cases k with
                              | true =>
                                rw [Bool.and_self] at e
                                have HE := Lib.hid e
                                clear e
                                go_wp2_with fail
                                clear qk
                                rw [rounds_succ]
                                go_wp2_with fail
                                refine (HL31.out _).mono ?_
                                rintro e W10 ⟨h1, h2, hb⟩
                                have Ma : Mp W10 (B) [v0, v1, v2, v3] := Mp.keep hb (by repeat' (first | (with_reducible first | assumption | refine Mp.drew ?_ | refine Mp.drewN ?_ _ | refine Mp.set ?_ _ _ | (refine Mp.new ?_; focus (first | rfl | (simp; done)))) | (refine Mp.put (vs := []) ?_ rfl rfl) | (refine Mp.put (vs := [v0]) ?_ rfl rfl) | (refine Mp.put (vs := [v0, v1]) ?_ rfl rfl) | (refine Mp.put (vs := [v0, v1, v2]) ?_ rfl rfl) | (with_reducible first | refine Mp.putOther ?_ ?_ _ _ | refine Mp.alloc ?_ _) | (refine neB ?_; omega)))
                                have Me : Mp W10 (C) [u0, u1, u2, u3] := Mp.keep hb (by repeat' (first | (with_reducible first | assumption | refine Mp.drew ?_ | refine Mp.drewN ?_ _ | refine Mp.set ?_ _ _ | (refine Mp.new ?_; focus (first | rfl | (simp; done)))) | (refine Mp.put (vs := []) ?_ rfl rfl) | (refine Mp.put (vs := [u0]) ?_ rfl rfl) | (refine Mp.put (vs := [u0, u1]) ?_ rfl rfl) | (refine Mp.put (vs := [u0, u1, u2]) ?_ rfl rfl) | (with_reducible first | refine Mp.putOther ?_ ?_ _ _ | refine Mp.alloc ?_ _) | (refine neB ?_; omega)))
                                have ma := Ma.out
                                have na_W10 := Ma.lt
                                have me := Me.out
                                have ne_W10 := Me.lt
                                have kaW10 : Acc w W10 := by
                                  refine Acc.call ?_ hb
                                  (repeat' (first | (with_reducible first | assumption | exact Acc.refl _ | refine Acc.drew ?_ | refine Acc.drewN ?_ _ | refine Acc.alloc ?_ _ | refine Acc.setCell ?_ ?_ _ | refine Acc.mapPut ?_ ?_ _ _) | (refine leB ?_; omega)))
                                clear hb
                                cases o31 with
                                | none =>
                                  obtain ⟨s, rfl⟩ := h2 rfl
                                  clear h1 h2
                                  obtain rfl : O = none := HE.out.symm.trans (foldO_n1 _ _ _)
                                  go_wp2_with fail
                                  go_ret2
                                  refine ⟨fun _ h => (by cases h), fun _ => ⟨_, rfl⟩, ?_⟩
                                  show Acc w _
                                  (repeat' (first | (with_reducible first | assumption | exact Acc.refl _ | refine Acc.drew ?_ | refine Acc.drewN ?_ _ | refine Acc.alloc ?_ _ | refine Acc.setCell ?_ ?_ _ | refine Acc.mapPut ?_ ?_ _ _) | (refine leB ?_; omega)))
                                | some u =>
                                  obtain ⟨x1, x2, x3⟩ := u
                                  obtain rfl := h1 _ _ _ rfl
                                  clear h1 h2
                                  go_wp2_with fail
                                  refine (HR31.out _).mono ?_
                                  rintro e W11 ⟨h1, h2, hb⟩
                                  have Bx : Blk W11 (W10.heap.size) [.int .i64 x1, .int .i64 x2, .int .i64 x3] := Blk.keep hb (by repeat' (first | (with_reducible first | assumption | refine Blk.drew ?_ | refine Blk.drewN ?_ _ | refine Blk.mapPut ?_ _ _ | apply Blk.set | (refine Blk.new ?_; focus (first | rfl | (simp; done))) | refine Blk.alloc ?_ _ | refine Blk.other ?_ ?_ _) | exact eqL rfl | (refine neB ?_; omega)))
                                  have Ma : Mp W11 (B) [v0, v1, v2, v3] := Mp.keep hb (by repeat' (first | (with_reducible first | assumption | refine Mp.drew ?_ | refine Mp.drewN ?_ _ | refine Mp.set ?_ _ _ | (refine Mp.new ?_; focus (first | rfl | (simp; done)))) | (refine Mp.put (vs := []) ?_ rfl rfl) | (refine Mp.put (vs := [v0]) ?_ rfl rfl) | (refine Mp.put (vs := [v0, v1]) ?_ rfl rfl) | (refine Mp.put (vs := [v0, v1, v2]) ?_ rfl rfl) | (with_reducible first | refine Mp.putOther ?_ ?_ _ _ | refine Mp.alloc ?_ _) | (refine neB ?_; omega)))
                                  have Me : Mp W11 (C) [u0, u1, u2, u3] := Mp.keep hb (by repeat' (first | (with_reducible first | assumption | refine Mp.drew ?_ | refine Mp.drewN ?_ _ | refine Mp.set ?_ _ _ | (refine Mp.new ?_; focus (first | rfl | (simp; done)))) | (refine Mp.put (vs := []) ?_ rfl rfl) | (refine Mp.put (vs := [u0]) ?_ rfl rfl) | (refine Mp.put (vs := [u0, u1]) ?_ rfl rfl) | (refine Mp.put (vs := [u0, u1, u2]) ?_ rfl rfl) | (with_reducible first | refine Mp.putOther ?_ ?_ _ _ | refine Mp.alloc ?_ _) | (refine neB ?_; omega)))
                                  have cx := Bx.cell
                                  have fx := Bx.free
                                  have lx_W11 := Bx.lt
                                  have ma := Ma.out
                                  have na_W11 := Ma.lt
                                  have me := Me.out
                                  have ne_W11 := Me.lt
                                  have kaW11 : Acc w W11 := by
                                    refine Acc.call ?_ hb
                                    (repeat' (first | (with_reducible first | assumption | exact Acc.refl _ | refine Acc.drew ?_ | refine Acc.drewN ?_ _ | refine Acc.alloc ?_ _ | refine Acc.setCell ?_ ?_ _ | refine Acc.mapPut ?_ ?_ _ _) | (refine leB ?_; omega)))
                                  clear hb
                                  cases p31 with
                                  | none =>
                                    obtain ⟨s, rfl⟩ := h2 rfl
                                    clear h1 h2
                                    obtain rfl : O = none := HE.out.symm.trans (foldO_n2 _ _ _)
                                    go_wp2_with fail
                                    go_ret2
                                    refine ⟨fun _ h => (by cases h), fun _ => ⟨_, rfl⟩, ?_⟩
                                    show Acc w _
                                    (repeat' (first | (with_reducible first | assumption | exact Acc.refl _ | refine Acc.drew ?_ | refine Acc.drewN ?_ _ | refine Acc.alloc ?_ _ | refine Acc.setCell ?_ ?_ _ | refine Acc.mapPut ?_ ?_ _ _) | (refine leB ?_; omega)))
                                  | some u =>
                                    obtain ⟨y1, y2, y3⟩ := u
                                    obtain rfl := h1 _ _ _ rfl
                                    clear h1 h2
                                    have e := HE.out
                                    rw [foldO_on] at e
                                    obtain ⟨k, hk⟩ : ∃ k, (x1 == y1 && x2 == y2 && x3 == y3) = k := ⟨_, rfl⟩
                                    have qk := eqFr 9998 x1 x2 x3 y1 y2 y3
                                    rw [hk] at qk e
                                    clear hk
                                    cases k with
                                    | true =>
                                      rw [Bool.and_self] at e
                                      have HE := Lib.hid e
                                      clear e
                                      go_wp2_with fail
                                      clear qk
                                      rw [rounds_succ]
                                      go_wp2_with fail
                                      refine (HL32.out _).mono ?_
                                      rintro e W12 ⟨h1, h2, hb⟩
                                      have Ma : Mp W12 (B) [v0, v1, v2, v3] := Mp.keep hb (by repeat' (first | (with_reducible first | assumption | refine Mp.drew ?_ | refine Mp.drewN ?_ _ | refine Mp.set ?_ _ _ | (refine Mp.new ?_; focus (first | rfl | (simp; done)))) | (refine Mp.put (vs := []) ?_ rfl rfl) | (refine Mp.put (vs := [v0]) ?_ rfl rfl) | (refine Mp.put (vs := [v0, v1]) ?_ rfl rfl) | (refine Mp.put (vs := [v0, v1, v2]) ?_ rfl rfl) | (with_reducible first | refine Mp.putOther ?_ ?_ _ _ | refine Mp.alloc ?_ _) | (refine neB ?_; omega)))
                                      have Me : Mp W12 (C) [u0, u1, u2, u3] := Mp.keep hb (by repeat' (first | (with_reducible first | assumption | refine Mp.drew ?_ | refine Mp.drewN ?_ _ | refine Mp.set ?_ _ _ | (refine Mp.new ?_; focus (first | rfl | (simp; done)))) | (refine Mp.put (vs := []) ?_ rfl rfl) | (refine Mp.put (vs := [u0]) ?_ rfl rfl) | (refine Mp.put (vs := [u0, u1]) ?_ rfl rfl) | (refine Mp.put (vs := [u0, u1, u2]) ?_ rfl rfl) | (with_reducible first | refine Mp.putOther ?_ ?_ _ _ | refine Mp.alloc ?_ _) | (refine neB ?_; omega)))
                                      have ma := Ma.out
                                      have na_W12 := Ma.lt
                                      have me := Me.out
                                      have ne_W12 := Me.lt
                                      have kaW12 : Acc w W12 := by
                                        refine Acc.call ?_ hb
                                        (repeat' (first | (with_reducible first | assumption | exact Acc.refl _ | refine Acc.drew ?_ | refine Acc.drewN ?_ _ | refine Acc.alloc ?_ _ | refine Acc.setCell ?_ ?_ _ | refine Acc.mapPut ?_ ?_ _ _) | (refine leB ?_; omega)))
                                      clear hb
                                      cases o32 with
                                      | none =>
                                        obtain ⟨s, rfl⟩ := h2 rfl
                                        clear h1 h2
                                        obtain rfl : O = none := HE.out.symm.trans (foldO_n1 _ _ _)
                                        go_wp2_with fail
                                        go_ret2
                                        refine ⟨fun _ h => (by cases h), fun _ => ⟨_, rfl⟩, ?_⟩
                                        show Acc w _
                                        (repeat' (first | (with_reducible first | assumption | exact Acc.refl _ | refine Acc.drew ?_ | refine Acc.drewN ?_ _ | refine Acc.alloc ?_ _ | refine Acc.setCell ?_ ?_ _ | refine Acc.mapPut ?_ ?_ _ _) | (refine leB ?_; omega)))
                                      | some u =>
                                        obtain ⟨x1, x2, x3⟩ := u
                                        obtain rfl := h1 _ _ _ rfl
                                        clear h1 h2
                                        go_wp2_with fail
                                        refine (HR32.out _).mono ?_
                                        rintro e W13 ⟨h1, h2, hb⟩
                                        have Bx : Blk W13 (W12.heap.size) [.int .i64 x1, .int .i64 x2, .int .i64 x3] := Blk.keep hb (by repeat' (first | (with_reducible first | assumption | refine Blk.drew ?_ | refine Blk.drewN ?_ _ | refine Blk.mapPut ?_ _ _ | apply Blk.set | (refine Blk.new ?_; focus (first | rfl | (simp; done))) | refine Blk.alloc ?_ _ | refine Blk.other ?_ ?_ _) | exact eqL rfl | (refine neB ?_; omega)))
                                        have Ma : Mp W13 (B) [v0, v1, v2, v3] := Mp.keep hb (by repeat' (first | (with_reducible first | assumption | refine Mp.drew ?_ | refine Mp.drewN ?_ _ | refine Mp.set ?_ _ _ | (refine Mp.new ?_; focus (first | rfl | (simp; done)))) | (refine Mp.put (vs := []) ?_ rfl rfl) | (refine Mp.put (vs := [v0]) ?_ rfl rfl) | (refine Mp.put (vs := [v0, v1]) ?_ rfl rfl) | (refine Mp.put (vs := [v0, v1, v2]) ?_ rfl rfl) | (with_reducible first | refine Mp.putOther ?_ ?_ _ _ | refine Mp.alloc ?_ _) | (refine neB ?_; omega)))
                                        have Me : Mp W13 (C) [u0, u1, u2, u3] := Mp.keep hb (by repeat' (first | (with_reducible first | assumption | refine Mp.drew ?_ | refine Mp.drewN ?_ _ | refine Mp.set ?_ _ _ | (refine Mp.new ?_; focus (first | rfl | (simp; done)))) | (refine Mp.put (vs := []) ?_ rfl rfl) | (refine Mp.put (vs := [u0]) ?_ rfl rfl) | (refine Mp.put (vs := [u0, u1]) ?_ rfl rfl) | (refine Mp.put (vs := [u0, u1, u2]) ?_ rfl rfl) | (with_reducible first | refine Mp.putOther ?_ ?_ _ _ | refine Mp.alloc ?_ _) | (refine neB ?_; omega)))
                                        have cx := Bx.cell
                                        have fx := Bx.free
                                        have lx_W13 := Bx.lt
                                        have ma := Ma.out
                                        have na_W13 := Ma.lt
                                        have me := Me.out
                                        have ne_W13 := Me.lt
                                        have kaW13 : Acc w W13 := by
                                          refine Acc.call ?_ hb
                                          (repeat' (first | (with_reducible first | assumption | exact Acc.refl _ | refine Acc.drew ?_ | refine Acc.drewN ?_ _ | refine Acc.alloc ?_ _ | refine Acc.setCell ?_ ?_ _ | refine Acc.mapPut ?_ ?_ _ _) | (refine leB ?_; omega)))
                                        clear hb
                                        cases p32 with
                                        | none =>
                                          obtain ⟨s, rfl⟩ := h2 rfl
                                          clear h1 h2
                                          obtain rfl : O = none := HE.out.symm.trans (foldO_n2 _ _ _)
                                          go_wp2_with fail
                                          go_ret2
                                          refine ⟨fun _ h => (by cases h), fun _ => ⟨_, rfl⟩, ?_⟩
                                          show Acc w _
                                          (repeat' (first | (with_reducible first | assumption | exact Acc.refl _ | refine Acc.drew ?_ | refine Acc.drewN ?_ _ | refine Acc.alloc ?_ _ | refine Acc.setCell ?_ ?_ _ | refine Acc.mapPut ?_ ?_ _ _) | (refine leB ?_; omega)))
                                        | some u =>
                                          obtain ⟨y1, y2, y3⟩ := u
                                          obtain rfl := h1 _ _ _ rfl
                                          clear h1 h2
                                          have e := HE.out
                                          rw [foldO_on] at e
                                          obtain ⟨k, hk⟩ : ∃ k, (x1 == y1 && x2 == y2 && x3 == y3) = k := ⟨_, rfl⟩
                                          have qk := eqFr 9998 x1 x2 x3 y1 y2 y3
                                          rw [hk] at qk e
                                          clear hk
                                          cases k with
                                          | true =>
                                            rw [Bool.and_self] at e
                                            have HE := Lib.hid e
                                            clear e
                                            go_wp2_with fail
                                            clear qk
                                            rw [rounds_succ]
                                            go_wp2_with fail
                                            obtain rfl : O = some true := HE.out.symm
                                            rw [rounds_succ]
                                            go_wp2_with fail
                                            go_ret2
                                            refine ⟨fun _ h => (by cases h; rfl), fun h => (by cases h), ?_⟩
                                            show Acc w _
                                            (repeat' (first | (with_reducible first | assumption | exact Acc.refl _ | refine Acc.drew ?_ | refine Acc.drewN ?_ _ | refine Acc.alloc ?_ _ | refine Acc.setCell ?_ ?_ _ | refine Acc.mapPut ?_ ?_ _ _) | (refine leB ?_; omega)))
                                          | false =>
                                            rw [Bool.and_false] at e
                                            have HE := Lib.hid e
                                            clear e
                                            go_wp2_with fail
                                            clear qk
                                            rw [rounds_succ]
                                            go_wp2_with fail
                                            obtain rfl : O = some false := HE.out.symm
                                            rw [rounds_succ]
                                            go_wp2_with fail
                                            go_ret2
                                            refine ⟨fun _ h => (by cases h; rfl), fun h => (by cases h), ?_⟩
                                            show Acc w _
                                            (repeat' (first | (with_reducible first | assumption | exact Acc.refl _ | refine Acc.drew ?_ | refine Acc.drewN ?_ _ | refine Acc.alloc ?_ _ | refine Acc.setCell ?_ ?_ _ | refine Acc.mapPut ?_ ?_ _ _) | (refine leB ?_; omega)))
                                    | false =>
                                      rw [Bool.and_false] at e
                                      have HE := Lib.hid e
                                      clear e
                                      go_wp2_with fail
                                      clear qk
                                      rw [rounds_succ]
                                      go_wp2_with fail
                                      refine (HL32.out _).mono ?_
                                      rintro e W12 ⟨h1, h2, hb⟩
                                      have Ma : Mp W12 (B) [v0, v1, v2, v3] := Mp.keep hb (by repeat' (first | (with_reducible first | assumption | refine Mp.drew ?_ | refine Mp.drewN ?_ _ | refine Mp.set ?_ _ _ | (refine Mp.new ?_; focus (first | rfl | (simp; done)))) | (refine Mp.put (vs := []) ?_ rfl rfl) | (refine Mp.put (vs := [v0]) ?_ rfl rfl) | (refine Mp.put (vs := [v0, v1]) ?_ rfl rfl) | (refine Mp.put (vs := [v0, v1, v2]) ?_ rfl rfl) | (with_reducible first | refine Mp.putOther ?_ ?_ _ _ | refine Mp.alloc ?_ _) | (refine neB ?_; omega)))
                                      have Me : Mp W12 (C) [u0, u1, u2, u3] := Mp.keep hb (by repeat' (first | (with_reducible first | assumption | refine Mp.drew ?_ | refine Mp.drewN ?_ _ | refine Mp.set ?_ _ _ | (refine Mp.new ?_; focus (first | rfl | (simp; done)))) | (refine Mp.put (vs := []) ?_ rfl rfl) | (refine Mp.put (vs := [u0]) ?_ rfl rfl) | (refine Mp.put (vs := [u0, u1]) ?_ rfl rfl) | (refine Mp.put (vs := [u0, u1, u2]) ?_ rfl rfl) | (with_reducible first | refine Mp.putOther ?_ ?_ _ _ | refine Mp.alloc ?_ _) | (refine neB ?_; omega)))
                                      have ma := Ma.out
                                      have na_W12 := Ma.lt
                                      have me := Me.out
                                      have ne_W12 := Me.lt
                                      have kaW12 : Acc w W12 := by
                                        refine Acc.call ?_ hb
                                        (repeat' (first | (with_reducible first | assumption | exact Acc.refl _ | refine Acc.drew ?_ | refine Acc.drewN ?_ _ | refine Acc.alloc ?_ _ | refine Acc.setCell ?_ ?_ _ | refine Acc.mapPut ?_ ?_ _ _) | (refine leB ?_; omega)))
                                      clear hb
                                      cases o32 with
                                      | none =>
                                        obtain ⟨s, rfl⟩ := h2 rfl
                                        clear h1 h2
                                        obtain rfl : O = none := HE.out.symm.trans (foldO_n1 _ _ _)
                                        go_wp2_with fail
                                        go_ret2
                                        refine ⟨fun _ h => (by cases h), fun _ => ⟨_, rfl⟩, ?_⟩
                                        show Acc w _
                                        (repeat' (first | (with_reducible first | assumption | exact Acc.refl _ | refine Acc.drew ?_ | refine Acc.drewN ?_ _ | refine Acc.alloc ?_ _ | refine Acc.setCell ?_ ?_ _ | refine Acc.mapPut ?_ ?_ _ _) | (refine leB ?_; omega)))
                                      | some u =>
                                        obtain ⟨x1, x2, x3⟩ := u
                                        obtain rfl := h1 _ _ _ rfl
                                        clear h1 h2
                                        go_wp2_with fail
                                        refine (HR32.out _).mono ?_
                                        rintro e W13 ⟨h1, h2, hb⟩
                                        have Bx : Blk W13 (W12.heap.size) [.int .i64 x1, .int .i64 x2, .int .i64 x3] := Blk.keep hb (by repeat' (first | (with_reducible first | assumption | refine Blk.drew ?_ | refine Blk.drewN ?_ _ | refine Blk.mapPut ?_ _ _ | apply Blk.set | (refine Blk.new ?_; focus (first | rfl | (simp; done))) | refine Blk.alloc ?_ _ | refine Blk.other ?_ ?_ _) | exact eqL rfl | (refine neB ?_; omega)))
                                        have Ma : Mp W13 (B) [v0, v1, v2, v3] := Mp.keep hb (by repeat' (first | (with_reducible first | assumption | refine Mp.drew ?_ | refine Mp.drewN ?_ _ | refine Mp.set ?_ _ _ | (refine Mp.new ?_; focus (first | rfl | (simp; done)))) | (refine Mp.put (vs := []) ?_ rfl rfl) | (refine Mp.put (vs := [v0]) ?_ rfl rfl) | (refine Mp.put (vs := [v0, v1]) ?_ rfl rfl) | (refine Mp.put (vs := [v0, v1, v2]) ?_ rfl rfl) | (with_reducible first | refine Mp.putOther ?_ ?_ _ _ | refine Mp.alloc ?_ _) | (refine neB ?_; omega)))
                                        have Me : Mp W13 (C) [u0, u1, u2, u3] := Mp.keep hb (by repeat' (first | (with_reducible first | assumption | refine Mp.drew ?_ | refine Mp.drewN ?_ _ | refine Mp.set ?_ _ _ | (refine Mp.new ?_; focus (first | rfl | (simp; done)))) | (refine Mp.put (vs := []) ?_ rfl rfl) | (refine Mp.put (vs := [u0]) ?_ rfl rfl) | (refine Mp.put (vs := [u0, u1]) ?_ rfl rfl) | (refine Mp.put (vs := [u0, u1, u2]) ?_ rfl rfl) | (with_reducible first | refine Mp.putOther ?_ ?_ _ _ | refine Mp.alloc ?_ _) | (refine neB ?_; omega)))
                                        have cx := Bx.cell
                                        have fx := Bx.free
                                        have lx_W13 := Bx.lt
                                        have ma := Ma.out
                                        have na_W13 := Ma.lt
                                        have me := Me.out
                                        have ne_W13 := Me.lt
                                        have kaW13 : Acc w W13 := by
                                          refine Acc.call ?_ hb
                                          (repeat' (first | (with_reducible first | assumption | exact Acc.refl _ | refine Acc.drew ?_ | refine Acc.drewN ?_ _ | refine Acc.alloc ?_ _ | refine Acc.setCell ?_ ?_ _ | refine Acc.mapPut ?_ ?_ _ _) | (refine leB ?_; omega)))
                                        clear hb
                                        cases p32 with
                                        | none =>
                                          obtain ⟨s, rfl⟩ := h2 rfl
                                          clear h1 h2
                                          obtain rfl : O = none := HE.out.symm.trans (foldO_n2 _ _ _)
                                          go_wp2_with fail
                                          go_ret2
                                          refine ⟨fun _ h => (by cases h), fun _ => ⟨_, rfl⟩, ?_⟩
                                          show Acc w _
                                          (repeat' (first | (with_reducible first | assumption | exact Acc.refl _ | refine Acc.drew ?_ | refine Acc.drewN ?_ _ | refine Acc.alloc ?_ _ | refine Acc.setCell ?_ ?_ _ | refine Acc.mapPut ?_ ?_ _ _) | (refine leB ?_; omega)))
                                        | some u =>
                                          obtain ⟨y1, y2, y3⟩ := u
                                          obtain rfl := h1 _ _ _ rfl
                                          clear h1 h2
                                          have e := HE.out
                                          rw [foldO_on] at e
                                          rw [Bool.false_and] at e
                                          have HE := Lib.hid e
                                          clear e
                                          go_wp2_with fail
                                          rw [rounds_succ]
                                          go_wp2_with fail
                                          obtain rfl : O = some false := HE.out.symm
                                          rw [rounds_succ]
                                          go_wp2_with fail
                                          go_ret2
                                          refine ⟨fun _ h => (by cases h; rfl), fun h => (by cases h), ?_⟩
                                          show Acc w _
                                          (repeat' (first | (with_reducible first | assumption | exact Acc.refl _ | refine Acc.drew ?_ | refine Acc.drewN ?_ _ | refine Acc.alloc ?_ _ | refine Acc.setCell ?_ ?_ _ | refine Acc.mapPut ?_ ?_ _ _) | (refine leB ?_; omega)))
                              | false =>
                                rw [Bool.and_false] at e
                                have HE := Lib.hid e
                                clear e
                                go_wp2_with fail
                                clear qk
                                rw [rounds_succ]
                                go_wp2_with fail
                                refine (HL31.out _).mono ?_
                                rintro e W10 ⟨h1, h2, hb⟩
                                have Ma : Mp W10 (B) [v0, v1, v2, v3] := Mp.keep hb (by repeat' (first | (with_reducible first | assumption | refine Mp.drew ?_ | refine Mp.drewN ?_ _ | refine Mp.set ?_ _ _ | (refine Mp.new ?_; focus (first | rfl | (simp; done)))) | (refine Mp.put (vs := []) ?_ rfl rfl) | (refine Mp.put (vs := [v0]) ?_ rfl rfl) | (refine Mp.put (vs := [v0, v1]) ?_ rfl rfl) | (refine Mp.put (vs := [v0, v1, v2]) ?_ rfl rfl) | (with_reducible first | refine Mp.putOther ?_ ?_ _ _ | refine Mp.alloc ?_ _) | (refine neB ?_; omega)))
                                have Me : Mp W10 (C) [u0, u1, u2, u3] := Mp.keep hb (by repeat' (first | (with_reducible first | assumption | refine Mp.drew ?_ | refine Mp.drewN ?_ _ | refine Mp.set ?_ _ _ | (refine Mp.new ?_; focus (first | rfl | (simp; done)))) | (refine Mp.put (vs := []) ?_ rfl rfl) | (refine Mp.put (vs := [u0]) ?_ rfl rfl) | (refine Mp.put (vs := [u0, u1]) ?_ rfl rfl) | (refine Mp.put (vs := [u0, u1, u2]) ?_ rfl rfl) | (with_reducible first | refine Mp.putOther ?_ ?_ _ _ | refine Mp.alloc ?_ _) | (refine neB ?_; omega)))
                                have ma := Ma.out
                                have na_W10 := Ma.lt
                                have me := Me.out
                                have ne_W10 := Me.lt
                                have kaW10 : Acc w W10 := by
                                  refine Acc.call ?_ hb
                                  (repeat' (first | (with_reducible first | assumption | exact Acc.refl _ | refine Acc.drew ?_ | refine Acc.drewN ?_ _ | refine Acc.alloc ?_ _ | refine Acc.setCell ?_ ?_ _ | refine Acc.mapPut ?_ ?_ _ _) | (refine leB ?_; omega)))
                                clear hb
                                cases o31 with
                                | none =>
                                  obtain ⟨s, rfl⟩ := h2 rfl
                                  clear h1 h2
                                  obtain rfl : O = none := HE.out.symm.trans (foldO_n1 _ _ _)
                                  go_wp2_with fail
                                  go_ret2
                                  refine ⟨fun _ h => (by cases h), fun _ => ⟨_, rfl⟩, ?_⟩
                                  show Acc w _
                                  (repeat' (first | (with_reducible first | assumption | exact Acc.refl _ | refine Acc.drew ?_ | refine Acc.drewN ?_ _ | refine Acc.alloc ?_ _ | refine Acc.setCell ?_ ?_ _ | refine Acc.mapPut ?_ ?_ _ _) | (refine leB ?_; omega)))
                                | some u =>
                                  obtain ⟨x1, x2, x3⟩ := u
                                  obtain rfl := h1 _ _ _ rfl
                                  clear h1 h2
                                  go_wp2_with fail
                                  refine (HR31.out _).mono ?_
                                  rintro e W11 ⟨h1, h2, hb⟩
                                  have Bx : Blk W11 (W10.heap.size) [.int .i64 x1, .int .i64 x2, .int .i64 x3] := Blk.keep hb (by repeat' (first | (with_reducible first | assumption | refine Blk.drew ?_ | refine Blk.drewN ?_ _ | refine Blk.mapPut ?_ _ _ | apply Blk.set | (refine Blk.new ?_; focus (first | rfl | (simp; done))) | refine Blk.alloc ?_ _ | refine Blk.other ?_ ?_ _) | exact eqL rfl | (refine neB ?_; omega)))
                                  have Ma : Mp W11 (B) [v0, v1, v2, v3] := Mp.keep hb (by repeat' (first | (with_reducible first | assumption | refine Mp.drew ?_ | refine Mp.drewN ?_ _ | refine Mp.set ?_ _ _ | (refine Mp.new ?_; focus (first | rfl | (simp; done)))) | (refine Mp.put (vs := []) ?_ rfl rfl) | (refine Mp.put (vs := [v0]) ?_ rfl rfl) | (refine Mp.put (vs := [v0, v1]) ?_ rfl rfl) | (refine Mp.put (vs := [v0, v1, v2]) ?_ rfl rfl) | (with_reducible first | refine Mp.putOther ?_ ?_ _ _ | refine Mp.alloc ?_ _) | (refine neB ?_; omega)))
                                  have Me : Mp W11 (C) [u0, u1, u2, u3] := Mp.keep hb (by repeat' (first | (with_reducible first | assumption | refine Mp.drew ?_ | refine Mp.drewN ?_ _ | refine Mp.set ?_ _ _ | (refine Mp.new ?_; focus (first | rfl | (simp; done)))) | (refine Mp.put (vs := []) ?_ rfl rfl) | (refine Mp.put (vs := [u0]) ?_ rfl rfl) | (refine Mp.put (vs := [u0, u1]) ?_ rfl rfl) | (refine Mp.put (vs := [u0, u1, u2]) ?_ rfl rfl) | (with_reducible first | refine Mp.putOther ?_ ?_ _ _ | refine Mp.alloc ?_ _) | (refine neB ?_; omega)))
                                  have cx := Bx.cell
                                  have fx := Bx.free
                                  have lx_W11 := Bx.lt
                                  have ma := Ma.out
                                  have na_W11 := Ma.lt
                                  have me := Me.out
                                  have ne_W11 := Me.lt
                                  have kaW11 : Acc w W11 := by
                                    refine Acc.call ?_ hb
                                    (repeat' (first | (with_reducible first | assumption | exact Acc.refl _ | refine Acc.drew ?_ | refine Acc.drewN ?_ _ | refine Acc.alloc ?_ _ | refine Acc.setCell ?_ ?_ _ | refine Acc.mapPut ?_ ?_ _ _) | (refine leB ?_; omega)))
                                  clear hb
                                  cases p31 with
                                  | none =>
                                    obtain ⟨s, rfl⟩ := h2 rfl
                                    clear h1 h2
                                    obtain rfl : O = none := HE.out.symm.trans (foldO_n2 _ _ _)
                                    go_wp2_with fail
                                    go_ret2
                                    refine ⟨fun _ h => (by cases h), fun _ => ⟨_, rfl⟩, ?_⟩
                                    show Acc w _
                                    (repeat' (first | (with_reducible first | assumption | exact Acc.refl _ | refine Acc.drew ?_ | refine Acc.drewN ?_ _ | refine Acc.alloc ?_ _ | refine Acc.setCell ?_ ?_ _ | refine Acc.mapPut ?_ ?_ _ _) | (refine leB ?_; omega)))
                                  | some u =>
                                    obtain ⟨y1, y2, y3⟩ := u
                                    obtain rfl := h1 _ _ _ rfl
                                    clear h1 h2
                                    have e := HE.out
                                    rw [foldO_on] at e
                                    rw [Bool.false_and] at e
                                    have HE := Lib.hid e
                                    clear e
                                    go_wp2_with fail
                                    rw [rounds_succ]
                                    go_wp2_with fail
                                    refine (HL32.out _).mono ?_
                                    rintro e W12 ⟨h1, h2, hb⟩
                                    have Ma : Mp W12 (B) [v0, v1, v2, v3] := Mp.keep hb (by repeat' (first | (with_reducible first | assumption | refine Mp.drew ?_ | refine Mp.drewN ?_ _ | refine Mp.set ?_ _ _ | (refine Mp.new ?_; focus (first | rfl | (simp; done)))) | (refine Mp.put (vs := []) ?_ rfl rfl) | (refine Mp.put (vs := [v0]) ?_ rfl rfl) | (refine Mp.put (vs := [v0, v1]) ?_ rfl rfl) | (refine Mp.put (vs := [v0, v1, v2]) ?_ rfl rfl) | (with_reducible first | refine Mp.putOther ?_ ?_ _ _ | refine Mp.alloc ?_ _) | (refine neB ?_; omega)))
                                    have Me : Mp W12 (C) [u0, u1, u2, u3] := Mp.keep hb (by repeat' (first | (with_reducible first | assumption | refine Mp.drew ?_ | refine Mp.drewN ?_ _ | refine Mp.set ?_ _ _ | (refine Mp.new ?_; focus (first | rfl | (simp; done)))) | (refine Mp.put (vs := []) ?_ rfl rfl) | (refine Mp.put (vs := [u0]) ?_ rfl rfl) | (refine Mp.put (vs := [u0, u1]) ?_ rfl rfl) | (refine Mp.put (vs := [u0, u1, u2]) ?_ rfl rfl) | (with_reducible first | refine Mp.putOther ?_ ?_ _ _ | refine Mp.alloc ?_ _) | (refine neB ?_; omega)))
                                    have ma := Ma.out
                                    have na_W12 := Ma.lt
                                    have me := Me.out
                                    have ne_W12 := Me.lt
                                    have kaW12 : Acc w W12 := by
                                      refine Acc.call ?_ hb
                                      (repeat' (first | (with_reducible first | assumption | exact Acc.refl _ | refine Acc.drew ?_ | refine Acc.drewN ?_ _ | refine Acc.alloc ?_ _ | refine Acc.setCell ?_ ?_ _ | refine Acc.mapPut ?_ ?_ _ _) | (refine leB ?_; omega)))
                                    clear hb
                                    cases o32 with
                                    | none =>
                                      obtain ⟨s, rfl⟩ := h2 rfl
                                      clear h1 h2
                                      obtain rfl : O = none := HE.out.symm.trans (foldO_n1 _ _ _)
                                      go_wp2_with fail
                                      go_ret2
                                      refine ⟨fun _ h => (by cases h), fun _ => ⟨_, rfl⟩, ?_⟩
                                      show Acc w _
                                      (repeat' (first | (with_reducible first | assumption | exact Acc.refl _ | refine Acc.drew ?_ | refine Acc.drewN ?_ _ | refine Acc.alloc ?_ _ | refine Acc.setCell ?_ ?_ _ | refine Acc.mapPut ?_ ?_ _ _) | (refine leB ?_; omega)))
                                    | some u =>
                                      obtain ⟨x1, x2, x3⟩ := u
                                      obtain rfl := h1 _ _ _ rfl
                                      clear h1 h2
                                      go_wp2_with fail
                                      refine (HR32.out _).mono ?_
                                      rintro e W13 ⟨h1, h2, hb⟩
                                      have Bx : Blk W13 (W12.heap.size) [.int .i64 x1, .int .i64 x2, .int .i64 x3] := Blk.keep hb (by repeat' (first | (with_reducible first | assumption | refine Blk.drew ?_ | refine Blk.drewN ?_ _ | refine Blk.mapPut ?_ _ _ | apply Blk.set | (refine Blk.new ?_; focus (first | rfl | (simp; done))) | refine Blk.alloc ?_ _ | refine Blk.other ?_ ?_ _) | exact eqL rfl | (refine neB ?_; omega)))
                                      have Ma : Mp W13 (B) [v0, v1, v2, v3] := Mp.keep hb (by repeat' (first | (with_reducible first | assumption | refine Mp.drew ?_ | refine Mp.drewN ?_ _ | refine Mp.set ?_ _ _ | (refine Mp.new ?_; focus (first | rfl | (simp; done)))) | (refine Mp.put (vs := []) ?_ rfl rfl) | (refine Mp.put (vs := [v0]) ?_ rfl rfl) | (refine Mp.put (vs := [v0, v1]) ?_ rfl rfl) | (refine Mp.put (vs := [v0, v1, v2]) ?_ rfl rfl) | (with_reducible first | refine Mp.putOther ?_ ?_ _ _ | refine Mp.alloc ?_ _) | (refine neB ?_; omega)))
                                      have Me : Mp W13 (C) [u0, u1, u2, u3] := Mp.keep hb (by repeat' (first | (with_reducible first | assumption | refine Mp.drew ?_ | refine Mp.drewN ?_ _ | refine Mp.set ?_ _ _ | (refine Mp.new ?_; focus (first | rfl | (simp; done)))) | (refine Mp.put (vs := []) ?_ rfl rfl) | (refine Mp.put (vs := [u0]) ?_ rfl rfl) | (refine Mp.put (vs := [u0, u1]) ?_ rfl rfl) | (refine Mp.put (vs := [u0, u1, u2]) ?_ rfl rfl) | (with_reducible first | refine Mp.putOther ?_ ?_ _ _ | refine Mp.alloc ?_ _) | (refine neB ?_; omega)))
                                      have cx := Bx.cell
                                      have fx := Bx.free
                                      have lx_W13 := Bx.lt
                                      have ma := Ma.out
                                      have na_W13 := Ma.lt
                                      have me := Me.out
                                      have ne_W13 := Me.lt
                                      have kaW13 : Acc w W13 := by
                                        refine Acc.call ?_ hb
                                        (repeat' (first | (with_reducible first | assumption | exact Acc.refl _ | refine Acc.drew ?_ | refine Acc.drewN ?_ _ | refine Acc.alloc ?_ _ | refine Acc.setCell ?_ ?_ _ | refine Acc.mapPut ?_ ?_ _ _) | (refine leB ?_; omega)))
                                      clear hb
                                      cases p32 with
                                      | none =>
                                        obtain ⟨s, rfl⟩ := h2 rfl
                                        clear h1 h2
                                        obtain rfl : O = none := HE.out.symm.trans (foldO_n2 _ _ _)
                                        go_wp2_with fail
                                        go_ret2
                                        refine ⟨fun _ h => (by cases h), fun _ => ⟨_, rfl⟩, ?_⟩
                                        show Acc w _
                                        (repeat' (first | (with_reducible first | assumption | exact Acc.refl _ | refine Acc.drew ?_ | refine Acc.drewN ?_ _ | refine Acc.alloc ?_ _ | refine Acc.setCell ?_ ?_ _ | refine Acc.mapPut ?_ ?_ _ _) | (refine leB ?_; omega)))
                                      | some u =>
                                        obtain ⟨y1, y2, y3⟩ := u
                                        obtain rfl := h1 _ _ _ rfl
                                        clear h1 h2
                                        have e := HE.out
                                        rw [foldO_on] at e
                                        rw [Bool.false_and] at e
                                        have HE := Lib.hid e
                                        clear e
                                        go_wp2_with fail
                                        rw [rounds_succ]
                                        go_wp2_with fail
                                        obtain rfl : O = some false := HE.out.symm
                                        rw [rounds_succ]
                                        go_wp2_with fail
                                        go_ret2
                                        refine ⟨fun _ h => (by cases h; rfl), fun h => (by cases h), ?_⟩
                                        show Acc w _
                                        (repeat' (first | (with_reducible first | assumption | exact Acc.refl _ | refine Acc.drew ?_ | refine Acc.drewN ?_ _ | refine Acc.alloc ?_ _ | refine Acc.setCell ?_ ?_ _ | refine Acc.mapPut ?_ ?_ _ _) | (refine leB ?_; omega)))
                        | false =>
                          rw [Bool.and_false] at e
                          have HE := Lib.hid e
                          clear e
                          go_wp2_with fail
                          clear qk
                          rw [rounds_succ]
                          go_wp2_with fail
                          rw [rounds_succ]
                          go_wp2_with fail
                          refine wp_loop_rounds 4 ?_
                          rw [rounds_succ]
                          go_wp2_with fail
                          refine (HL30.out _).mono ?_
                          rintro e W8 ⟨h1, h2, hb⟩
                          have Ma : Mp W8 (B) [v0, v1, v2, v3] := Mp.keep hb (by repeat' (first | (with_reducible first | assumption | refine Mp.drew ?_ | refine Mp.drewN ?_ _ | refine Mp.set ?_ _ _ | (refine Mp.new ?_; focus (first | rfl | (simp; done)))) | (refine Mp.put (vs := []) ?_ rfl rfl) | (refine Mp.put (vs := [v0]) ?_ rfl rfl) | (refine Mp.put (vs := [v0, v1]) ?_ rfl rfl) | (refine Mp.put (vs := [v0, v1, v2]) ?_ rfl rfl) | (with_reducible first | refine Mp.putOther ?_ ?_ _ _ | refine Mp.alloc ?_ _) | (refine neB ?_; omega)))
                          have Me : Mp W8 (C) [u0, u1, u2, u3] := Mp.keep hb (by repeat' (first | (with_reducible first | assumption | refine Mp.drew ?_ | refine Mp.drewN ?_ _ | refine Mp.set ?_ _ _ | (refine Mp.new ?_; focus (first | rfl | (simp; done)))) | (refine Mp.put (vs := []) ?_ rfl rfl) | (refine Mp.put (vs := [u0]) ?_ rfl rfl) | (refine Mp.put (vs := [u0, u1]) ?_ rfl rfl) | (refine Mp.put (vs := [u0, u1, u2]) ?_ rfl rfl) | (with_reducible first | refine Mp.putOther ?_ ?_ _ _ | refine Mp.alloc ?_ _) | (refine neB ?_; omega)))
                          have ma := Ma.out
                          have na_W8 := Ma.lt
                          have me := Me.out
                          have ne_W8 := Me.lt
                          have kaW8 : Acc w W8 := by
                            refine Acc.call ?_ hb
                            (repeat' (first | (with_reducible first | assumption | exact Acc.refl _ | refine Acc.drew ?_ | refine Acc.drewN ?_ _ | refine Acc.alloc ?_ _ | refine Acc.setCell ?_ ?_ _ | refine Acc.mapPut ?_ ?_ _ _) | (refine leB ?_; omega)))
                          clear hb
                          cases o30 with
                          | none =>
                            obtain ⟨s, rfl⟩ := h2 rfl
                            clear h1 h2
                            obtain rfl : O = none := HE.out.symm.trans (foldO_n1 _ _ _)
                            go_wp2_with fail
                            go_ret2
                            refine ⟨fun _ h => (by cases h), fun _ => ⟨_, rfl⟩, ?_⟩
                            show Acc w _
                            (repeat' (first | (with_reducible first | assumption | exact Acc.refl _ | refine Acc.drew ?_ | refine Acc.drewN ?_ _ | refine Acc.alloc ?_ _ | refine Acc.setCell ?_ ?_ _ | refine Acc.mapPut ?_ ?_ _ _) | (refine leB ?_; omega)))
                          | some u =>
                            obtain ⟨x1, x2, x3⟩ := u
                            obtain rfl := h1 _ _ _ rfl
                            clear h1 h2
                            go_wp2_with fail
                            refine (HR30.out _).mono ?_
                            rintro e W9 ⟨h1, h2, hb⟩
                            have Bx : Blk W9 (W8.heap.size) [.int .i64 x1, .int .i64 x2, .int .i64 x3] := Blk.keep hb (by repeat' (first | (with_reducible first | assumption | refine Blk.drew ?_ | refine Blk.drewN ?_ _ | refine Blk.mapPut ?_ _ _ | apply Blk.set | (refine Blk.new ?_; focus (first | rfl | (simp; done))) | refine Blk.alloc ?_ _ | refine Blk.other ?_ ?_ _) | exact eqL rfl | (refine neB ?_; omega)))
                            have Ma : Mp W9 (B) [v0, v1, v2, v3] := Mp.keep hb (by repeat' (first | (with_reducible first | assumption | refine Mp.drew ?_ | refine Mp.drewN ?_ _ | refine Mp.set ?_ _ _ | (refine Mp.new ?_; focus (first | rfl | (simp; done)))) | (refine Mp.put (vs := []) ?_ rfl rfl) | (refine Mp.put (vs := [v0]) ?_ rfl rfl) | (refine Mp.put (vs := [v0, v1]) ?_ rfl rfl) | (refine Mp.put (vs := [v0, v1, v2]) ?_ rfl rfl) | (with_reducible first | refine Mp.putOther ?_ ?_ _ _ | refine Mp.alloc ?_ _) | (refine neB ?_; omega)))
                            have Me : Mp W9 (C) [u0, u1, u2, u3] := Mp.keep hb (by repeat' (first | (with_reducible first | assumption | refine Mp.drew ?_ | refine Mp.drewN ?_ _ | refine Mp.set ?_ _ _ | (refine Mp.new ?_; focus (first | rfl | (simp; done)))) | (refine Mp.put (vs := []) ?_ rfl rfl) | (refine Mp.put (vs := [u0]) ?_ rfl rfl) | (refine Mp.put (vs := [u0, u1]) ?_ rfl rfl) | (refine Mp.put (vs := [u0, u1, u2]) ?_ rfl rfl) | (with_reducible first | refine Mp.putOther ?_ ?_ _ _ | refine Mp.alloc ?_ _) | (refine neB ?_; omega)))
                            have cx := Bx.cell
                            have fx := Bx.free
                            have lx_W9 := Bx.lt
                            have ma := Ma.out
                            have na_W9 := Ma.lt
                            have me := Me.out
                            have ne_W9 := Me.lt
                            have kaW9 : Acc w W9 := by
                              refine Acc.call ?_ hb
                              (repeat' (first | (with_reducible first | assumption | exact Acc.refl _ | refine Acc.drew ?_ | refine Acc.drewN ?_ _ | refine Acc.alloc ?_ _ | refine Acc.setCell ?_ ?_ _ | refine Acc.mapPut ?_ ?_ _ _) | (refine leB ?_; omega)))
                            clear hb
                            cases p30 with
                            | none =>
                              obtain ⟨s, rfl⟩ := h2 rfl
                              clear h1 h2
                              obtain rfl : O = none := HE.out.symm.trans (foldO_n2 _ _ _)
                              go_wp2_with fail
                              go_ret2
                              refine ⟨fun _ h => (by cases h), fun _ => ⟨_, rfl⟩, ?_⟩
                              show Acc w _
                              (repeat' (first | (with_reducible first | assumption | exact Acc.refl _ | refine Acc.drew ?_ | refine Acc.drewN ?_ _ | refine Acc.alloc ?_ _ | refine Acc.setCell ?_ ?_ _ | refine Acc.mapPut ?_ ?_ _ _) | (refine leB ?_; omega)))
                            | some u =>
                              obtain ⟨y1, y2, y3⟩ := u
                              obtain rfl := h1 _ _ _ rfl
                              clear h1 h2
                              have e := HE.out
                              rw [foldO_on] at e
                              rw [Bool.false_and] at e
                              have HE := Lib.hid e
                              clear e
                              go_wp2_with fail
                              rw [rounds_succ]
                              go_wp2_with fail
                              refine (HL31.out _).mono ?_
                              rintro e W10 ⟨h1, h2, hb⟩
                              have Ma : Mp W10 (B) [v0, v1, v2, v3] := Mp.keep hb (by repeat' (first | (with_reducible first | assumption | refine Mp.drew ?_ | refine Mp.drewN ?_ _ | refine Mp.set ?_ _ _ | (refine Mp.new ?_; focus (first | rfl | (simp; done)))) | (refine Mp.put (vs := []) ?_ rfl rfl) | (refine Mp.put (vs := [v0]) ?_ rfl rfl) | (refine Mp.put (vs := [v0, v1]) ?_ rfl rfl) | (refine Mp.put (vs := [v0, v1, v2]) ?_ rfl rfl) | (with_reducible first | refine Mp.putOther ?_ ?_ _ _ | refine Mp.alloc ?_ _) | (refine neB ?_; omega)))
                              have Me : Mp W10 (C) [u0, u1, u2, u3] := Mp.keep hb (by repeat' (first | (with_reducible first | assumption | refine Mp.drew ?_ | refine Mp.drewN ?_ _ | refine Mp.set ?_ _ _ | (refine Mp.new ?_; focus (first | rfl | (simp; done)))) | (refine Mp.put (vs := []) ?_ rfl rfl) | (refine Mp.put (vs := [u0]) ?_ rfl rfl) | (refine Mp.put (vs := [u0, u1]) ?_ rfl rfl) | (refine Mp.put (vs := [u0, u1, u2]) ?_ rfl rfl) | (with_reducible first | refine Mp.putOther ?_ ?_ _ _ | refine Mp.alloc ?_ _) | (refine neB ?_; omega)))
                              have ma := Ma.out
                              have na_W10 := Ma.lt
                              have me := Me.out
                              have ne_W10 := Me.lt
                              have kaW10 : Acc w W10 := by
                                refine Acc.call ?_ hb
                                (repeat' (first | (with_reducible first | assumption | exact Acc.refl _ | refine Acc.drew ?_ | refine Acc.drewN ?_ _ | refine Acc.alloc ?_ _ | refine Acc.setCell ?_ ?_ _ | refine Acc.mapPut ?_ ?_ _ _) | (refine leB ?_; omega)))
                              clear hb
                              cases o31 with
                              | none =>
                                obtain ⟨s, rfl⟩ := h2 rfl
                                clear h1 h2
                                obtain rfl : O = none := HE.out.symm.trans (foldO_n1 _ _ _)
                                go_wp2_with fail
                                go_ret2
                                refine ⟨fun _ h => (by cases h), fun _ => ⟨_, rfl⟩, ?_⟩
                                show Acc w _
                                (repeat' (first | (with_reducible first | assumption | exact Acc.refl _ | refine Acc.drew ?_ | refine Acc.drewN ?_ _ | refine Acc.alloc ?_ _ | refine Acc.setCell ?_ ?_ _ | refine Acc.mapPut ?_ ?_ _ _) | (refine leB ?_; omega)))
                              | some u =>
                                obtain ⟨x1, x2, x3⟩ := u
                                obtain rfl := h1 _ _ _ rfl
                                clear h1 h2
                                go_wp2_with fail
                                refine (HR31.out _).mono ?_
                                rintro e W11 ⟨h1, h2, hb⟩
                                have Bx : Blk W11 (W10.heap.size) [.int .i64 x1, .int .i64 x2, .int .i64 x3] := Blk.keep hb (by repeat' (first | (with_reducible first | assumption | refine Blk.drew ?_ | refine Blk.drewN ?_ _ | refine Blk.mapPut ?_ _ _ | apply Blk.set | (refine Blk.new ?_; focus (first | rfl | (simp; done))) | refine Blk.alloc ?_ _ | refine Blk.other ?_ ?_ _) | exact eqL rfl | (refine neB ?_; omega)))
                                have Ma : Mp W11 (B) [v0, v1, v2, v3] := Mp.keep hb (by repeat' (first | (with_reducible first | assumption | refine Mp.drew ?_ | refine Mp.drewN ?_ _ | refine Mp.set ?_ _ _ | (refine Mp.new ?_; focus (first | rfl | (simp; done)))) | (refine Mp.put (vs := []) ?_ rfl rfl) | (refine Mp.put (vs := [v0]) ?_ rfl rfl) | (refine Mp.put (vs := [v0, v1]) ?_ rfl rfl) | (refine Mp.put (vs := [v0, v1, v2]) ?_ rfl rfl) | (with_reducible first | refine Mp.putOther ?_ ?_ _ _ | refine Mp.alloc ?_ _) | (refine neB ?_; omega)))
                                have Me : Mp W11 (C) [u0, u1, u2, u3] := Mp.keep hb (by repeat' (first | (with_reducible first | assumption | refine Mp.drew ?_ | refine Mp.drewN ?_ _ | refine Mp.set ?_ _ _ | (refine Mp.new ?_; focus (first | rfl | (simp; done)))) | (refine Mp.put (vs := []) ?_ rfl rfl) | (refine Mp.put (vs := [u0]) ?_ rfl rfl) | (refine Mp.put (vs := [u0, u1]) ?_ rfl rfl) | (refine Mp.put (vs := [u0, u1, u2]) ?_ rfl rfl) | (with_reducible first | refine Mp.putOther ?_ ?_ _ _ | refine Mp.alloc ?_ _) | (refine neB ?_; omega)))
                                have cx := Bx.cell
                                have fx := Bx.free
                                have lx_W11 := Bx.lt
                                have ma := Ma.out
                                have na_W11 := Ma.lt
                                have me := Me.out
                                have ne_W11 := Me.lt
                                have kaW11 : Acc w W11 := by
                                  refine Acc.call ?_ hb
                                  (repeat' (first | (with_reducible first | assumption | exact Acc.refl _ | refine Acc.drew ?_ | refine Acc.drewN ?_ _ | refine Acc.alloc ?_ _ | refine Acc.setCell ?_ ?_ _ | refine Acc.mapPut ?_ ?_ _ _) | (refine leB ?_; omega)))
                                clear hb
                                cases p31 with
                                | none =>
                                  obtain ⟨s, rfl⟩ := h2 rfl
                                  clear h1 h2
                                  obtain rfl : O = none := HE.out.symm.trans (foldO_n2 _ _ _)
                                  go_wp2_with fail
                                  go_ret2
                                  refine ⟨fun _ h => (by cases h), fun _ => ⟨_, rfl⟩, ?_⟩
                                  show Acc w _
                                  (repeat' (first | (with_reducible first | assumption | exact Acc.refl _ | refine Acc.drew ?_ | refine Acc.drewN ?_ _ | refine Acc.alloc ?_ _ | refine Acc.setCell ?_ ?_ _ | refine Acc.mapPut ?_ ?_ _ _) | (refine leB ?_; omega)))
                                | some u =>
                                  obtain ⟨y1, y2, y3⟩ := u
                                  obtain rfl := h1 _ _ _ rfl
                                  clear h1 h2
                                  have e := HE.out
                                  rw [foldO_on] at e
                                  rw [Bool.false_and] at e
                                  have HE := Lib.hid e
                                  clear e
                                  go_wp2_with fail
                                  rw [rounds_succ]
                                  go_wp2_with fail
                                  refine (HL32.out _).mono ?_
                                  rintro e W12 ⟨h1, h2, hb⟩
                                  have Ma : Mp W12 (B) [v0, v1, v2, v3] := Mp.keep hb (by repeat' (first | (with_reducible first | assumption | refine Mp.drew ?_ | refine Mp.drewN ?_ _ | refine Mp.set ?_ _ _ | (refine Mp.new ?_; focus (first | rfl | (simp; done)))) | (refine Mp.put (vs := []) ?_ rfl rfl) | (refine Mp.put (vs := [v0]) ?_ rfl rfl) | (refine Mp.put (vs := [v0, v1]) ?_ rfl rfl) | (refine Mp.put (vs := [v0, v1, v2]) ?_ rfl rfl) | (with_reducible first | refine Mp.putOther ?_ ?_ _ _ | refine Mp.alloc ?_ _) | (refine neB ?_; omega)))
                                  have Me : Mp W12 (C) [u0, u1, u2, u3] := Mp.keep hb (by repeat' (first | (with_reducible first | assumption | refine Mp.drew ?_ | refine Mp.drewN ?_ _ | refine Mp.set ?_ _ _ | (refine Mp.new ?_; focus (first | rfl | (simp; done)))) | (refine Mp.put (vs := []) ?_ rfl rfl) | (refine Mp.put (vs := [u0]) ?_ rfl rfl) | (refine Mp.put (vs := [u0, u1]) ?_ rfl rfl) | (refine Mp.put (vs := [u0, u1, u2]) ?_ rfl rfl) | (with_reducible first | refine Mp.putOther ?_ ?_ _ _ | refine Mp.alloc ?_ _) | (refine neB ?_; omega)))
                                  have ma := Ma.out
                                  have na_W12 := Ma.lt
                                  have me := Me.out
                                  have ne_W12 := Me.lt
                                  have kaW12 : Acc w W12 := by
                                    refine Acc.call ?_ hb
                                    (repeat' (first | (with_reducible first | assumption | exact Acc.refl _ | refine Acc.drew ?_ | refine Acc.drewN ?_ _ | refine Acc.alloc ?_ _ | refine Acc.setCell ?_ ?_ _ | refine Acc.mapPut ?_ ?_ _ _) | (refine leB ?_; omega)))
                                  clear hb
                                  cases o32 with
                                  | none =>
                                    obtain ⟨s, rfl⟩ := h2 rfl
                                    clear h1 h2
                                    obtain rfl : O = none := HE.out.symm.trans (foldO_n1 _ _ _)
                                    go_wp2_with fail
                                    go_ret2
                                    refine ⟨fun _ h => (by cases h), fun _ => ⟨_, rfl⟩, ?_⟩
                                    show Acc w _
                                    (repeat' (first | (with_reducible first | assumption | exact Acc.refl _ | refine Acc.drew ?_ | refine Acc.drewN ?_ _ | refine Acc.alloc ?_ _ | refine Acc.setCell ?_ ?_ _ | refine Acc.mapPut ?_ ?_ _ _) | (refine leB ?_; omega)))
                                  | some u =>
                                    obtain ⟨x1, x2, x3⟩ := u
                                    obtain rfl := h1 _ _ _ rfl
                                    clear h1 h2
                                    go_wp2_with fail
                                    refine (HR32.out _).mono ?_
                                    rintro e W13 ⟨h1, h2, hb⟩
                                    have Bx : Blk W13 (W12.heap.size) [.int .i64 x1, .int .i64 x2, .int .i64 x3] := Blk.keep hb (by repeat' (first | (with_reducible first | assumption | refine Blk.drew ?_ | refine Blk.drewN ?_ _ | refine Blk.mapPut ?_ _ _ | apply Blk.set | (refine Blk.new ?_; focus (first | rfl | (simp; done))) | refine Blk.alloc ?_ _ | refine Blk.other ?_ ?_ _) | exact eqL rfl | (refine neB ?_; omega)))
                                    have Ma : Mp W13 (B) [v0, v1, v2, v3] := Mp.keep hb (by repeat' (first | (with_reducible first | assumption | refine Mp.drew ?_ | refine Mp.drewN ?_ _ | refine Mp.set ?_ _ _ | (refine Mp.new ?_; focus (first | rfl | (simp; done)))) | (refine Mp.put (vs := []) ?_ rfl rfl) | (refine Mp.put (vs := [v0]) ?_ rfl rfl) | (refine Mp.put (vs := [v0, v1]) ?_ rfl rfl) | (refine Mp.put (vs := [v0, v1, v2]) ?_ rfl rfl) | (with_reducible first | refine Mp.putOther ?_ ?_ _ _ | refine Mp.alloc ?_ _) | (refine neB ?_; omega)))
                                    have Me : Mp W13 (C) [u0, u1, u2, u3] := Mp.keep hb (by repeat' (first | (with_reducible first | assumption | refine Mp.drew ?_ | refine Mp.drewN ?_ _ | refine Mp.set ?_ _ _ | (refine Mp.new ?_; focus (first | rfl | (simp; done)))) | (refine Mp.put (vs := []) ?_ rfl rfl) | (refine Mp.put (vs := [u0]) ?_ rfl rfl) | (refine Mp.put (vs := [u0, u1]) ?_ rfl rfl) | (refine Mp.put (vs := [u0, u1, u2]) ?_ rfl rfl) | (with_reducible first | refine Mp.putOther ?_ ?_ _ _ | refine Mp.alloc ?_ _) | (refine neB ?_; omega)))
                                    have cx := Bx.cell
                                    have fx := Bx.free
                                    have lx_W13 := Bx.lt
                                    have ma := Ma.out
                                    have na_W13 := Ma.lt
                                    have me := Me.out
                                    have ne_W13 := Me.lt
                                    have kaW13 : Acc w W13 := by
                                      refine Acc.call ?_ hb
                                      (repeat' (first | (with_reducible first | assumption | exact Acc.refl _ | refine Acc.drew ?_ | refine Acc.drewN ?_ _ | refine Acc.alloc ?_ _ | refine Acc.setCell ?_ ?_ _ | refine Acc.mapPut ?_ ?_ _ _) | (refine leB ?_; omega)))
                                    clear hb
                                    cases p32 with
                                    | none =>
                                      obtain ⟨s, rfl⟩ := h2 rfl
                                      clear h1 h2
                                      obtain rfl : O = none := HE.out.symm.trans (foldO_n2 _ _ _)
                                      go_wp2_with fail
                                      go_ret2
                                      refine ⟨fun _ h => (by cases h), fun _ => ⟨_, rfl⟩, ?_⟩
                                      show Acc w _
                                      (repeat' (first | (with_reducible first | assumption | exact Acc.refl _ | refine Acc.drew ?_ | refine Acc.drewN ?_ _ | refine Acc.alloc ?_ _ | refine Acc.setCell ?_ ?_ _ | refine Acc.mapPut ?_ ?_ _ _) | (refine leB ?_; omega)))
                                    | some u =>
                                      obtain ⟨y1, y2, y3⟩ := u
                                      obtain rfl := h1 _ _ _ rfl
                                      clear h1 h2
                                      have e := HE.out
                                      rw [foldO_on] at e
                                      rw [Bool.false_and] at e
                                      have HE := Lib.hid e
                                      clear e
                                      go_wp2_with fail
                                      rw [rounds_succ]
                                      go_wp2_with fail
                                      obtain rfl : O = some false := HE.out.symm
                                      rw [rounds_succ]
                                      go_wp2_with fail
                                      go_ret2
                                      refine ⟨fun _ h => (by cases h; rfl), fun h => (by cases h), ?_⟩
                                      show Acc w _
                                      (repeat' (first | (with_reducible first | assumption | exact Acc.refl _ | refine Acc.drew ?_ | refine Acc.drewN ?_ _ | refine Acc.alloc ?_ _ | refine Acc.setCell ?_ ?_ _ | refine Acc.mapPut ?_ ?_ _ _) | (refine leB ?_; omega)))
                  | false =>
                    rw [Bool.and_false] at e
                    have HE := Lib.hid e
                    clear e
                    go_wp2_with fail
                    clear qk
                    rw [rounds_succ]
                    go_wp2_with fail
                    refine (HL21.out _).mono ?_
                    rintro e W6 ⟨h1, h2, hb⟩
                    have Ma : Mp W6 (B) [v0, v1, v2, v3] := Mp.keep hb (by repeat' (first | (with_reducible first | assumption | refine Mp.drew ?_ | refine Mp.drewN ?_ _ | refine Mp.set ?_ _ _ | (refine Mp.new ?_; focus (first | rfl | (simp; done)))) | (refine Mp.put (vs := []) ?_ rfl rfl) | (refine Mp.put (vs := [v0]) ?_ rfl rfl) | (refine Mp.put (vs := [v0, v1]) ?_ rfl rfl) | (refine Mp.put (vs := [v0, v1, v2]) ?_ rfl rfl) | (with_reducible first | refine Mp.putOther ?_ ?_ _ _ | refine Mp.alloc ?_ _) | (refine neB ?_; omega)))
                    have Me : Mp W6 (C) [u0, u1, u2, u3] := Mp.keep hb (by repeat' (first | (with_reducible first | assumption | refine Mp.drew ?_ | refine Mp.drewN ?_ _ | refine Mp.set ?_ _ _ | (refine Mp.new ?_; focus (first | rfl | (simp; done)))) | (refine Mp.put (vs := []) ?_ rfl rfl) | (refine Mp.put (vs := [u0]) ?_ rfl rfl) | (refine Mp.put (vs := [u0, u1]) ?_ rfl rfl) | (refine Mp.put (vs := [u0, u1, u2]) ?_ rfl rfl) | (with_reducible first | refine Mp.putOther ?_ ?_ _ _ | refine Mp.alloc ?_ _) | (refine neB ?_; omega)))
                    have ma := Ma.out
                    have na_W6 := Ma.lt
                    have me := Me.out
                    have ne_W6 := Me.lt
                    have kaW6 : Acc w W6 := by
                      refine Acc.call ?_ hb
                      (repeat' (first | (with_reducible first | assumption | exact Acc.refl _ | refine Acc.drew ?_ | refine Acc.drewN ?_ _ | refine Acc.alloc ?_ _ | refine Acc.setCell ?_ ?_ _ | refine Acc.mapPut ?_ ?_ _ _) | (refine leB ?_; omega)))
                    clear hb
                    cases o21 with
                    | none =>
                      obtain ⟨s, rfl⟩ := h2 rfl
                      clear h1 h2
                      obtain rfl : O = none := HE.out.symm.trans (foldO_n1 _ _ _)
                      go_wp2_with fail
                      go_ret2
                      refine ⟨fun _ h => (by cases h), fun _ => ⟨_, rfl⟩, ?_⟩
                      show Acc w _
                      (repeat' (first | (with_reducible first | assumption | exact Acc.refl _ | refine Acc.drew ?_ | refine Acc.drewN ?_ _ | refine Acc.alloc ?_ _ | refine Acc.setCell ?_ ?_ _ | refine Acc.mapPut ?_ ?_ _ _) | (refine leB ?_; omega)))
                    | some u =>
                      obtain ⟨x1, x2, x3⟩ := u
                      obtain rfl := h1 _ _ _ rfl
                      clear h1 h2
                      go_wp2_with fail
                      refine (HR21.out _).mono ?_
                      rintro e W7 ⟨h1, h2, hb⟩
                      have Bx : Blk W7 (W6.heap.size) [.int .i64 x1, .int .i64 x2, .int .i64 x3] := Blk.keep hb (by repeat' (first | (with_reducible first | assumption | refine Blk.drew ?_ | refine Blk.drewN ?_ _ | refine Blk.mapPut ?_ _ _ | apply Blk.set | (refine Blk.new ?_; focus (first | rfl | (simp; done))) | refine Blk.alloc ?_ _ | refine Blk.other ?_ ?_ _) | exact eqL rfl | (refine neB ?_; omega)))
                      have Ma : Mp W7 (B) [v0, v1, v2, v3] := Mp.keep hb (by repeat' (first | (with_reducible first | assumption | refine Mp.drew ?_ | refine Mp.drewN ?_ _ | refine Mp.set ?_ _ _ | (refine Mp.new ?_; focus (first | rfl | (simp; done)))) | (refine Mp.put (vs := []) ?_ rfl rfl) | (refine Mp.put (vs := [v0]) ?_ rfl rfl) | (refine Mp.put (vs := [v0, v1]) ?_ rfl rfl) | (refine Mp.put (vs := [v0, v1, v2]) ?_ rfl rfl) | (with_reducible first | refine Mp.putOther ?_ ?_ _ _ | refine Mp.alloc ?_ _) | (refine neB ?_; omega)))
                      have Me : Mp W7 (C) [u0, u1, u2, u3] := Mp.keep hb (by repeat' (first | (with_reducible first | assumption | refine Mp.drew ?_ | refine Mp.drewN ?_ _ | refine Mp.set ?_ _ _ | (refine Mp.new ?_; focus (first | rfl | (simp; done)))) | (refine Mp.put (vs := []) ?_ rfl rfl) | (refine Mp.put (vs := [u0]) ?_ rfl rfl) | (refine Mp.put (vs := [u0, u1]) ?_ rfl rfl) | (refine Mp.put (vs := [u0, u1, u2]) ?_ rfl rfl) | (with_reducible first | refine Mp.putOther ?_ ?_ _ _ | refine Mp.alloc ?_ _) | (refine neB ?_; omega)))
                      have cx := Bx.cell
                      have fx := Bx.free
                      have lx_W7 := Bx.lt
                      have ma := Ma.out
                      have na_W7 := Ma.lt
                      have me := Me.out
                      have ne_W7 := Me.lt
                      have kaW7 : Acc w W7 := by
                        refine Acc.call ?_ hb
                        (repeat' (first | (with_reducible first | assumption | exact Acc.refl _ | refine Acc.drew ?_ | refine Acc.drewN ?_ _ | refine Acc.alloc ?_ _ | refine Acc.setCell ?_ ?_ _ | refine Acc.mapPut ?_ ?_ _ _) | (refine leB ?_; omega)))
                      clear hb
                      cases p21 with
                      | none =>
                        obtain ⟨s, rfl⟩ := h2 rfl
                        clear h1 h2
                        obtain rfl : O = none := HE.out.symm.trans (foldO_n2 _ _ _)
                        go_wp2_with fail
                        go_ret2
                        refine ⟨fun _ h => (by cases h), fun _ => ⟨_, rfl⟩, ?_⟩
                        show Acc w _
                        (repeat' (first | (with_reducible first | assumption | exact Acc.refl _ | refine Acc.drew ?_ | refine Acc.drewN ?_ _ | refine Acc.alloc ?_ _ | refine Acc.setCell ?_ ?_ _ | refine Acc.mapPut ?_ ?_ _ _) | (refine leB ?_; omega)))
                      | some u =>
                        obtain ⟨y1, y2, y3⟩ := u
                        obtain rfl := h1 _ _ _ rfl
                        clear h1 h2
                        have e := HE.out
                        rw [foldO_on] at e
                        rw [Bool.false_and] at e
                        have HE := Lib.hid e
                        clear e
                        go_wp2_with fail
                        rw [rounds_succ]
                        go_wp2_with fail
                        rw [rounds_succ]
                        go_wp2_with fail
                        refine wp_loop_rounds 4 ?_
                        rw [rounds_succ]
                        go_wp2_with fail
                        refine (HL30.out _).mono ?_
                        rintro e W8 ⟨h1, h2, hb⟩
                        have Ma : Mp W8 (B) [v0, v1, v2, v3] := Mp.keep hb (by repeat' (first | (with_reducible first | assumption | refine Mp.drew ?_ | refine Mp.drewN ?_ _ | refine Mp.set ?_ _ _ | (refine Mp.new ?_; focus (first | rfl | (simp; done)))) | (refine Mp.put (vs := []) ?_ rfl rfl) | (refine Mp.put (vs := [v0]) ?_ rfl rfl) | (refine Mp.put (vs := [v0, v1]) ?_ rfl rfl) | (refine Mp.put (vs := [v0, v1, v2]) ?_ rfl rfl) | (with_reducible first | refine Mp.putOther ?_ ?_ _ _ | refine Mp.alloc ?_ _) | (refine neB ?_; omega)))
                        have Me : Mp W8 (C) [u0, u1, u2, u3] := Mp.keep hb (by repeat' (first | (with_reducible first | assumption | refine Mp.drew ?_ | refine Mp.drewN ?_ _ | refine Mp.set ?_ _ _ | (refine Mp.new ?_; focus (first | rfl | (simp; done)))) | (refine Mp.put (vs := []) ?_ rfl rfl) | (refine Mp.put (vs := [u0]) ?_ rfl rfl) | (refine Mp.put (vs := [u0, u1]) ?_ rfl rfl) | (refine Mp.put (vs := [u0, u1, u2]) ?_ rfl rfl) | (with_reducible first | refine Mp.putOther ?_ ?_ _ _ | refine Mp.alloc ?_ _) | (refine neB ?_; omega)))
                        have ma := Ma.out
                        have na_W8 := Ma.lt
                        have me := Me.out
                        have ne_W8 := Me.lt
                        have kaW8 : Acc w W8 := by
                          refine Acc.call ?_ hb
                          (repeat' (first | (with_reducible first | assumption | exact Acc.refl _ | refine Acc.drew ?_ | refine Acc.drewN ?_ _ | refine Acc.alloc ?_ _ | refine Acc.setCell ?_ ?_ _ | refine Acc.mapPut ?_ ?_ _ _) | (refine leB ?_; omega)))
                        clear hb
                        cases o30 with
                        | none =>
                          obtain ⟨s, rfl⟩ := h2 rfl
                          clear h1 h2
                          obtain rfl : O = none := HE.out.symm.trans (foldO_n1 _ _ _)
                          go_wp2_with fail
                          go_ret2
                          refine ⟨fun _ h => (by cases h), fun _ => ⟨_, rfl⟩, ?_⟩
                          show Acc w _
                          (repeat' (first | (with_reducible first | assumption | exact Acc.refl _ | refine Acc.drew ?_ | refine Acc.drewN ?_ _ | refine Acc.alloc ?_ _ | refine Acc.setCell ?_ ?_ _ | refine Acc.mapPut ?_ ?_ _ _) | (refine leB ?_; omega)))
                        | some u =>
                          obtain ⟨x1, x2, x3⟩ := u
                          obtain rfl := h1 _ _ _ rfl
                          clear h1 h2
                          go_wp2_with fail
                          refine (HR30.out _).mono ?_
                          rintro e W9 ⟨h1, h2, hb⟩
                          have Bx : Blk W9 (W8.heap.size) [.int .i64 x1, .int .i64 x2, .int .i64 x3] := Blk.keep hb (by repeat' (first | (with_reducible first | assumption | refine Blk.drew ?_ | refine Blk.drewN ?_ _ | refine Blk.mapPut ?_ _ _ | apply Blk.set | (refine Blk.new ?_; focus (first | rfl | (simp; done))) | refine Blk.alloc ?_ _ | refine Blk.other ?_ ?_ _) | exact eqL rfl | (refine neB ?_; omega)))
                          have Ma : Mp W9 (B) [v0, v1, v2, v3] := Mp.keep hb (by repeat' (first | (with_reducible first | assumption | refine Mp.drew ?_ | refine Mp.drewN ?_ _ | refine Mp.set ?_ _ _ | (refine Mp.new ?_; focus (first | rfl | (simp; done)))) | (refine Mp.put (vs := []) ?_ rfl rfl) | (refine Mp.put (vs := [v0]) ?_ rfl rfl) | (refine Mp.put (vs := [v0, v1]) ?_ rfl rfl) | (refine Mp.put (vs := [v0, v1, v2]) ?_ rfl rfl) | (with_reducible first | refine Mp.putOther ?_ ?_ _ _ | refine Mp.alloc ?_ _) | (refine neB ?_; omega)))
                          have Me : Mp W9 (C) [u0, u1, u2, u3] := Mp.keep hb (by repeat' (first | (with_reducible first | assumption | refine Mp.drew ?_ | refine Mp.drewN ?_ _ | refine Mp.set ?_ _ _ | (refine Mp.new ?_; focus (first | rfl | (simp; done)))) | (refine Mp.put (vs := []) ?_ rfl rfl) | (refine Mp.put (vs := [u0]) ?_ rfl rfl) | (refine Mp.put (vs := [u0, u1]) ?_ rfl rfl) | (refine Mp.put (vs := [u0, u1, u2]) ?_ rfl rfl) | (with_reducible first | refine Mp.putOther ?_ ?_ _ _ | refine Mp.alloc ?_ _) | (refine neB ?_; omega)))
                          have cx := Bx.cell
                          have fx := Bx.free
                          have lx_W9 := Bx.lt
                          have ma := Ma.out
                          have na_W9 := Ma.lt
                          have me := Me.out
                          have ne_W9 := Me.lt
                          have kaW9 : Acc w W9 := by
                            refine Acc.call ?_ hb
                            (repeat' (first | (with_reducible first | assumption | exact Acc.refl _ | refine Acc.drew ?_ | refine Acc.drewN ?_ _ | refine Acc.alloc ?_ _ | refine Acc.setCell ?_ ?_ _ | refine Acc.mapPut ?_ ?_ _ _) | (refine leB ?_; omega)))
                          clear hb
                          cases p30 with
                          | none =>
                            obtain ⟨s, rfl⟩ := h2 rfl
                            clear h1 h2
                            obtain rfl : O = none := HE.out.symm.trans (foldO_n2 _ _ _)
                            go_wp2_with fail
                            go_ret2
                            refine ⟨fun _ h => (by cases h), fun _ => ⟨_, rfl⟩, ?_⟩
                            show Acc w _
                            (repeat' (first | (with_reducible first | assumption | exact Acc.refl _ | refine Acc.drew ?_ | refine Acc.drewN ?_ _ | refine Acc.alloc ?_ _ | refine Acc.setCell ?_ ?_ _ | refine Acc.mapPut ?_ ?_ _ _) | (refine leB ?_; omega)))
                          | some u =>
                            obtain ⟨y1, y2, y3⟩ := u
                            obtain rfl := h1 _ _ _ rfl
                            clear h1 h2
                            have e := HE.out
                            rw [foldO_on] at e
                            rw [Bool.false_and] at e
                            have HE := Lib.hid e
                            clear e
                            go_wp2_with fail
                            rw [rounds_succ]
                            go_wp2_with fail
                            refine (HL31.out _).mono ?_
                            rintro e W10 ⟨h1, h2, hb⟩
                            have Ma : Mp W10 (B) [v0, v1, v2, v3] := Mp.keep hb (by repeat' (first | (with_reducible first | assumption | refine Mp.drew ?_ | refine Mp.drewN ?_ _ | refine Mp.set ?_ _ _ | (refine Mp.new ?_; focus (first | rfl | (simp; done)))) | (refine Mp.put (vs := []) ?_ rfl rfl) | (refine Mp.put (vs := [v0]) ?_ rfl rfl) | (refine Mp.put (vs := [v0, v1]) ?_ rfl rfl) | (refine Mp.put (vs := [v0, v1, v2]) ?_ rfl rfl) | (with_reducible first | refine Mp.putOther ?_ ?_ _ _ | refine Mp.alloc ?_ _) | (refine neB ?_; omega)))
                            have Me : Mp W10 (C) [u0, u1, u2, u3] := Mp.keep hb (by repeat' (first | (with_reducible first | assumption | refine Mp.drew ?_ | refine Mp.drewN ?_ _ | refine Mp.set ?_ _ _ | (refine Mp.new ?_; focus (first | rfl | (simp; done)))) | (refine Mp.put (vs := []) ?_ rfl rfl) | (refine Mp.put (vs := [u0]) ?_ rfl rfl) | (refine Mp.put (vs := [u0, u1]) ?_ rfl rfl) | (refine Mp.put (vs := [u0, u1, u2]) ?_ rfl rfl) | (with_reducible first | refine Mp.putOther ?_ ?_ _ _ | refine Mp.alloc ?_ _) | (refine neB ?_; omega)))
                            have ma := Ma.out
                            have na_W10 := Ma.lt
                            have me := Me.out
                            have ne_W10 := Me.lt
                            have kaW10 : Acc w W10 := by
                              refine Acc.call ?_ hb
                              (repeat' (first | (with_reducible first | assumption | exact Acc.refl _ | refine Acc.drew ?_ | refine Acc.drewN ?_ _ | refine Acc.alloc ?_ _ | refine Acc.setCell ?_ ?_ _ | refine Acc.mapPut ?_ ?_ _ _) | (refine leB ?_; omega)))
                            clear hb
                            cases o31 with
                            | none =>
                              obtain ⟨s, rfl⟩ := h2 rfl
                              clear h1 h2
                              obtain rfl : O = none := HE.out.symm.trans (foldO_n1 _ _ _)
                              go_wp2_with fail
                              go_ret2
                              refine ⟨fun _ h => (by cases h), fun _ => ⟨_, rfl⟩, ?_⟩
                              show Acc w _
                              (repeat' (first | (with_reducible first | assumption | exact Acc.refl _ | refine Acc.drew ?_ | refine Acc.drewN ?_ _ | refine Acc.alloc ?_ _ | refine Acc.setCell ?_ ?_ _ | refine Acc.mapPut ?_ ?_ _ _) | (refine leB ?_; omega)))
                            | some u =>
                              obtain ⟨x1, x2, x3⟩ := u
                              obtain rfl := h1 _ _ _ rfl
                              clear h1 h2
                              go_wp2_with fail
                              refine (HR31.out _).mono ?_
                              rintro e W11 ⟨h1, h2, hb⟩
                              have Bx : Blk W11 (W10.heap.size) [.int .i64 x1, .int .i64 x2, .int .i64 x3] := Blk.keep hb (by repeat' (first | (with_reducible first | assumption | refine Blk.drew ?_ | refine Blk.drewN ?_ _ | refine Blk.mapPut ?_ _ _ | apply Blk.set | (refine Blk.new ?_; focus (first | rfl | (simp; done))) | refine Blk.alloc ?_ _ | refine Blk.other ?_ ?_ _) | exact eqL rfl | (refine neB ?_; omega)))
                              have Ma : Mp W11 (B) [v0, v1, v2, v3] := Mp.keep hb (by repeat' (first | (with_reducible first | assumption | refine Mp.drew ?_ | refine Mp.drewN ?_ _ | refine Mp.set ?_ _ _ | (refine Mp.new ?_; focus (first | rfl | (simp; done)))) | (refine Mp.put (vs := []) ?_ rfl rfl) | (refine Mp.put (vs := [v0]) ?_ rfl rfl) | (refine Mp.put (vs := [v0, v1]) ?_ rfl rfl) | (refine Mp.put (vs := [v0, v1, v2]) ?_ rfl rfl) | (with_reducible first | refine Mp.putOther ?_ ?_ _ _ | refine Mp.alloc ?_ _) | (refine neB ?_; omega)))
                              have Me : Mp W11 (C) [u0, u1, u2, u3] := Mp.keep hb (by repeat' (first | (with_reducible first | assumption | refine Mp.drew ?_ | refine Mp.drewN ?_ _ | refine Mp.set ?_ _ _ | (refine Mp.new ?_; focus (first | rfl | (simp; done)))) | (refine Mp.put (vs := []) ?_ rfl rfl) | (refine Mp.put (vs := [u0]) ?_ rfl rfl) | (refine Mp.put (vs := [u0, u1]) ?_ rfl rfl) | (refine Mp.put (vs := [u0, u1, u2]) ?_ rfl rfl) | (with_reducible first | refine Mp.putOther ?_ ?_ _ _ | refine Mp.alloc ?_ _) | (refine neB ?_; omega)))
                              have cx := Bx.cell
                              have fx := Bx.free
                              have lx_W11 := Bx.lt
                              have ma := Ma.out
                              have na_W11 := Ma.lt
                              have me := Me.out
                              have ne_W11 := Me.lt
                              have kaW11 : Acc w W11 := by
                                refine Acc.call ?_ hb
                                (repeat' (first | (with_reducible first | assumption | exact Acc.refl _ | refine Acc.drew ?_ | refine Acc.drewN ?_ _ | refine Acc.alloc ?_ _ | refine Acc.setCell ?_ ?_ _ | refine Acc.mapPut ?_ ?_ _ _) | (refine leB ?_; omega)))
                              clear hb
                              cases p31 with
                              | none =>
                                obtain ⟨s, rfl⟩ := h2 rfl
                                clear h1 h2
                                obtain rfl : O = none := HE.out.symm.trans (foldO_n2 _ _ _)
                                go_wp2_with fail
                                go_ret2
                                refine ⟨fun _ h => (by cases h), fun _ => ⟨_, rfl⟩, ?_⟩
                                show Acc w _
                                (repeat' (first | (with_reducible first | assumption | exact Acc.refl _ | refine Acc.drew ?_ | refine Acc.drewN ?_ _ | refine Acc.alloc ?_ _ | refine Acc.setCell ?_ ?_ _ | refine Acc.mapPut ?_ ?_ _ _) | (refine leB ?_; omega)))
                              | some u =>
                                obtain ⟨y1, y2, y3⟩ := u
                                obtain rfl := h1 _ _ _ rfl
                                clear h1 h2
                                have e := HE.out
                                rw [foldO_on] at e
                                rw [Bool.false_and] at e
                                have HE := Lib.hid e
                                clear e
                                go_wp2_with fail
                                rw [rounds_succ]
                                go_wp2_with fail
                                refine (HL32.out _).mono ?_
                                rintro e W12 ⟨h1, h2, hb⟩
                                have Ma : Mp W12 (B) [v0, v1, v2, v3] := Mp.keep hb (by repeat' (first | (with_reducible first | assumption | refine Mp.drew ?_ | refine Mp.drewN ?_ _ | refine Mp.set ?_ _ _ | (refine Mp.new ?_; focus (first | rfl | (simp; done)))) | (refine Mp.put (vs := []) ?_ rfl rfl) | (refine Mp.put (vs := [v0]) ?_ rfl rfl) | (refine Mp.put (vs := [v0, v1]) ?_ rfl rfl) | (refine Mp.put (vs := [v0, v1, v2]) ?_ rfl rfl) | (with_reducible first | refine Mp.putOther ?_ ?_ _ _ | refine Mp.alloc ?_ _) | (refine neB ?_; omega)))
                                have Me : Mp W12 (C) [u0, u1, u2, u3] := Mp.keep hb (by repeat' (first | (with_reducible first | assumption | refine Mp.drew ?_ | refine Mp.drewN ?_ _ | refine Mp.set ?_ _ _ | (refine Mp.new ?_; focus (first | rfl | (simp; done)))) | (refine Mp.put (vs := []) ?_ rfl rfl) | (refine Mp.put (vs := [u0]) ?_ rfl rfl) | (refine Mp.put (vs := [u0, u1]) ?_ rfl rfl) | (refine Mp.put (vs := [u0, u1, u2]) ?_ rfl rfl) | (with_reducible first | refine Mp.putOther ?_ ?_ _ _ | refine Mp.alloc ?_ _) | (refine neB ?_; omega)))
                                have ma := Ma.out
                                have na_W12 := Ma.lt
                                have me := Me.out
                                have ne_W12 := Me.lt
                                have kaW12 : Acc w W12 := by
                                  refine Acc.call ?_ hb
                                  (repeat' (first | (with_reducible first | assumption | exact Acc.refl _ | refine Acc.drew ?_ | refine Acc.drewN ?_ _ | refine Acc.alloc ?_ _ | refine Acc.setCell ?_ ?_ _ | refine Acc.mapPut ?_ ?_ _ _) | (refine leB ?_; omega)))
                                clear hb
                                cases o32 with
                                | none =>
                                  obtain ⟨s, rfl⟩ := h2 rfl
                                  clear h1 h2
                                  obtain rfl : O = none := HE.out.symm.trans (foldO_n1 _ _ _)
                                  go_wp2_with fail
                                  go_ret2
                                  refine ⟨fun _ h => (by cases h), fun _ => ⟨_, rfl⟩, ?_⟩
                                  show Acc w _
                                  (repeat' (first | (with_reducible first | assumption | exact Acc.refl _ | refine Acc.drew ?_ | refine Acc.drewN ?_ _ | refine Acc.alloc ?_ _ | refine Acc.setCell ?_ ?_ _ | refine Acc.mapPut ?_ ?_ _ _) | (refine leB ?_; omega)))
                                | some u =>
                                  obtain ⟨x1, x2, x3⟩ := u
                                  obtain rfl := h1 _ _ _ rfl
                                  clear h1 h2
                                  go_wp2_with fail
                                  refine (HR32.out _).mono ?_
                                  rintro e W13 ⟨h1, h2, hb⟩
                                  have Bx : Blk W13 (W12.heap.size) [.int .i64 x1, .int .i64 x2, .int .i64 x3] := Blk.keep hb (by repeat' (first | (with_reducible first | assumption | refine Blk.drew ?_ | refine Blk.drewN ?_ _ | refine Blk.mapPut ?_ _ _ | apply Blk.set | (refine Blk.new ?_; focus (first | rfl | (simp; done))) | refine Blk.alloc ?_ _ | refine Blk.other ?_ ?_ _) | exact eqL rfl | (refine neB ?_; omega)))
                                  have Ma : Mp W13 (B) [v0, v1, v2, v3] := Mp.keep hb (by repeat' (first | (with_reducible first | assumption | refine Mp.drew ?_ | refine Mp.drewN ?_ _ | refine Mp.set ?_ _ _ | (refine Mp.new ?_; focus (first | rfl | (simp; done)))) | (refine Mp.put (vs := []) ?_ rfl rfl) | (refine Mp.put (vs := [v0]) ?_ rfl rfl) | (refine Mp.put (vs := [v0, v1]) ?_ rfl rfl) | (refine Mp.put (vs := [v0, v1, v2]) ?_ rfl rfl) | (with_reducible first | refine Mp.putOther ?_ ?_ _ _ | refine Mp.alloc ?_ _) | (refine neB ?_; omega)))
                                  have Me : Mp W13 (C) [u0, u1, u2, u3] := Mp.keep hb (by repeat' (first | (with_reducible first | assumption | refine Mp.drew ?_ | refine Mp.drewN ?_ _ | refine Mp.set ?_ _ _ | (refine Mp.new ?_; focus (first | rfl | (simp; done)))) | (refine Mp.put (vs := []) ?_ rfl rfl) | (refine Mp.put (vs := [u0]) ?_ rfl rfl) | (refine Mp.put (vs := [u0, u1]) ?_ rfl rfl) | (refine Mp.put (vs := [u0, u1, u2]) ?_ rfl rfl) | (with_reducible first | refine Mp.putOther ?_ ?_ _ _ | refine Mp.alloc ?_ _) | (refine neB ?_; omega)))
                                  have cx := Bx.cell
                                  have fx := Bx.free
                                  have lx_W13 := Bx.lt
                                  have ma := Ma.out
                                  have na_W13 := Ma.lt
                                  have me := Me.out
                                  have ne_W13 := Me.lt
                                  have kaW13 : Acc w W13 := by
                                    refine Acc.call ?_ hb
                                    (repeat' (first | (with_reducible first | assumption | exact Acc.refl _ | refine Acc.drew ?_ | refine Acc.drewN ?_ _ | refine Acc.alloc ?_ _ | refine Acc.setCell ?_ ?_ _ | refine Acc.mapPut ?_ ?_ _ _) | (refine leB ?_; omega)))
                                  clear hb
                                  cases p32 with
                                  | none =>
                                    obtain ⟨s, rfl⟩ := h2 rfl
                                    clear h1 h2
                                    obtain rfl : O = none := HE.out.symm.trans (foldO_n2 _ _ _)
                                    go_wp2_with fail
                                    go_ret2
                                    refine ⟨fun _ h => (by cases h), fun _ => ⟨_, rfl⟩, ?_⟩
                                    show Acc w _
                                    (repeat' (first | (with_reducible first | assumption | exact Acc.refl _ | refine Acc.drew ?_ | refine Acc.drewN ?_ _ | refine Acc.alloc ?_ _ | refine Acc.setCell ?_ ?_ _ | refine Acc.mapPut ?_ ?_ _ _) | (refine leB ?_; omega)))
                                  | some u =>
                                    obtain ⟨y1, y2, y3⟩ := u
                                    obtain rfl := h1 _ _ _ rfl
                                    clear h1 h2
                                    have e := HE.out
                                    rw [foldO_on] at e
                                    rw [Bool.false_and] at e
                                    have HE := Lib.hid e
                                    clear e
                                    go_wp2_with fail
                                    rw [rounds_succ]
                                    go_wp2_with fail
                                    obtain rfl : O = some false := HE.out.symm
                                    rw [rounds_succ]
                                    go_wp2_with fail
                                    go_ret2
                                    refine ⟨fun _ h => (by cases h; rfl), fun h => (by cases h), ?_⟩
                                    show Acc w _
                                    (repeat' (first | (with_reducible first | assumption | exact Acc.refl _ | refine Acc.drew ?_ | refine Acc.drewN ?_ _ | refine Acc.alloc ?_ _ | refine Acc.setCell ?_ ?_ _ | refine Acc.mapPut ?_ ?_ _ _) | (refine leB ?_; omega)))
            | false =>
              rw [Bool.and_false] at e
              have HE := Lib.hid e
              clear e
              go_wp2_with fail
              clear qk
              rw [rounds_succ]
              go_wp2_with fail
              rw [rounds_succ]
              go_wp2_with fail
              refine wp_loop_rounds 3 ?_
              rw [rounds_succ]
              go_wp2_with fail
              refine (HL20.out _).mono ?_
              rintro e W4 ⟨h1, h2, hb⟩
              have Ma : Mp W4 (B) [v0, v1, v2, v3] := Mp.keep hb (by repeat' (first | (with_reducible first | assumption | refine Mp.drew ?_ | refine Mp.drewN ?_ _ | refine Mp.set ?_ _ _ | (refine Mp.new ?_; focus (first | rfl | (simp; done)))) | (refine Mp.put (vs := []) ?_ rfl rfl) | (refine Mp.put (vs := [v0]) ?_ rfl rfl) | (refine Mp.put (vs := [v0, v1]) ?_ rfl rfl) | (refine Mp.put (vs := [v0, v1, v2]) ?_ rfl rfl) | (with_reducible first | refine Mp.putOther ?_ ?_ _ _ | refine Mp.alloc ?_ _) | (refine neB ?_; omega)))
              have Me : Mp W4 (C) [u0, u1, u2, u3] := Mp.keep hb (by repeat' (first | (with_reducible first | assumption | refine Mp.drew ?_ | refine Mp.drewN ?_ _ | refine Mp.set ?_ _ _ | (refine Mp.new ?_; focus (first | rfl | (simp; done)))) | (refine Mp.put (vs := []) ?_ rfl rfl) | (refine Mp.put (vs := [u0]) ?_ rfl rfl) | (refine Mp.put (vs := [u0, u1]) ?_ rfl rfl) | (refine Mp.put (vs := [u0, u1, u2]) ?_ rfl rfl) | (with_reducible first | refine Mp.putOther ?_ ?_ _ _ | refine Mp.alloc ?_ _) | (refine neB ?_; omega)))
              have ma := Ma.out
              have na_W4 := Ma.lt
              have me := Me.out
              have ne_W4 := Me.lt
              have kaW4 : Acc w W4 := by
                refine Acc.call ?_ hb
                (repeat' (first | (with_reducible first | assumption | exact Acc.refl _ | refine Acc.drew ?_ | refine Acc.drewN ?_ _ | refine Acc.alloc ?_ _ | refine Acc.setCell ?_ ?_ _ | refine Acc.mapPut ?_ ?_ _ _) | (refine leB ?_; omega)))
              clear hb
              cases o20 with
              | none =>
                obtain ⟨s, rfl⟩ := h2 rfl
                clear h1 h2
                obtain rfl : O = none := HE.out.symm.trans (foldO_n1 _ _ _)
                go_wp2_with fail
                go_ret2
                refine ⟨fun _ h => (by cases h), fun _ => ⟨_, rfl⟩, ?_⟩
                show Acc w _
                (repeat' (first | (with_reducible first | assumption | exact Acc.refl _ | refine Acc.drew ?_ | refine Acc.drewN ?_ _ | refine Acc.alloc ?_ _ | refine Acc.setCell ?_ ?_ _ | refine Acc.mapPut ?_ ?_ _ _) | (refine leB ?_; omega)))
              | some u =>
                obtain ⟨x1, x2, x3⟩ := u
                obtain rfl := h1 _ _ _ rfl
                clear h1 h2
                go_wp2_with fail
                refine (HR20.out _).mono ?_
                rintro e W5 ⟨h1, h2, hb⟩
                have Bx : Blk W5 (W4.heap.size) [.int .i64 x1, .int .i64 x2, .int .i64 x3] := Blk.keep hb (by repeat' (first | (with_reducible first | assumption | refine Blk.drew ?_ | refine Blk.drewN ?_ _ | refine Blk.mapPut ?_ _ _ | apply Blk.set | (refine Blk.new ?_; focus (first | rfl | (simp; done))) | refine Blk.alloc ?_ _ | refine Blk.other ?_ ?_ _) | exact eqL rfl | (refine neB ?_; omega)))
                have Ma : Mp W5 (B) [v0, v1, v2, v3] := Mp.keep hb (by repeat' (first | (with_reducible first | assumption | refine Mp.drew ?_ | refine Mp.drewN ?_ _ | refine Mp.set ?_ _ _ | (refine Mp.new ?_; focus (first | rfl | (simp; done)))) | (refine Mp.put (vs := []) ?_ rfl rfl) | (refine Mp.put (vs := [v0]) ?_ rfl rfl) | (refine Mp.put (vs := [v0, v1]) ?_ rfl rfl) | (refine Mp.put (vs := [v0, v1, v2]) ?_ rfl rfl) | (with_reducible first | refine Mp.putOther ?_ ?_ _ _ | refine Mp.alloc ?_ _) | (refine neB ?_; omega)))
                have Me : Mp W5 (C) [u0, u1, u2, u3] := Mp.keep hb (by repeat' (first | (with_reducible first | assumption | refine Mp.drew ?_ | refine Mp.drewN ?_ _ | refine Mp.set ?_ _ _ | (refine Mp.new ?_; focus (first | rfl | (simp; done)))) | (refine Mp.put (vs := []) ?_ rfl rfl) | (refine Mp.put (vs := [u0]) ?_ rfl rfl) | (refine Mp.put (vs := [u0, u1]) ?_ rfl rfl) | (refine Mp.put (vs := [u0, u1, u2]) ?_ rfl rfl) | (with_reducible first | refine Mp.putOther ?_ ?_ _ _ | refine Mp.alloc ?_ _) | (refine neB ?_; omega)))
                have cx := Bx.cell
                have fx := Bx.free
                have lx_W5 := Bx.lt
                have ma := Ma.out
                have na_W5 := Ma.lt
                have me := Me.out
                have ne_W5 := Me.lt
                have kaW5 : Acc w W5 := by
                  refine Acc.call ?_ hb
                  (repeat' (first | (with_reducible first | assumption | exact Acc.refl _ | refine Acc.drew ?_ | refine Acc.drewN ?_ _ | refine Acc.alloc ?_ _ | refine Acc.setCell ?_ ?_ _ | refine Acc.mapPut ?_ ?_ _ _) | (refine leB ?_; omega)))
                clear hb
                cases p20 with
                | none =>
                  obtain ⟨s, rfl⟩ := h2 rfl
                  clear h1 h2
                  obtain rfl : O = none := HE.out.symm.trans (foldO_n2 _ _ _)
                  go_wp2_with fail
                  go_ret2
                  refine ⟨fun _ h => (by cases h), fun _ => ⟨_, rfl⟩, ?_⟩
                  show Acc w _
                  (repeat' (first | (with_reducible first | assumption | exact Acc.refl _ | refine Acc.drew ?_ | refine Acc.drewN ?_ _ | refine Acc.alloc ?_ _ | refine Acc.setCell ?_ ?_ _ | refine Acc.mapPut ?_ ?_ _ _) | (refine leB ?_; omega)))
                | some u =>
                  obtain ⟨y1, y2, y3⟩ := u
                  obtain rfl := h1 _ _ _ rfl
                  clear h1 h2
                  have e := HE.out
                  rw [foldO_on] at e
                  rw [Bool.false_and] at e
                  have HE := Lib.hid e
                  clear e
                  go_wp2_with fail
                  rw [rounds_succ]
                  go_wp2_with fail
                  refine (HL21.out _).mono ?_
                  rintro e W6 ⟨h1, h2, hb⟩
                  have Ma : Mp W6 (B) [v0, v1, v2, v3] := Mp.keep hb (by repeat' (first | (with_reducible first | assumption | refine Mp.drew ?_ | refine Mp.drewN ?_ _ | refine Mp.set ?_ _ _ | (refine Mp.new ?_; focus (first | rfl | (simp; done)))) | (refine Mp.put (vs := []) ?_ rfl rfl) | (refine Mp.put (vs := [v0]) ?_ rfl rfl) | (refine Mp.put (vs := [v0, v1]) ?_ rfl rfl) | (refine Mp.put (vs := [v0, v1, v2]) ?_ rfl rfl) | (with_reducible first | refine Mp.putOther ?_ ?_ _ _ | refine Mp.alloc ?_ _) | (refine neB ?_; omega)))
                  have Me : Mp W6 (C) [u0, u1, u2, u3] := Mp.keep hb (by repeat' (first | (with_reducible first | assumption | refine Mp.drew ?_ | refine Mp.drewN ?_ _ | refine Mp.set ?_ _ _ | (refine Mp.new ?_; focus (first | rfl | (simp; done)))) | (refine Mp.put (vs := []) ?_ rfl rfl) | (refine Mp.put (vs := [u0]) ?_ rfl rfl) | (refine Mp.put (vs := [u0, u1]) ?_ rfl rfl) | (refine Mp.put (vs := [u0, u1, u2]) ?_ rfl rfl) | (with_reducible first | refine Mp.putOther ?_ ?_ _ _ | refine Mp.alloc ?_ _) | (refine neB ?_; omega)))
                  have ma := Ma.out
                  have na_W6 := Ma.lt
                  have me := Me.out
                  have ne_W6 := Me.lt
                  have kaW6 : Acc w W6 := by
                    refine Acc.call ?_ hb
                    (repeat' (first | (with_reducible first | assumption | exact Acc.refl _ | refine Acc.drew ?_ | refine Acc.drewN ?_ _ | refine Acc.alloc ?_ _ | refine Acc.setCell ?_ ?_ _ | refine Acc.mapPut ?_ ?_ _ _) | (refine leB ?_; omega)))
                  clear hb
                  cases o21 with
                  | none =>
                    obtain ⟨s, rfl⟩ := h2 rfl
                    clear h1 h2
                    obtain rfl : O = none := HE.out.symm.trans (foldO_n1 _ _ _)
                    go_wp2_with fail
                    go_ret2
                    refine ⟨fun _ h => (by cases h), fun _ => ⟨_, rfl⟩, ?_⟩
                    show Acc w _
                    (repeat' (first | (with_reducible first | assumption | exact Acc.refl _ | refine Acc.drew ?_ | refine Acc.drewN ?_ _ | refine Acc.alloc ?_ _ | refine Acc.setCell ?_ ?_ _ | refine Acc.mapPut ?_ ?_ _ _) | (refine leB ?_; omega)))
                  | some u =>
                    obtain ⟨x1, x2, x3⟩ := u
                    obtain rfl := h1 _ _ _ rfl
                    clear h1 h2
                    go_wp2_with fail
                    refine (HR21.out _).mono ?_
                    rintro e W7 ⟨h1, h2, hb⟩
                    have Bx : Blk W7 (W6.heap.size) [.int .i64 x1, .int .i64 x2, .int .i64 x3] := Blk.keep hb (by repeat' (first | (with_reducible first | assumption | refine Blk.drew ?_ | refine Blk.drewN ?_ _ | refine Blk.mapPut ?_ _ _ | apply Blk.set | (refine Blk.new ?_; focus (first | rfl | (simp; done))) | refine Blk.alloc ?_ _ | refine Blk.other ?_ ?_ _) | exact eqL rfl | (refine neB ?_; omega)))
                    have Ma : Mp W7 (B) [v0, v1, v2, v3] := Mp.keep hb (by repeat' (first | (with_reducible first | assumption | refine Mp.drew ?_ | refine Mp.drewN ?_ _ | refine Mp.set ?_ _ _ | (refine Mp.new ?_; focus (first | rfl | (simp; done)))) | (refine Mp.put (vs := []) ?_ rfl rfl) | (refine Mp.put (vs := [v0]) ?_ rfl rfl) | (refine Mp.put (vs := [v0, v1]) ?_ rfl rfl) | (refine Mp.put (vs := [v0, v1, v2]) ?_ rfl rfl) | (with_reducible first | refine Mp.putOther ?_ ?_ _ _ | refine Mp.alloc ?_ _) | (refine neB ?_; omega)))
                    have Me : Mp W7 (C) [u0, u1, u2, u3] := Mp.keep hb (by repeat' (first | (with_reducible first | assumption | refine Mp.drew ?_ | refine Mp.drewN ?_ _ | refine Mp.set ?_ _ _ | (refine Mp.new ?_; focus (first | rfl | (simp; done)))) | (refine Mp.put (vs := []) ?_ rfl rfl) | (refine Mp.put (vs := [u0]) ?_ rfl rfl) | (refine Mp.put (vs := [u0, u1]) ?_ rfl rfl) | (refine Mp.put (vs := [u0, u1, u2]) ?_ rfl rfl) | (with_reducible first | refine Mp.putOther ?_ ?_ _ _ | refine Mp.alloc ?_ _) | (refine neB ?_; omega)))
                    have cx := Bx.cell
                    have fx := Bx.free
                    have lx_W7 := Bx.lt
                    have ma := Ma.out
                    have na_W7 := Ma.lt
                    have me := Me.out
                    have ne_W7 := Me.lt
                    have kaW7 : Acc w W7 := by
                      refine Acc.call ?_ hb
                      (repeat' (first | (with_reducible first | assumption | exact Acc.refl _ | refine Acc.drew ?_ | refine Acc.drewN ?_ _ | refine Acc.alloc ?_ _ | refine Acc.setCell ?_ ?_ _ | refine Acc.mapPut ?_ ?_ _ _) | (refine leB ?_; omega)))
                    clear hb
                    cases p21 with
                    | none =>
                      obtain ⟨s, rfl⟩ := h2 rfl
                      clear h1 h2
                      obtain rfl : O = none := HE.out.symm.trans (foldO_n2 _ _ _)
                      go_wp2_with fail
                      go_ret2
                      refine ⟨fun _ h => (by cases h), fun _ => ⟨_, rfl⟩, ?_⟩
                      show Acc w _
                      (repeat' (first | (with_reducible first | assumption | exact Acc.refl _ | refine Acc.drew ?_ | refine Acc.drewN ?_ _ | refine Acc.alloc ?_ _ | refine Acc.setCell ?_ ?_ _ | refine Acc.mapPut ?_ ?_ _ _) | (refine leB ?_; omega)))
                    | some u =>
                      obtain ⟨y1, y2, y3⟩ := u
                      obtain rfl := h1 _ _ _ rfl
                      clear h1 h2
                      have e := HE.out
                      rw [foldO_on] at e
                      rw [Bool.false_and] at e
                      have HE := Lib.hid e
                      clear e
                      go_wp2_with fail
                      rw [rounds_succ]
                      go_wp2_with fail
                      rw [rounds_succ]
                      go_wp2_with fail
                      refine wp_loop_rounds 4 ?_
                      rw [rounds_succ]
                      go_wp2_with fail
                      refine (HL30.out _).mono ?_
                      rintro e W8 ⟨h1, h2, hb⟩
                      have Ma : Mp W8 (B) [v0, v1, v2, v3] := Mp.keep hb (by repeat' (first | (with_reducible first | assumption | refine Mp.drew ?_ | refine Mp.drewN ?_ _ | refine Mp.set ?_ _ _ | (refine Mp.new ?_; focus (first | rfl | (simp; done)))) | (refine Mp.put (vs := []) ?_ rfl rfl) | (refine Mp.put (vs := [v0]) ?_ rfl rfl) | (refine Mp.put (vs := [v0, v1]) ?_ rfl rfl) | (refine Mp.put (vs := [v0, v1, v2]) ?_ rfl rfl) | (with_reducible first | refine Mp.putOther ?_ ?_ _ _ | refine Mp.alloc ?_ _) | (refine neB ?_; omega)))
                      have Me : Mp W8 (C) [u0, u1, u2, u3] := Mp.keep hb (by repeat' (first | (with_reducible first | assumption | refine Mp.drew ?_ | refine Mp.drewN ?_ _ | refine Mp.set ?_ _ _ | (refine Mp.new ?_; focus (first | rfl | (simp; done)))) | (refine Mp.put (vs := []) ?_ rfl rfl) | (refine Mp.put (vs := [u0]) ?_ rfl rfl) | (refine Mp.put (vs := [u0, u1]) ?_ rfl rfl) | (refine Mp.put (vs := [u0, u1, u2]) ?_ rfl rfl) | (with_reducible first | refine Mp.putOther ?_ ?_ _ _ | refine Mp.alloc ?_ _) | (refine neB ?_; omega)))
                      have ma := Ma.out
                      have na_W8 := Ma.lt
                      have me := Me.out
                      have ne_W8 := Me.lt
                      have kaW8 : Acc w W8 := by
                        refine Acc.call ?_ hb
                        (repeat' (first | (with_reducible first | assumption | exact Acc.refl _ | refine Acc.drew ?_ | refine Acc.drewN ?_ _ | refine Acc.alloc ?_ _ | refine Acc.setCell ?_ ?_ _ | refine Acc.mapPut ?_ ?_ _ _) | (refine leB ?_; omega)))
                      clear hb
                      cases o30 with
                      | none =>
                        obtain ⟨s, rfl⟩ := h2 rfl
                        clear h1 h2
                        obtain rfl : O = none := HE.out.symm.trans (foldO_n1 _ _ _)
                        go_wp2_with fail
                        go_ret2
                        refine ⟨fun _ h => (by cases h), fun _ => ⟨_, rfl⟩, ?_⟩
                        show Acc w _
                        (repeat' (first | (with_reducible first | assumption | exact Acc.refl _ | refine Acc.drew ?_ | refine Acc.drewN ?_ _ | refine Acc.alloc ?_ _ | refine Acc.setCell ?_ ?_ _ | refine Acc.mapPut ?_ ?_ _ _) | (refine leB ?_; omega)))
                      | some u =>
                        obtain ⟨x1, x2, x3⟩ := u
                        obtain rfl := h1 _ _ _ rfl
                        clear h1 h2
                        go_wp2_with fail
                        refine (HR30.out _).mono ?_
                        rintro e W9 ⟨h1, h2, hb⟩
                        have Bx : Blk W9 (W8.heap.size) [.int .i64 x1, .int .i64 x2, .int .i64 x3] := Blk.keep hb (by repeat' (first | (with_reducible first | assumption | refine Blk.drew ?_ | refine Blk.drewN ?_ _ | refine Blk.mapPut ?_ _ _ | apply Blk.set | (refine Blk.new ?_; focus (first | rfl | (simp; done))) | refine Blk.alloc ?_ _ | refine Blk.other ?_ ?_ _) | exact eqL rfl | (refine neB ?_; omega)))
                        have Ma : Mp W9 (B) [v0, v1, v2, v3] := Mp.keep hb (by repeat' (first | (with_reducible first | assumption | refine Mp.drew ?_ | refine Mp.drewN ?_ _ | refine Mp.set ?_ _ _ | (refine Mp.new ?_; focus (first | rfl | (simp; done)))) | (refine Mp.put (vs := []) ?_ rfl rfl) | (refine Mp.put (vs := [v0]) ?_ rfl rfl) | (refine Mp.put (vs := [v0, v1]) ?_ rfl rfl) | (refine Mp.put (vs := [v0, v1, v2]) ?_ rfl rfl) | (with_reducible first | refine Mp.putOther ?_ ?_ _ _ | refine Mp.alloc ?_ _) | (refine neB ?_; omega)))
                        have Me : Mp W9 (C) [u0, u1, u2, u3] := Mp.keep hb (by repeat' (first | (with_reducible first | assumption | refine Mp.drew ?_ | refine Mp.drewN ?_ _ | refine Mp.set ?_ _ _ | (refine Mp.new ?_; focus (first | rfl | (simp; done)))) | (refine Mp.put (vs := []) ?_ rfl rfl) | (refine Mp.put (vs := [u0]) ?_ rfl rfl) | (refine Mp.put (vs := [u0, u1]) ?_ rfl rfl) | (refine Mp.put (vs := [u0, u1, u2]) ?_ rfl rfl) | (with_reducible first | refine Mp.putOther ?_ ?_ _ _ | refine Mp.alloc ?_ _) | (refine neB ?_; omega)))
                        have cx := Bx.cell
                        have fx := Bx.free
                        have lx_W9 := Bx.lt
                        have ma := Ma.out
                        have na_W9 := Ma.lt
                        have me := Me.out
                        have ne_W9 := Me.lt
                        have kaW9 : Acc w W9 := by
                          refine Acc.call ?_ hb
                          (repeat' (first | (with_reducible first | assumption | exact Acc.refl _ | refine Acc.drew ?_ | refine Acc.drewN ?_ _ | refine Acc.alloc ?_ _ | refine Acc.setCell ?_ ?_ _ | refine Acc.mapPut ?_ ?_ _ _) | (refine leB ?_; omega)))
                        clear hb
                        cases p30 with
                        | none =>
                          obtain ⟨s, rfl⟩ := h2 rfl
                          clear h1 h2
                          obtain rfl : O = none := HE.out.symm.trans (foldO_n2 _ _ _)
                          go_wp2_with fail
                          go_ret2
                          refine ⟨fun _ h => (by cases h), fun _ => ⟨_, rfl⟩, ?_⟩
                          show Acc w _
                          (repeat' (first | (with_reducible first | assumption | exact Acc.refl _ | refine Acc.drew ?_ | refine Acc.drewN ?_ _ | refine Acc.alloc ?_ _ | refine Acc.setCell ?_ ?_ _ | refine Acc.mapPut ?_ ?_ _ _) | (refine leB ?_; omega)))
                        | some u =>
                          obtain ⟨y1, y2, y3⟩ := u
                          obtain rfl := h1 _ _ _ rfl
                          clear h1 h2
                          have e := HE.out
                          rw [foldO_on] at e
                          rw [Bool.false_and] at e
                          have HE := Lib.hid e
                          clear e
                          go_wp2_with fail
                          rw [rounds_succ]
                          go_wp2_with fail
                          refine (HL31.out _).mono ?_
                          rintro e W10 ⟨h1, h2, hb⟩
                          have Ma : Mp W10 (B) [v0, v1, v2, v3] := Mp.keep hb (by repeat' (first | (with_reducible first | assumption | refine Mp.drew ?_ | refine Mp.drewN ?_ _ | refine Mp.set ?_ _ _ | (refine Mp.new ?_; focus (first | rfl | (simp; done)))) | (refine Mp.put (vs := []) ?_ rfl rfl) | (refine Mp.put (vs := [v0]) ?_ rfl rfl) | (refine Mp.put (vs := [v0, v1]) ?_ rfl rfl) | (refine Mp.put (vs := [v0, v1, v2]) ?_ rfl rfl) | (with_reducible first | refine Mp.putOther ?_ ?_ _ _ | refine Mp.alloc ?_ _) | (refine neB ?_; omega)))
                          have Me : Mp W10 (C) [u0, u1, u2, u3] := Mp.keep hb (by repeat' (first | (with_reducible first | assumption | refine Mp.drew ?_ | refine Mp.drewN ?_ _ | refine Mp.set ?_ _ _ | (refine Mp.new ?_; focus (first | rfl | (simp; done)))) | (refine Mp.put (vs := []) ?_ rfl rfl) | (refine Mp.put (vs := [u0]) ?_ rfl rfl) | (refine Mp.put (vs := [u0, u1]) ?_ rfl rfl) | (refine Mp.put (vs := [u0, u1, u2]) ?_ rfl rfl) | (with_reducible first | refine Mp.putOther ?_ ?_ _ _ | refine Mp.alloc ?_ _) | (refine neB ?_; omega)))
                          have ma := Ma.out
                          have na_W10 := Ma.lt
                          have me := Me.out
                          have ne_W10 := Me.lt
                          have kaW10 : Acc w W10 := by
                            refine Acc.call ?_ hb
                            (repeat' (first | (with_reducible first | assumption | exact Acc.refl _ | refine Acc.drew ?_ | refine Acc.drewN ?_ _ | refine Acc.alloc ?_ _ | refine Acc.setCell ?_ ?_ _ | refine Acc.mapPut ?_ ?_ _ _) | (refine leB ?_; omega)))
                          clear hb
                          cases o31 with
                          | none =>
                            obtain ⟨s, rfl⟩ := h2 rfl
                            clear h1 h2
                            obtain rfl : O = none := HE.out.symm.trans (foldO_n1 _ _ _)
                            go_wp2_with fail
                            go_ret2
                            refine ⟨fun _ h => (by cases h), fun _ => ⟨_, rfl⟩, ?_⟩
                            show Acc w _
                            (repeat' (first | (with_reducible first | assumption | exact Acc.refl _ | refine Acc.drew ?_ | refine Acc.drewN ?_ _ | refine Acc.alloc ?_ _ | refine Acc.setCell ?_ ?_ _ | refine Acc.mapPut ?_ ?_ _ _) | (refine leB ?_; omega)))
                          | some u =>
                            obtain ⟨x1, x2, x3⟩ := u
                            obtain rfl := h1 _ _ _ rfl
                            clear h1 h2
                            go_wp2_with fail
                            refine (HR31.out _).mono ?_
                            rintro e W11 ⟨h1, h2, hb⟩
                            have Bx : Blk W11 (W10.heap.size) [.int .i64 x1, .int .i64 x2, .int .i64 x3] := Blk.keep hb (by repeat' (first | (with_reducible first | assumption | refine Blk.drew ?_ | refine Blk.drewN ?_ _ | refine Blk.mapPut ?_ _ _ | apply Blk.set | (refine Blk.new ?_; focus (first | rfl | (simp; done))) | refine Blk.alloc ?_ _ | refine Blk.other ?_ ?_ _) | exact eqL rfl | (refine neB ?_; omega)))
                            have Ma : Mp W11 (B) [v0, v1, v2, v3] := Mp.keep hb (by repeat' (first | (with_reducible first | assumption | refine Mp.drew ?_ | refine Mp.drewN ?_ _ | refine Mp.set ?_ _ _ | (refine Mp.new ?_; focus (first | rfl | (simp; done)))) | (refine Mp.put (vs := []) ?_ rfl rfl) | (refine Mp.put (vs := [v0]) ?_ rfl rfl) | (refine Mp.put (vs := [v0, v1]) ?_ rfl rfl) | (refine Mp.put (vs := [v0, v1, v2]) ?_ rfl rfl) | (with_reducible first | refine Mp.putOther ?_ ?_ _ _ | refine Mp.alloc ?_ _) | (refine neB ?_; omega)))
                            have Me : Mp W11 (C) [u0, u1, u2, u3] := Mp.keep hb (by repeat' (first | (with_reducible first | assumption | refine Mp.drew ?_ | refine Mp.drewN ?_ _ | refine Mp.set ?_ _ _ | (refine Mp.new ?_; focus (first | rfl | (simp; done)))) | (refine Mp.put (vs := []) ?_ rfl rfl) | (refine Mp.put (vs := [u0]) ?_ rfl rfl) | (refine Mp.put (vs := [u0, u1]) ?_ rfl rfl) | (refine Mp.put (vs := [u0, u1, u2]) ?_ rfl rfl) | (with_reducible first | refine Mp.putOther ?_ ?_ _ _ | refine Mp.alloc ?_ _) | (refine neB ?_; omega)))
                            have cx := Bx.cell
                            have fx := Bx.free
                            have lx_W11 := Bx.lt
                            have ma := Ma.out
                            have na_W11 := Ma.lt
                            have me := Me.out
                            have ne_W11 := Me.lt
                            have kaW11 : Acc w W11 := by
                              refine Acc.call ?_ hb
                              (repeat' (first | (with_reducible first | assumption | exact Acc.refl _ | refine Acc.drew ?_ | refine Acc.drewN ?_ _ | refine Acc.alloc ?_ _ | refine Acc.setCell ?_ ?_ _ | refine Acc.mapPut ?_ ?_ _ _) | (refine leB ?_; omega)))
                            clear hb
                            cases p31 with
                            | none =>
                              obtain ⟨s, rfl⟩ := h2 rfl
                              clear h1 h2
                              obtain rfl : O = none := HE.out.symm.trans (foldO_n2 _ _ _)
                              go_wp2_with fail
                              go_ret2
                              refine ⟨fun _ h => (by cases h), fun _ => ⟨_, rfl⟩, ?_⟩
                              show Acc w _
                              (repeat' (first | (with_reducible first | assumption | exact Acc.refl _ | refine Acc.drew ?_ | refine Acc.drewN ?_ _ | refine Acc.alloc ?_ _ | refine Acc.setCell ?_ ?_ _ | refine Acc.mapPut ?_ ?_ _ _) | (refine leB ?_; omega)))
                            | some u =>
                              obtain ⟨y1, y2, y3⟩ := u
                              obtain rfl := h1 _ _ _ rfl
                              clear h1 h2
                              have e := HE.out
                              rw [foldO_on] at e
                              rw [Bool.false_and] at e
                              have HE := Lib.hid e
                              clear e
                              go_wp2_with fail
                              rw [rounds_succ]
                              go_wp2_with fail
                              refine (HL32.out _).mono ?_
                              rintro e W12 ⟨h1, h2, hb⟩
                              have Ma : Mp W12 (B) [v0, v1, v2, v3] := Mp.keep hb (by repeat' (first | (with_reducible first | assumption | refine Mp.drew ?_ | refine Mp.drewN ?_ _ | refine Mp.set ?_ _ _ | (refine Mp.new ?_; focus (first | rfl | (simp; done)))) | (refine Mp.put (vs := []) ?_ rfl rfl) | (refine Mp.put (vs := [v0]) ?_ rfl rfl) | (refine Mp.put (vs := [v0, v1]) ?_ rfl rfl) | (refine Mp.put (vs := [v0, v1, v2]) ?_ rfl rfl) | (with_reducible first | refine Mp.putOther ?_ ?_ _ _ | refine Mp.alloc ?_ _) | (refine neB ?_; omega)))
                              have Me : Mp W12 (C) [u0, u1, u2, u3] := Mp.keep hb (by repeat' (first | (with_reducible first | assumption | refine Mp.drew ?_ | refine Mp.drewN ?_ _ | refine Mp.set ?_ _ _ | (refine Mp.new ?_; focus (first | rfl | (simp; done)))) | (refine Mp.put (vs := []) ?_ rfl rfl) | (refine Mp.put (vs := [u0]) ?_ rfl rfl) | (refine Mp.put (vs := [u0, u1]) ?_ rfl rfl) | (refine Mp.put (vs := [u0, u1, u2]) ?_ rfl rfl) | (with_reducible first | refine Mp.putOther ?_ ?_ _ _ | refine Mp.alloc ?_ _) | (refine neB ?_; omega)))
                              have ma := Ma.out
                              have na_W12 := Ma.lt
                              have me := Me.out
                              have ne_W12 := Me.lt
                              have kaW12 : Acc w W12 := by
                                refine Acc.call ?_ hb
                                (repeat' (first | (with_reducible first | assumption | exact Acc.refl _ | refine Acc.drew ?_ | refine Acc.drewN ?_ _ | refine Acc.alloc ?_ _ | refine Acc.setCell ?_ ?_ _ | refine Acc.mapPut ?_ ?_ _ _) | (refine leB ?_; omega)))
                              clear hb
                              cases o32 with
                              | none =>
                                obtain ⟨s, rfl⟩ := h2 rfl
                                clear h1 h2
                                obtain rfl : O = none := HE.out.symm.trans (foldO_n1 _ _ _)
                                go_wp2_with fail
                                go_ret2
                                refine ⟨fun _ h => (by cases h), fun _ => ⟨_, rfl⟩, ?_⟩
                                show Acc w _
                                (repeat' (first | (with_reducible first | assumption | exact Acc.refl _ | refine Acc.drew ?_ | refine Acc.drewN ?_ _ | refine Acc.alloc ?_ _ | refine Acc.setCell ?_ ?_ _ | refine Acc.mapPut ?_ ?_ _ _) | (refine leB ?_; omega)))
                              | some u =>
                                obtain ⟨x1, x2, x3⟩ := u
                                obtain rfl := h1 _ _ _ rfl
                                clear h1 h2
                                go_wp2_with fail
                                refine (HR32.out _).mono ?_
                                rintro e W13 ⟨h1, h2, hb⟩
                                have Bx : Blk W13 (W12.heap.size) [.int .i64 x1, .int .i64 x2, .int .i64 x3] := Blk.keep hb (by repeat' (first | (with_reducible first | assumption | refine Blk.drew ?_ | refine Blk.drewN ?_ _ | refine Blk.mapPut ?_ _ _ | apply Blk.set | (refine Blk.new ?_; focus (first | rfl | (simp; done))) | refine Blk.alloc ?_ _ | refine Blk.other ?_ ?_ _) | exact eqL rfl | (refine neB ?_; omega)))
                                have Ma : Mp W13 (B) [v0, v1, v2, v3] := Mp.keep hb (by repeat' (first | (with_reducible first | assumption | refine Mp.drew ?_ | refine Mp.drewN ?_ _ | refine Mp.set ?_ _ _ | (refine Mp.new ?_; focus (first | rfl | (simp; done)))) | (refine Mp.put (vs := []) ?_ rfl rfl) | (refine Mp.put (vs := [v0]) ?_ rfl rfl) | (refine Mp.put (vs := [v0, v1]) ?_ rfl rfl) | (refine Mp.put (vs := [v0, v1, v2]) ?_ rfl rfl) | (with_reducible first | refine Mp.putOther ?_ ?_ _ _ | refine Mp.alloc ?_ _) | (refine neB ?_; omega)))
                                have Me : Mp W13 (C) [u0, u1, u2, u3] := Mp.keep hb (by repeat' (first | (with_reducible first | assumption | refine Mp.drew ?_ | refine Mp.drewN ?_ _ | refine Mp.set ?_ _ _ | (refine Mp.new ?_; focus (first | rfl | (simp; done)))) | (refine Mp.put (vs := []) ?_ rfl rfl) | (refine Mp.put (vs := [u0]) ?_ rfl rfl) | (refine Mp.put (vs := [u0, u1]) ?_ rfl rfl) | (refine Mp.put (vs := [u0, u1, u2]) ?_ rfl rfl) | (with_reducible first | refine Mp.putOther ?_ ?_ _ _ | refine Mp.alloc ?_ _) | (refine neB ?_; omega)))
                                have cx := Bx.cell
                                have fx := Bx.free
                                have lx_W13 := Bx.lt
                                have ma := Ma.out
                                have na_W13 := Ma.lt
                                have me := Me.out
                                have ne_W13 := Me.lt
                                have kaW13 : Acc w W13 := by
                                  refine Acc.call ?_ hb
                                  (repeat' (first | (with_reducible first | assumption | exact Acc.refl _ | refine Acc.drew ?_ | refine Acc.drewN ?_ _ | refine Acc.alloc ?_ _ | refine Acc.setCell ?_ ?_ _ | refine Acc.mapPut ?_ ?_ _ _) | (refine leB ?_; omega)))
                                clear hb
                                cases p32 with
                                | none =>
                                  obtain ⟨s, rfl⟩ := h2 rfl
                                  clear h1 h2
                                  obtain rfl : O = none := HE.out.symm.trans (foldO_n2 _ _ _)
                                  go_wp2_with fail
                                  go_ret2
                                  refine ⟨fun _ h => (by cases h), fun _ => ⟨_, rfl⟩, ?_⟩
                                  show Acc w _
                                  (repeat' (first | (with_reducible first | assumption | exact Acc.refl _ | refine Acc.drew ?_ | refine Acc.drewN ?_ _ | refine Acc.alloc ?_ _ | refine Acc.setCell ?_ ?_ _ | refine Acc.mapPut ?_ ?_ _ _) | (refine leB ?_; omega)))
                                | some u =>
                                  obtain ⟨y1, y2, y3⟩ := u
                                  obtain rfl := h1 _ _ _ rfl
                                  clear h1 h2
                                  have e := HE.out
                                  rw [foldO_on] at e
                                  rw [Bool.false_and] at e
                                  have HE := Lib.hid e
                                  clear e
                                  go_wp2_with fail
                                  rw [rounds_succ]
                                  go_wp2_with fail
                                  obtain rfl : O = some false := HE.out.symm
                                  rw [rounds_succ]
                                  go_wp2_with fail
                                  go_ret2
                                  refine ⟨fun _ h => (by cases h; rfl), fun h => (by cases h), ?_⟩
                                  show Acc w _
                                  (repeat' (first | (with_reducible first | assumption | exact Acc.refl _ | refine Acc.drew ?_ | refine Acc.drewN ?_ _ | refine Acc.alloc ?_ _ | refine Acc.setCell ?_ ?_ _ | refine Acc.mapPut ?_ ?_ _ _) | (refine leB ?_; omega)))
      | false =>
        go_wp2_with fail
        refine wp_loop_rounds 5 ?_
        rw [rounds_succ]
        go_wp2_with fail
        refine wp_loop_rounds 1 ?_
        rw [rounds_succ]
        go_wp2_with fail
        rw [rounds_succ]
        go_wp2_with fail
        refine wp_loop_rounds 2 ?_
        rw [rounds_succ]
        go_wp2_with fail
        refine (HL10.out _).mono ?_
        rintro e W2 ⟨h1, h2, hb⟩
        have Ma : Mp W2 (B) [v0, v1, v2, v3] := Mp.keep hb (by repeat' (first | (with_reducible first | assumption | refine Mp.drew ?_ | refine Mp.drewN ?_ _ | refine Mp.set ?_ _ _ | (refine Mp.new ?_; focus (first | rfl | (simp; done)))) | (refine Mp.put (vs := []) ?_ rfl rfl) | (refine Mp.put (vs := [v0]) ?_ rfl rfl) | (refine Mp.put (vs := [v0, v1]) ?_ rfl rfl) | (refine Mp.put (vs := [v0, v1, v2]) ?_ rfl rfl) | (with_reducible first | refine Mp.putOther ?_ ?_ _ _ | refine Mp.alloc ?_ _) | (refine neB ?_; omega)))
        have Me : Mp W2 (C) [u0, u1, u2, u3] := Mp.keep hb (by repeat' (first | (with_reducible first | assumption | refine Mp.drew ?_ | refine Mp.drewN ?_ _ | refine Mp.set ?_ _ _ | (refine Mp.new ?_; focus (first | rfl | (simp; done)))) | (refine Mp.put (vs := []) ?_ rfl rfl) | (refine Mp.put (vs := [u0]) ?_ rfl rfl) | (refine Mp.put (vs := [u0, u1]) ?_ rfl rfl) | (refine Mp.put (vs := [u0, u1, u2]) ?_ rfl rfl) | (with_reducible first | refine Mp.putOther ?_ ?_ _ _ | refine Mp.alloc ?_ _) | (refine neB ?_; omega)))
        have ma := Ma.out
        have na_W2 := Ma.lt
        have me := Me.out
        have ne_W2 := Me.lt
        have kaW2 : Acc w W2 := by
          refine Acc.call ?_ hb
          (repeat' (first | (with_reducible first | assumption | exact Acc.refl _ | refine Acc.drew ?_ | refine Acc.drewN ?_ _ | refine Acc.alloc ?_ _ | refine Acc.setCell ?_ ?_ _ | refine Acc.mapPut ?_ ?_ _ _) | (refine leB ?_; omega)))
        clear hb
        cases o10 with
        | none =>
          obtain ⟨s, rfl⟩ := h2 rfl
          clear h1 h2
          obtain rfl : O = none := HE.out.symm.trans (foldO_n1 _ _ _)
          go_wp2_with fail
          go_ret2
          refine ⟨fun _ h => (by cases h), fun _ => ⟨_, rfl⟩, ?_⟩
          show Acc w _
          (repeat' (first | (with_reducible first | assumption | exact Acc.refl _ | refine Acc.drew ?_ | refine Acc.drewN ?_ _ | refine Acc.alloc ?_ _ | refine Acc.setCell ?_ ?_ _ | refine Acc.mapPut ?_ ?_ _ _) | (refine leB ?_; omega)))
        | some u =>
          obtain ⟨x1, x2, x3⟩ := u
          obtain rfl := h1 _ _ _ rfl
          clear h1 h2
          go_wp2_with fail
          refine (HR10.out _).mono ?_
          rintro e W3 ⟨h1, h2, hb⟩
          have Bx : Blk W3 (W2.heap.size) [.int .i64 x1, .int .i64 x2, .int .i64 x3] := Blk.keep hb (by repeat' (first | (with_reducible first | assumption | refine Blk.drew ?_ | refine Blk.drewN ?_ _ | refine Blk.mapPut ?_ _ _ | apply Blk.set | (refine Blk.new ?_; focus (first | rfl | (simp; done))) | refine Blk.alloc ?_ _ | refine Blk.other ?_ ?_ _) | exact eqL rfl | (refine neB ?_; omega)))
          have Ma : Mp W3 (B) [v0, v1, v2, v3] := Mp.keep hb (by repeat' (first | (with_reducible first | assumption | refine Mp.drew ?_ | refine Mp.drewN ?_ _ | refine Mp.set ?_ _ _ | (refine Mp.new ?_; focus (first | rfl | (simp; done)))) | (refine Mp.put (vs := []) ?_ rfl rfl) | (refine Mp.put (vs := [v0]) ?_ rfl rfl) | (refine Mp.put (vs := [v0, v1]) ?_ rfl rfl) | (refine Mp.put (vs := [v0, v1, v2]) ?_ rfl rfl) | (with_reducible first | refine Mp.putOther ?_ ?_ _ _ | refine Mp.alloc ?_ _) | (refine neB ?_; omega)))
          have Me : Mp W3 (C) [u0, u1, u2, u3] := Mp.keep hb (by repeat' (first | (with_reducible first | assumption | refine Mp.drew ?_ | refine Mp.drewN ?_ _ | refine Mp.set ?_ _ _ | (refine Mp.new ?_; focus (first | rfl | (simp; done)))) | (refine Mp.put (vs := []) ?_ rfl rfl) | (refine Mp.put (vs := [u0]) ?_ rfl rfl) | (refine Mp.put (vs := [u0, u1]) ?_ rfl rfl) | (refine Mp.put (vs := [u0, u1, u2]) ?_ rfl rfl) | (with_reducible first | refine Mp.putOther ?_ ?_ _ _ | refine Mp.alloc ?_ _) | (refine neB ?_; omega)))
          have cx := Bx.cell
          have fx := Bx.free
          have lx_W3 := Bx.lt
          have ma := Ma.out
          have na_W3 := Ma.lt
          have me := Me.out
          have ne_W3 := Me.lt
          have kaW3 : Acc w W3 := by
            refine Acc.call ?_ hb
            (repeat' (first | (with_reducible first | assumption | exact Acc.refl _ | refine Acc.drew ?_ | refine Acc.drewN ?_ _ | refine Acc.alloc ?_ _ | refine Acc.setCell ?_ ?_ _ | refine Acc.mapPut ?_ ?_ _ _) | (refine leB ?_; omega)))
          clear hb
          cases p10 with
          | none =>
            obtain ⟨s, rfl⟩ := h2 rfl
            clear h1 h2
            obtain rfl : O = none := HE.out.symm.trans (foldO_n2 _ _ _)
            go_wp2_with fail
            go_ret2
            refine ⟨fun _ h => (by cases h), fun _ => ⟨_, rfl⟩, ?_⟩
            show Acc w _
            (repeat' (first | (with_reducible first | assumption | exact Acc.refl _ | refine Acc.drew ?_ | refine Acc.drewN ?_ _ | refine Acc.alloc ?_ _ | refine Acc.setCell ?_ ?_ _ | refine Acc.mapPut ?_ ?_ _ _) | (refine leB ?_; omega)))
          | some u =>
            obtain ⟨y1, y2, y3⟩ := u
            obtain rfl := h1 _ _ _ rfl
            clear h1 h2
            have e := HE.out
            rw [foldO_on] at e
            rw [Bool.false_and] at e
            have HE := Lib.hid e
            clear e
            go_wp2_with fail
            rw [rounds_succ]
            go_wp2_with fail
            rw [rounds_succ]
            go_wp2_with fail
            refine wp_loop_rounds 3 ?_
            rw [rounds_succ]
            go_wp2_with fail
            refine (HL20.out _).mono ?_
            rintro e W4 ⟨h1, h2, hb⟩
            have Ma : Mp W4 (B) [v0, v1, v2, v3] := Mp.keep hb (by repeat' (first | (with_reducible first | assumption | refine Mp.drew ?_ | refine Mp.drewN ?_ _ | refine Mp.set ?_ _ _ | (refine Mp.new ?_; focus (first | rfl | (simp; done)))) | (refine Mp.put (vs := []) ?_ rfl rfl) | (refine Mp.put (vs := [v0]) ?_ rfl rfl) | (refine Mp.put (vs := [v0, v1]) ?_ rfl rfl) | (refine Mp.put (vs := [v0, v1, v2]) ?_ rfl rfl) | (with_reducible first | refine Mp.putOther ?_ ?_ _ _ | refine Mp.alloc ?_ _) | (refine neB ?_; omega)))
            have Me : Mp W4 (C) [u0, u1, u2, u3] := Mp.keep hb (by repeat' (first | (with_reducible first | assumption | refine Mp.drew ?_ | refine Mp.drewN ?_ _ | refine Mp.set ?_ _ _ | (refine Mp.new ?_; focus (first | rfl | (simp; done)))) | (refine Mp.put (vs := []) ?_ rfl rfl) | (refine Mp.put (vs := [u0]) ?_ rfl rfl) | (refine Mp.put (vs := [u0, u1]) ?_ rfl rfl) | (refine Mp.put (vs := [u0, u1, u2]) ?_ rfl rfl) | (with_reducible first | refine Mp.putOther ?_ ?_ _ _ | refine Mp.alloc ?_ _) | (refine neB ?_; omega)))
            have ma := Ma.out
            have na_W4 := Ma.lt
            have me := Me.out
            have ne_W4 := Me.lt
            have kaW4 : Acc w W4 := by
              refine Acc.call ?_ hb
              (repeat' (first | (with_reducible first | assumption | exact Acc.refl _ | refine Acc.drew ?_ | refine Acc.drewN ?_ _ | refine Acc.alloc ?_ _ | refine Acc.setCell ?_ ?_ _ | refine Acc.mapPut ?_ ?_ _ _) | (refine leB ?_; omega)))
            clear hb
            cases o20 with
            | none =>
              obtain ⟨s, rfl⟩ := h2 rfl
              clear h1 h2
              obtain rfl : O = none := HE.out.symm.trans (foldO_n1 _ _ _)
              go_wp2_with fail
              go_ret2
              refine ⟨fun _ h => (by cases h), fun _ => ⟨_, rfl⟩, ?_⟩
              show Acc w _
              (repeat' (first | (with_reducible first | assumption | exact Acc.refl _ | refine Acc.drew ?_ | refine Acc.drewN ?_ _ | refine Acc.alloc ?_ _ | refine Acc.setCell ?_ ?_ _ | refine Acc.mapPut ?_ ?_ _ _) | (refine leB ?_; omega)))
            | some u =>
              obtain ⟨x1, x2, x3⟩ := u
              obtain rfl := h1 _ _ _ rfl
              clear h1 h2
              go_wp2_with fail
              refine (HR20.out _).mono ?_
              rintro e W5 ⟨h1, h2, hb⟩
              have Bx : Blk W5 (W4.heap.size) [.int .i64 x1, .int .i64 x2, .int .i64 x3] := Blk.keep hb (by repeat' (first | (with_reducible first | assumption | refine Blk.drew ?_ | refine Blk.drewN ?_ _ | refine Blk.mapPut ?_ _ _ | apply Blk.set | (refine Blk.new ?_; focus (first | rfl | (simp; done))) | refine Blk.alloc ?_ _ | refine Blk.other ?_ ?_ _) | exact eqL rfl | (refine neB ?_; omega)))
              have Ma : Mp W5 (B) [v0, v1, v2, v3] := Mp.keep hb (by repeat' (first | (with_reducible first | assumption | refine Mp.drew ?_ | refine Mp.drewN ?_ _ | refine Mp.set ?_ _ _ | (refine Mp.new ?_; focus (first | rfl | (simp; done)))) | (refine Mp.put (vs := []) ?_ rfl rfl) | (refine Mp.put (vs := [v0]) ?_ rfl rfl) | (refine Mp.put (vs := [v0, v1]) ?_ rfl rfl) | (refine Mp.put (vs := [v0, v1, v2]) ?_ rfl rfl) | (with_reducible first | refine Mp.putOther ?_ ?_ _ _ | refine Mp.alloc ?_ _) | (refine neB ?_; omega)))
              have Me : Mp W5 (C) [u0, u1, u2, u3] := Mp.keep hb (by repeat' (first | (with_reducible first | assumption | refine Mp.drew ?_ | refine Mp.drewN ?_ _ | refine Mp.set ?_ _ _ | (refine Mp.new ?_; focus (first | rfl | (simp; done)))) | (refine Mp.put (vs := []) ?_ rfl rfl) | (refine Mp.put (vs := [u0]) ?_ rfl rfl) | (refine Mp.put (vs := [u0, u1]) ?_ rfl rfl) | (refine Mp.put (vs := [u0, u1, u2]) ?_ rfl rfl) | (with_reducible first | refine Mp.putOther ?_ ?_ _ _ | refine Mp.alloc ?_ _) | (refine neB ?_; omega)))
              have cx := Bx.cell
              have fx := Bx.free
              have lx_W5 := Bx.lt
              have ma := Ma.out
              have na_W5 := Ma.lt
              have me := Me.out
              have ne_W5 := Me.lt
              have kaW5 : Acc w W5 := by
                refine Acc.call ?_ hb
                (repeat' (first | (with_reducible first | assumption | exact Acc.refl _ | refine Acc.drew ?_ | refine Acc.drewN ?_ _ | refine Acc.alloc ?_ _ | refine Acc.setCell ?_ ?_ _ | refine Acc.mapPut ?_ ?_ _ _) | (refine leB ?_; omega)))
              clear hb
              cases p20 with
              | none =>
                obtain ⟨s, rfl⟩ := h2 rfl
                clear h1 h2
                obtain rfl : O = none := HE.out.symm.trans (foldO_n2 _ _ _)
                go_wp2_with fail
                go_ret2
                refine ⟨fun _ h => (by cases h), fun _ => ⟨_, rfl⟩, ?_⟩
                show Acc w _
                (repeat' (first | (with_reducible first | assumption | exact Acc.refl _ | refine Acc.drew ?_ | refine Acc.drewN ?_ _ | refine Acc.alloc ?_ _ | refine Acc.setCell ?_ ?_ _ | refine Acc.mapPut ?_ ?_ _ _) | (refine leB ?_; omega)))
              | some u =>
                obtain ⟨y1, y2, y3⟩ := u
                obtain rfl := h1 _ _ _ rfl
                clear h1 h2
                have e := HE.out
                rw [foldO_on] at e
                rw [Bool.false_and] at e
                have HE := Lib.hid e
                clear e
                go_wp2_with fail
                rw [rounds_succ]
                go_wp2_with fail
                refine (HL21.out _).mono ?_
                rintro e W6 ⟨h1, h2, hb⟩
                have Ma : Mp W6 (B) [v0, v1, v2, v3] := Mp.keep hb (by repeat' (first | (with_reducible first | assumption | refine Mp.drew ?_ | refine Mp.drewN ?_ _ | refine Mp.set ?_ _ _ | (refine Mp.new ?_; focus (first | rfl | (simp; done)))) | (refine Mp.put (vs := []) ?_ rfl rfl) | (refine Mp.put (vs := [v0]) ?_ rfl rfl) | (refine Mp.put (vs := [v0, v1]) ?_ rfl rfl) | (refine Mp.put (vs := [v0, v1, v2]) ?_ rfl rfl) | (with_reducible first | refine Mp.putOther ?_ ?_ _ _ | refine Mp.alloc ?_ _) | (refine neB ?_; omega)))
                have Me : Mp W6 (C) [u0, u1, u2, u3] := Mp.keep hb (by repeat' (first | (with_reducible first | assumption | refine Mp.drew ?_ | refine Mp.drewN ?_ _ | refine Mp.set ?_ _ _ | (refine Mp.new ?_; focus (first | rfl | (simp; done)))) | (refine Mp.put (vs := []) ?_ rfl rfl) | (refine Mp.put (vs := [u0]) ?_ rfl rfl) | (refine Mp.put (vs := [u0, u1]) ?_ rfl rfl) | (refine Mp.put (vs := [u0, u1, u2]) ?_ rfl rfl) | (with_reducible first | refine Mp.putOther ?_ ?_ _ _ | refine Mp.alloc ?_ _) | (refine neB ?_; omega)))
                have ma := Ma.out
                have na_W6 := Ma.lt
                have me := Me.out
                have ne_W6 := Me.lt
                have kaW6 : Acc w W6 := by
                  refine Acc.call ?_ hb
                  (repeat' (first | (with_reducible first | assumption | exact Acc.refl _ | refine Acc.drew ?_ | refine Acc.drewN ?_ _ | refine Acc.alloc ?_ _ | refine Acc.setCell ?_ ?_ _ | refine Acc.mapPut ?_ ?_ _ _) | (refine leB ?_; omega)))
                clear hb
                cases o21 with
                | none =>
                  obtain ⟨s, rfl⟩ := h2 rfl
                  clear h1 h2
                  obtain rfl : O = none := HE.out.symm.trans (foldO_n1 _ _ _)
                  go_wp2_with fail
                  go_ret2
                  refine ⟨fun _ h => (by cases h), fun _ => ⟨_, rfl⟩, ?_⟩
                  show Acc w _
                  (repeat' (first | (with_reducible first | assumption | exact Acc.refl _ | refine Acc.drew ?_ | refine Acc.drewN ?_ _ | refine Acc.alloc ?_ _ | refine Acc.setCell ?_ ?_ _ | refine Acc.mapPut ?_ ?_ _ _) | (refine leB ?_; omega)))
                | some u =>
                  obtain ⟨x1, x2, x3⟩ := u
                  obtain rfl := h1 _ _ _ rfl
                  clear h1 h2
                  go_wp2_with fail
                  refine (HR21.out _).mono ?_
                  rintro e W7 ⟨h1, h2, hb⟩
                  have Bx : Blk W7 (W6.heap.size) [.int .i64 x1, .int .i64 x2, .int .i64 x3] := Blk.keep hb (by repeat' (first | (with_reducible first | assumption | refine Blk.drew ?_ | refine Blk.drewN ?_ _ | refine Blk.mapPut ?_ _ _ | apply Blk.set | (refine Blk.new ?_; focus (first | rfl | (simp; done))) | refine Blk.alloc ?_ _ | refine Blk.other ?_ ?_ _) | exact eqL rfl | (refine neB ?_; omega)))
                  have Ma : Mp W7 (B) [v0, v1, v2, v3] := Mp.keep hb (by repeat' (first | (with_reducible first | assumption | refine Mp.drew ?_ | refine Mp.drewN ?_ _ | refine Mp.set ?_ _ _ | (refine Mp.new ?_; focus (first | rfl | (simp; done)))) | (refine Mp.put (vs := []) ?_ rfl rfl) | (refine Mp.put (vs := [v0]) ?_ rfl rfl) | (refine Mp.put (vs := [v0, v1]) ?_ rfl rfl) | (refine Mp.put (vs := [v0, v1, v2]) ?_ rfl rfl) | (with_reducible first | refine Mp.putOther ?_ ?_ _ _ | refine Mp.alloc ?_ _) | (refine neB ?_; omega)))
                  have Me : Mp W7 (C) [u0, u1, u2, u3] := Mp.keep hb (by repeat' (first | (with_reducible first | assumption | refine Mp.drew ?_ | refine Mp.drewN ?_ _ | refine Mp.set ?_ _ _ | (refine Mp.new ?_; focus (first | rfl | (simp; done)))) | (refine Mp.put (vs := []) ?_ rfl rfl) | (refine Mp.put (vs := [u0]) ?_ rfl rfl) | (refine Mp.put (vs := [u0, u1]) ?_ rfl rfl) | (refine Mp.put (vs := [u0, u1, u2]) ?_ rfl rfl) | (with_reducible first | refine Mp.putOther ?_ ?_ _ _ | refine Mp.alloc ?_ _) | (refine neB ?_; omega)))
                  have cx := Bx.cell
                  have fx := Bx.free
                  have lx_W7 := Bx.lt
                  have ma := Ma.out
                  have na_W7 := Ma.lt
                  have me := Me.out
                  have ne_W7 := Me.lt
                  have kaW7 : Acc w W7 := by
                    refine Acc.call ?_ hb
                    (repeat' (first | (with_reducible first | assumption | exact Acc.refl _ | refine Acc.drew ?_ | refine Acc.drewN ?_ _ | refine Acc.alloc ?_ _ | refine Acc.setCell ?_ ?_ _ | refine Acc.mapPut ?_ ?_ _ _) | (refine leB ?_; omega)))
                  clear hb
                  cases p21 with
                  | none =>
                    obtain ⟨s, rfl⟩ := h2 rfl
                    clear h1 h2
                    obtain rfl : O = none := HE.out.symm.trans (foldO_n2 _ _ _)
                    go_wp2_with fail
                    go_ret2
                    refine ⟨fun _ h => (by cases h), fun _ => ⟨_, rfl⟩, ?_⟩
                    show Acc w _
                    (repeat' (first | (with_reducible first | assumption | exact Acc.refl _ | refine Acc.drew ?_ | refine Acc.drewN ?_ _ | refine Acc.alloc ?_ _ | refine Acc.setCell ?_ ?_ _ | refine Acc.mapPut ?_ ?_ _ _) | (refine leB ?_; omega)))
                  | some u =>
                    obtain ⟨y1, y2, y3⟩ := u
                    obtain rfl := h1 _ _ _ rfl
                    clear h1 h2
                    have e := HE.out
                    rw [foldO_on] at e
                    rw [Bool.false_and] at e
                    have HE := Lib.hid e
                    clear e
                    go_wp2_with fail
                    rw [rounds_succ]
                    go_wp2_with fail
                    rw [rounds_succ]
                    go_wp2_with fail
                    refine wp_loop_rounds 4 ?_
                    rw [rounds_succ]
                    go_wp2_with fail
                    refine (HL30.out _).mono ?_
                    rintro e W8 ⟨h1, h2, hb⟩
                    have Ma : Mp W8 (B) [v0, v1, v2, v3] := Mp.keep hb (by repeat' (first | (with_reducible first | assumption | refine Mp.drew ?_ | refine Mp.drewN ?_ _ | refine Mp.set ?_ _ _ | (refine Mp.new ?_; focus (first | rfl | (simp; done)))) | (refine Mp.put (vs := []) ?_ rfl rfl) | (refine Mp.put (vs := [v0]) ?_ rfl rfl) | (refine Mp.put (vs := [v0, v1]) ?_ rfl rfl) | (refine Mp.put (vs := [v0, v1, v2]) ?_ rfl rfl) | (with_reducible first | refine Mp.putOther ?_ ?_ _ _ | refine Mp.alloc ?_ _) | (refine neB ?_; omega)))
                    have Me : Mp W8 (C) [u0, u1, u2, u3] := Mp.keep hb (by repeat' (first | (with_reducible first | assumption | refine Mp.drew ?_ | refine Mp.drewN ?_ _ | refine Mp.set ?_ _ _ | (refine Mp.new ?_; focus (first | rfl | (simp; done)))) | (refine Mp.put (vs := []) ?_ rfl rfl) | (refine Mp.put (vs := [u0]) ?_ rfl rfl) | (refine Mp.put (vs := [u0, u1]) ?_ rfl rfl) | (refine Mp.put (vs := [u0, u1, u2]) ?_ rfl rfl) | (with_reducible first | refine Mp.putOther ?_ ?_ _ _ | refine Mp.alloc ?_ _) | (refine neB ?_; omega)))
                    have ma := Ma.out
                    have na_W8 := Ma.lt
                    have me := Me.out
                    have ne_W8 := Me.lt
                    have kaW8 : Acc w W8 := by
                      refine Acc.call ?_ hb
                      (repeat' (first | (with_reducible first | assumption | exact Acc.refl _ | refine Acc.drew ?_ | refine Acc.drewN ?_ _ | refine Acc.alloc ?_ _ | refine Acc.setCell ?_ ?_ _ | refine Acc.mapPut ?_ ?_ _ _) | (refine leB ?_; omega)))
                    clear hb
                    cases o30 with
                    | none =>
                      obtain ⟨s, rfl⟩ := h2 rfl
                      clear h1 h2
                      obtain rfl : O = none := HE.out.symm.trans (foldO_n1 _ _ _)
                      go_wp2_with fail
                      go_ret2
                      refine ⟨fun _ h => (by cases h), fun _ => ⟨_, rfl⟩, ?_⟩
                      show Acc w _
                      (repeat' (first | (with_reducible first | assumption | exact Acc.refl _ | refine Acc.drew ?_ | refine Acc.drewN ?_ _ | refine Acc.alloc ?_ _ | refine Acc.setCell ?_ ?_ _ | refine Acc.mapPut ?_ ?_ _ _) | (refine leB ?_; omega)))
                    | some u =>
                      obtain ⟨x1, x2, x3⟩ := u
                      obtain rfl := h1 _ _ _ rfl
                      clear h1 h2
                      go_wp2_with fail
                      refine (HR30.out _).mono ?_
                      rintro e W9 ⟨h1, h2, hb⟩
                      have Bx : Blk W9 (W8.heap.size) [.int .i64 x1, .int .i64 x2, .int .i64 x3] := Blk.keep hb (by repeat' (first | (with_reducible first | assumption | refine Blk.drew ?_ | refine Blk.drewN ?_ _ | refine Blk.mapPut ?_ _ _ | apply Blk.set | (refine Blk.new ?_; focus (first | rfl | (simp; done))) | refine Blk.alloc ?_ _ | refine Blk.other ?_ ?_ _) | exact eqL rfl | (refine neB ?_; omega)))
                      have Ma : Mp W9 (B) [v0, v1, v2, v3] := Mp.keep hb (by repeat' (first | (with_reducible first | assumption | refine Mp.drew ?_ | refine Mp.drewN ?_ _ | refine Mp.set ?_ _ _ | (refine Mp.new ?_; focus (first | rfl | (simp; done)))) | (refine Mp.put (vs := []) ?_ rfl rfl) | (refine Mp.put (vs := [v0]) ?_ rfl rfl) | (refine Mp.put (vs := [v0, v1]) ?_ rfl rfl) | (refine Mp.put (vs := [v0, v1, v2]) ?_ rfl rfl) | (with_reducible first | refine Mp.putOther ?_ ?_ _ _ | refine Mp.alloc ?_ _) | (refine neB ?_; omega)))
                      have Me : Mp W9 (C) [u0, u1, u2, u3] := Mp.keep hb (by repeat' (first | (with_reducible first | assumption | refine Mp.drew ?_ | refine Mp.drewN ?_ _ | refine Mp.set ?_ _ _ | (refine Mp.new ?_; focus (first | rfl | (simp; done)))) | (refine Mp.put (vs := []) ?_ rfl rfl) | (refine Mp.put (vs := [u0]) ?_ rfl rfl) | (refine Mp.put (vs := [u0, u1]) ?_ rfl rfl) | (refine Mp.put (vs := [u0, u1, u2]) ?_ rfl rfl) | (with_reducible first | refine Mp.putOther ?_ ?_ _ _ | refine Mp.alloc ?_ _) | (refine neB ?_; omega)))
                      have cx := Bx.cell
                      have fx := Bx.free
                      have lx_W9 := Bx.lt
                      have ma := Ma.out
                      have na_W9 := Ma.lt
                      have me := Me.out
                      have ne_W9 := Me.lt
                      have kaW9 : Acc w W9 := by
                        refine Acc.call ?_ hb
                        (repeat' (first | (with_reducible first | assumption | exact Acc.refl _ | refine Acc.drew ?_ | refine Acc.drewN ?_ _ | refine Acc.alloc ?_ _ | refine Acc.setCell ?_ ?_ _ | refine Acc.mapPut ?_ ?_ _ _) | (refine leB ?_; omega)))
                      clear hb
                      cases p30 with
                      | none =>
                        obtain ⟨s, rfl⟩ := h2 rfl
                        clear h1 h2
                        obtain rfl : O = none := HE.out.symm.trans (foldO_n2 _ _ _)
                        go_wp2_with fail
                        go_ret2
                        refine ⟨fun _ h => (by cases h), fun _ => ⟨_, rfl⟩, ?_⟩
                        show Acc w _
                        (repeat' (first | (with_reducible first | assumption | exact Acc.refl _ | refine Acc.drew ?_ | refine Acc.drewN ?_ _ | refine Acc.alloc ?_ _ | refine Acc.setCell ?_ ?_ _ | refine Acc.mapPut ?_ ?_ _ _) | (refine leB ?_; omega)))
                      | some u =>
                        obtain ⟨y1, y2, y3⟩ := u
                        obtain rfl := h1 _ _ _ rfl
                        clear h1 h2
                        have e := HE.out
                        rw [foldO_on] at e
                        rw [Bool.false_and] at e
                        have HE := Lib.hid e
                        clear e
                        go_wp2_with fail
                        rw [rounds_succ]
                        go_wp2_with fail
                        refine (HL31.out _).mono ?_
                        rintro e W10 ⟨h1, h2, hb⟩
                        have Ma : Mp W10 (B) [v0, v1, v2, v3] := Mp.keep hb (by repeat' (first | (with_reducible first | assumption | refine Mp.drew ?_ | refine Mp.drewN ?_ _ | refine Mp.set ?_ _ _ | (refine Mp.new ?_; focus (first | rfl | (simp; done)))) | (refine Mp.put (vs := []) ?_ rfl rfl) | (refine Mp.put (vs := [v0]) ?_ rfl rfl) | (refine Mp.put (vs := [v0, v1]) ?_ rfl rfl) | (refine Mp.put (vs := [v0, v1, v2]) ?_ rfl rfl) | (with_reducible first | refine Mp.putOther ?_ ?_ _ _ | refine Mp.alloc ?_ _) | (refine neB ?_; omega)))
                        have Me : Mp W10 (C) [u0, u1, u2, u3] := Mp.keep hb (by repeat' (first | (with_reducible first | assumption | refine Mp.drew ?_ | refine Mp.drewN ?_ _ | refine Mp.set ?_ _ _ | (refine Mp.new ?_; focus (first | rfl | (simp; done)))) | (refine Mp.put (vs := []) ?_ rfl rfl) | (refine Mp.put (vs := [u0]) ?_ rfl rfl) | (refine Mp.put (vs := [u0, u1]) ?_ rfl rfl) | (refine Mp.put (vs := [u0, u1, u2]) ?_ rfl rfl) | (with_reducible first | refine Mp.putOther ?_ ?_ _ _ | refine Mp.alloc ?_ _) | (refine neB ?_; omega)))
                        have ma := Ma.out
                        have na_W10 := Ma.lt
                        have me := Me.out
                        have ne_W10 := Me.lt
                        have kaW10 : Acc w W10 := by
                          refine Acc.call ?_ hb
                          (repeat' (first | (with_reducible first | assumption | exact Acc.refl _ | refine Acc.drew ?_ | refine Acc.drewN ?_ _ | refine Acc.alloc ?_ _ | refine Acc.setCell ?_ ?_ _ | refine Acc.mapPut ?_ ?_ _ _) | (refine leB ?_; omega)))
                        clear hb
                        cases o31 with
                        | none =>
                          obtain ⟨s, rfl⟩ := h2 rfl
                          clear h1 h2
                          obtain rfl : O = none := HE.out.symm.trans (foldO_n1 _ _ _)
                          go_wp2_with fail
                          go_ret2
                          refine ⟨fun _ h => (by cases h), fun _ => ⟨_, rfl⟩, ?_⟩
                          show Acc w _
                          (repeat' (first | (with_reducible first | assumption | exact Acc.refl _ | refine Acc.drew ?_ | refine Acc.drewN ?_ _ | refine Acc.alloc ?_ _ | refine Acc.setCell ?_ ?_ _ | refine Acc.mapPut ?_ ?_ _ _) | (refine leB ?_; omega)))
                        | some u =>
                          obtain ⟨x1, x2, x3⟩ := u
                          obtain rfl := h1 _ _ _ rfl
                          clear h1 h2
                          go_wp2_with fail
                          refine (HR31.out _).mono ?_
                          rintro e W11 ⟨h1, h2, hb⟩
                          have Bx : Blk W11 (W10.heap.size) [.int .i64 x1, .int .i64 x2, .int .i64 x3] := Blk.keep hb (by repeat' (first | (with_reducible first | assumption | refine Blk.drew ?_ | refine Blk.drewN ?_ _ | refine Blk.mapPut ?_ _ _ | apply Blk.set | (refine Blk.new ?_; focus (first | rfl | (simp; done))) | refine Blk.alloc ?_ _ | refine Blk.other ?_ ?_ _) | exact eqL rfl | (refine neB ?_; omega)))
                          have Ma : Mp W11 (B) [v0, v1, v2, v3] := Mp.keep hb (by repeat' (first | (with_reducible first | assumption | refine Mp.drew ?_ | refine Mp.drewN ?_ _ | refine Mp.set ?_ _ _ | (refine Mp.new ?_; focus (first | rfl | (simp; done)))) | (refine Mp.put (vs := []) ?_ rfl rfl) | (refine Mp.put (vs := [v0]) ?_ rfl rfl) | (refine Mp.put (vs := [v0, v1]) ?_ rfl rfl) | (refine Mp.put (vs := [v0, v1, v2]) ?_ rfl rfl) | (with_reducible first | refine Mp.putOther ?_ ?_ _ _ | refine Mp.alloc ?_ _) | (refine neB ?_; omega)))
                          have Me : Mp W11 (C) [u0, u1, u2, u3] := Mp.keep hb (by repeat' (first | (with_reducible first | assumption | refine Mp.drew ?_ | refine Mp.drewN ?_ _ | refine Mp.set ?_ _ _ | (refine Mp.new ?_; focus (first | rfl | (simp; done)))) | (refine Mp.put (vs := []) ?_ rfl rfl) | (refine Mp.put (vs := [u0]) ?_ rfl rfl) | (refine Mp.put (vs := [u0, u1]) ?_ rfl rfl) | (refine Mp.put (vs := [u0, u1, u2]) ?_ rfl rfl) | (with_reducible first | refine Mp.putOther ?_ ?_ _ _ | refine Mp.alloc ?_ _) | (refine neB ?_; omega)))
                          have cx := Bx.cell
                          have fx := Bx.free
                          have lx_W11 := Bx.lt
                          have ma := Ma.out
                          have na_W11 := Ma.lt
                          have me := Me.out
                          have ne_W11 := Me.lt
                          have kaW11 : Acc w W11 := by
                            refine Acc.call ?_ hb
                            (repeat' (first | (with_reducible first | assumption | exact Acc.refl _ | refine Acc.drew ?_ | refine Acc.drewN ?_ _ | refine Acc.alloc ?_ _ | refine Acc.setCell ?_ ?_ _ | refine Acc.mapPut ?_ ?_ _ _) | (refine leB ?_; omega)))
                          clear hb
                          cases p31 with
                          | none =>
                            obtain ⟨s, rfl⟩ := h2 rfl
                            clear h1 h2
                            obtain rfl : O = none := HE.out.symm.trans (foldO_n2 _ _ _)
                            go_wp2_with fail
                            go_ret2
                            refine ⟨fun _ h => (by cases h), fun _ => ⟨_, rfl⟩, ?_⟩
                            show Acc w _
                            (repeat' (first | (with_reducible first | assumption | exact Acc.refl _ | refine Acc.drew ?_ | refine Acc.drewN ?_ _ | refine Acc.alloc ?_ _ | refine Acc.setCell ?_ ?_ _ | refine Acc.mapPut ?_ ?_ _ _) | (refine leB ?_; omega)))
                          | some u =>
                            obtain ⟨y1, y2, y3⟩ := u
                            obtain rfl := h1 _ _ _ rfl
                            clear h1 h2
                            have e := HE.out
                            rw [foldO_on] at e
                            rw [Bool.false_and] at e
                            have HE := Lib.hid e
                            clear e
                            go_wp2_with fail
                            rw [rounds_succ]
                            go_wp2_with fail
                            refine (HL32.out _).mono ?_
                            rintro e W12 ⟨h1, h2, hb⟩
                            have Ma : Mp W12 (B) [v0, v1, v2, v3] := Mp.keep hb (by repeat' (first | (with_reducible first | assumption | refine Mp.drew ?_ | refine Mp.drewN ?_ _ | refine Mp.set ?_ _ _ | (refine Mp.new ?_; focus (first | rfl | (simp; done)))) | (refine Mp.put (vs := []) ?_ rfl rfl) | (refine Mp.put (vs := [v0]) ?_ rfl rfl) | (refine Mp.put (vs := [v0, v1]) ?_ rfl rfl) | (refine Mp.put (vs := [v0, v1, v2]) ?_ rfl rfl) | (with_reducible first | refine Mp.putOther ?_ ?_ _ _ | refine Mp.alloc ?_ _) | (refine neB ?_; omega)))
                            have Me : Mp W12 (C) [u0, u1, u2, u3] := Mp.keep hb (by repeat' (first | (with_reducible first | assumption | refine Mp.drew ?_ | refine Mp.drewN ?_ _ | refine Mp.set ?_ _ _ | (refine Mp.new ?_; focus (first | rfl | (simp; done)))) | (refine Mp.put (vs := []) ?_ rfl rfl) | (refine Mp.put (vs := [u0]) ?_ rfl rfl) | (refine Mp.put (vs := [u0, u1]) ?_ rfl rfl) | (refine Mp.put (vs := [u0, u1, u2]) ?_ rfl rfl) | (with_reducible first | refine Mp.putOther ?_ ?_ _ _ | refine Mp.alloc ?_ _) | (refine neB ?_; omega)))
                            have ma := Ma.out
                            have na_W12 := Ma.lt
                            have me := Me.out
                            have ne_W12 := Me.lt
                            have kaW12 : Acc w W12 := by
                              refine Acc.call ?_ hb
                              (repeat' (first | (with_reducible first | assumption | exact Acc.refl _ | refine Acc.drew ?_ | refine Acc.drewN ?_ _ | refine Acc.alloc ?_ _ | refine Acc.setCell ?_ ?_ _ | refine Acc.mapPut ?_ ?_ _ _) | (refine leB ?_; omega)))
                            clear hb
                            cases o32 with
                            | none =>
                              obtain ⟨s, rfl⟩ := h2 rfl
                              clear h1 h2
                              obtain rfl : O = none := HE.out.symm.trans (foldO_n1 _ _ _)
                              go_wp2_with fail
                              go_ret2
                              refine ⟨fun _ h => (by cases h), fun _ => ⟨_, rfl⟩, ?_⟩
                              show Acc w _
                              (repeat' (first | (with_reducible first | assumption | exact Acc.refl _ | refine Acc.drew ?_ | refine Acc.drewN ?_ _ | refine Acc.alloc ?_ _ | refine Acc.setCell ?_ ?_ _ | refine Acc.mapPut ?_ ?_ _ _) | (refine leB ?_; omega)))
                            | some u =>
                              obtain ⟨x1, x2, x3⟩ := u
                              obtain rfl := h1 _ _ _ rfl
                              clear h1 h2
                              go_wp2_with fail
                              refine (HR32.out _).mono ?_
                              rintro e W13 ⟨h1, h2, hb⟩
                              have Bx : Blk W13 (W12.heap.size) [.int .i64 x1, .int .i64 x2, .int .i64 x3] := Blk.keep hb (by repeat' (first | (with_reducible first | assumption | refine Blk.drew ?_ | refine Blk.drewN ?_ _ | refine Blk.mapPut ?_ _ _ | apply Blk.set | (refine Blk.new ?_; focus (first | rfl | (simp; done))) | refine Blk.alloc ?_ _ | refine Blk.other ?_ ?_ _) | exact eqL rfl | (refine neB ?_; omega)))
                              have Ma : Mp W13 (B) [v0, v1, v2, v3] := Mp.keep hb (by repeat' (first | (with_reducible first | assumption | refine Mp.drew ?_ | refine Mp.drewN ?_ _ | refine Mp.set ?_ _ _ | (refine Mp.new ?_; focus (first | rfl | (simp; done)))) | (refine Mp.put (vs := []) ?_ rfl rfl) | (refine Mp.put (vs := [v0]) ?_ rfl rfl) | (refine Mp.put (vs := [v0, v1]) ?_ rfl rfl) | (refine Mp.put (vs := [v0, v1, v2]) ?_ rfl rfl) | (with_reducible first | refine Mp.putOther ?_ ?_ _ _ | refine Mp.alloc ?_ _) | (refine neB ?_; omega)))
                              have Me : Mp W13 (C) [u0, u1, u2, u3] := Mp.keep hb (by repeat' (first | (with_reducible first | assumption | refine Mp.drew ?_ | refine Mp.drewN ?_ _ | refine Mp.set ?_ _ _ | (refine Mp.new ?_; focus (first | rfl | (simp; done)))) | (refine Mp.put (vs := []) ?_ rfl rfl) | (refine Mp.put (vs := [u0]) ?_ rfl rfl) | (refine Mp.put (vs := [u0, u1]) ?_ rfl rfl) | (refine Mp.put (vs := [u0, u1, u2]) ?_ rfl rfl) | (with_reducible first | refine Mp.putOther ?_ ?_ _ _ | refine Mp.alloc ?_ _) | (refine neB ?_; omega)))
                              have cx := Bx.cell
                              have fx := Bx.free
                              have lx_W13 := Bx.lt
                              have ma := Ma.out
                              have na_W13 := Ma.lt
                              have me := Me.out
                              have ne_W13 := Me.lt
                              have kaW13 : Acc w W13 := by
                                refine Acc.call ?_ hb
                                (repeat' (first | (with_reducible first | assumption | exact Acc.refl _ | refine Acc.drew ?_ | refine Acc.drewN ?_ _ | refine Acc.alloc ?_ _ | refine Acc.setCell ?_ ?_ _ | refine Acc.mapPut ?_ ?_ _ _) | (refine leB ?_; omega)))
                              clear hb
                              cases p32 with
                              | none =>
                                obtain ⟨s, rfl⟩ := h2 rfl
                                clear h1 h2
                                obtain rfl : O = none := HE.out.symm.trans (foldO_n2 _ _ _)
                                go_wp2_with fail
                                go_ret2
                                refine ⟨fun _ h => (by cases h), fun _ => ⟨_, rfl⟩, ?_⟩
                                show Acc w _
                                (repeat' (first | (with_reducible first | assumption | exact Acc.refl _ | refine Acc.drew ?_ | refine Acc.drewN ?_ _ | refine Acc.alloc ?_ _ | refine Acc.setCell ?_ ?_ _ | refine Acc.mapPut ?_ ?_ _ _) | (refine leB ?_; omega)))
                              | some u =>
                                obtain ⟨y1, y2, y3⟩ := u
                                obtain rfl := h1 _ _ _ rfl
                                clear h1 h2
                                have e := HE.out
                                rw [foldO_on] at e
                                rw [Bool.false_and] at e
                                have HE := Lib.hid e
                                clear e
                                go_wp2_with fail
                                rw [rounds_succ]
                                go_wp2_with fail
                                obtain rfl : O = some false := HE.out.symm
                                rw [rounds_succ]
                                go_wp2_with fail
                                go_ret2
                                refine ⟨fun _ h => (by cases h; rfl), fun h => (by cases h), ?_⟩
                                show Acc w _
                                (repeat' (first | (with_reducible first | assumption | exact Acc.refl _ | refine Acc.drew ?_ | refine Acc.drewN ?_ _ | refine Acc.alloc ?_ _ | refine Acc.setCell ?_ ?_ _ | refine Acc.mapPut ?_ ?_ _ _) | (refine leB ?_; omega)))
end Go.Proofs.YtchdcncnlfgjfaaDoor
