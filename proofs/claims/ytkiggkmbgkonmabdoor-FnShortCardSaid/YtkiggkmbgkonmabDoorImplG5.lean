/-
  The program's fibres: a fibre's matrix.
-/
import Derived.Test.YtkiggkmbgkonmabDoorImplG4
import Derived.Test.YtkiggkmbgkonmabDoorImplM1
namespace Go.Proofs.YtkiggkmbgkonmabDoor
open Go.ChangeShapes Go.WideShapes Go.ChangeAt Go.RowKit
set_option linter.unusedVariables false

set_option linter.unusedSimpArgs false
set_option maxHeartbeats 2000000 in
theorem unitMx_any (w : World) : Calls Tryd.prog 53 #[] w fun e w' => e = .returned (.agg #[.int .i64 1, .int .i64 0, .int .i64 1, .int .i64 0, .int .i64 0, .int .i64 1, .int .i64 0, .int .i64 0, .int .i64 1, .int .i64 1, .int .i64 0, .int .i64 1]) ∧ Below w.heap.size w w' := by
  go_enter Tryd.func53, Tryd.ntmps53
  go_wp2_with fail
  refine (diagonal_any 1 0 1 1 0 1 _).mono ?_
  rintro e W1 ⟨rfl, hb⟩
  have Bz : Blk W1 (w.heap.size) [.int .i64 0, .int .i64 0, .int .i64 0, .int .i64 0, .int .i64 0, .int .i64 0, .int .i64 0, .int .i64 0, .int .i64 0, .int .i64 0, .int .i64 0, .int .i64 0] := Blk.keep hb (by repeat' (first | (with_reducible first | assumption | refine Blk.drew ?_ | refine Blk.drewN ?_ _ | apply Blk.set | (refine Blk.new ?_; focus (first | rfl | (simp; done))) | refine Blk.alloc ?_ _ | refine Blk.other ?_ ?_ _) | exact eqL rfl | (refine neB ?_; omega)))
  have cz := Bz.cell
  have fz := Bz.free
  have lz_W1 := Bz.lt
  have kaW1 : Acc w W1 := by
    refine Acc.call ?_ hb
    (repeat' (first | (with_reducible first | assumption | exact Acc.refl _ | refine Acc.drew ?_ | refine Acc.drewN ?_ _ | refine Acc.alloc ?_ _ | refine Acc.setCell ?_ ?_ _) | (refine leB ?_; omega)))
  clear hb
  go_wp2_with fail
  refine bodyPost_ret (v := .agg #[.int .i64 1, .int .i64 0, .int .i64 1, .int .i64 0, .int .i64 0, .int .i64 1, .int .i64 0, .int .i64 0, .int .i64 1, .int .i64 1, .int .i64 0, .int .i64 1]) (by simp [results, Tryd.results53, go_sem, *]) rfl ⟨rfl, ?_⟩
  show Acc w _
  (repeat' (first | (with_reducible first | assumption | exact Acc.refl _ | refine Acc.drew ?_ | refine Acc.drewN ?_ _ | refine Acc.alloc ?_ _ | refine Acc.setCell ?_ ?_ _) | (refine leB ?_; omega)))
theorem fbF_ok {ls : List L4} {A : F4} (h : fbF ls (some oneM) = some A) : okM A = true := by
  have key : ∀ (m : F4) (n : Nat) {B C : F4}, okM B = true → pwM m n B = some C → okM C = true := by
    intro m n
    induction n with
    | zero => intro B C hB h; injection h with h; rw [← h]; exact hB
    | succ n ih =>
      intro B C hB h
      unfold pwM at h
      cases e : pwM m n B with
      | none => rw [e] at h; cases h
      | some D => rw [e] at h; exact (mulM_ok h).2.2
  have key2 : ∀ (s : L4) {B C : F4}, okM B = true → secM s B = some C → okM C = true := by
    intro s B C hB h
    unfold secM at h
    cases e : plaM s.1.1 s.1.2.1 s.1.2.2 with
    | none => rw [e] at h; cases h
    | some m => rw [e] at h; exact key m _ hB h
  have key3 : ∀ (ls : List L4) (o : Option F4), (∀ A, o = some A → okM A = true) → ∀ A, fbF ls o = some A → okM A = true := by
    intro ls
    induction ls with
    | nil => intro o ho A h; exact ho A h
    | cons s r ih =>
      intro o ho A h
      refine ih _ ?_ A h
      intro B hB
      cases o with
      | none => cases hB
      | some D => exact key2 s (ho D rfl) hB
  exact key3 ls _ (fun A h => by cases h; decide) A h
set_option maxRecDepth 100000 in
set_option maxHeartbeats 8000000 in
theorem fbMatrix_any (n₀ : Nat) : ∀ (rs : List L4) (p : Option Addr) (w : World), Fib n₀ w.heap.size w p rs → (∀ s ∈ rs, okS s = true) → Calls Tryd.prog 39 #[.pointer p] w (Erred12 (fbF rs.reverse (some oneM)) w)
  | [], p, w, h, _ => by
    obtain rfl : p = none := h
    show Calls _ _ _ _ (Erred12 (some oneM) w)
    go_enter Tryd.func39, Tryd.ntmps39
    go_wp2_with fail
    refine (unitMx_any _).mono ?_
    rintro e W1 ⟨rfl, hb⟩
    have Br : Blk W1 (w.heap.size) [.int .i64 0, .int .i64 0, .int .i64 0, .int .i64 0, .int .i64 0, .int .i64 0, .int .i64 0, .int .i64 0, .int .i64 0, .int .i64 0, .int .i64 0, .int .i64 0] := Blk.keep hb (by repeat' (first | (with_reducible first | assumption | refine Blk.drew ?_ | refine Blk.drewN ?_ _ | apply Blk.set | (refine Blk.new ?_; focus (first | rfl | (simp; done))) | refine Blk.alloc ?_ _ | refine Blk.other ?_ ?_ _) | exact eqL rfl | (refine neB ?_; omega)))
    have cr := Br.cell
    have fr := Br.free
    have lr_W1 := Br.lt
    have kaW1 : Acc w W1 := by
      refine Acc.call ?_ hb
      (repeat' (first | (with_reducible first | assumption | exact Acc.refl _ | refine Acc.drew ?_ | refine Acc.drewN ?_ _ | refine Acc.alloc ?_ _ | refine Acc.setCell ?_ ?_ _) | (refine leB ?_; omega)))
    clear hb
    go_wp2_with fail
    refine bodyPost_ret (v := .tuple #[.agg #[.int .i64 1, .int .i64 0, .int .i64 1, .int .i64 0, .int .i64 0, .int .i64 1, .int .i64 0, .int .i64 0, .int .i64 1, .int .i64 1, .int .i64 0, .int .i64 1], .nilIface]) (by simp [results, Tryd.results39, go_sem, *]) rfl ⟨fun _ _ _ _ _ _ _ _ _ _ _ _ h => (by cases h; rfl), fun h => (by cases h), ?_⟩
    show Acc w _
    (repeat' (first | (with_reducible first | assumption | exact Acc.refl _ | refine Acc.drew ?_ | refine Acc.drewN ?_ _ | refine Acc.alloc ?_ _ | refine Acc.setCell ?_ ?_ _) | (refine leB ?_; omega)))
  | ((n1, n2, n3), t') :: rs, p, w, h, hok => by
    obtain ⟨b, f, rfl, hb0, hb1, Bb, hf⟩ := h
    obtain ⟨hd, hph, ht0, ht1⟩ := okS_out (hok _ (List.mem_cons_self ..))
    obtain ⟨t, rfl⟩ := Int.eq_ofNat_of_zero_le ht0
    clear ht0 hph
    have HI := Lib.hid fun (W : World) (k : Acc w W) => fbMatrix_any n₀ rs f W ((hf.mono (Nat.le_of_lt hb1)).keep k) (fun s hs => hok s (List.mem_cons_of_mem _ hs))
    have HF : RowKit.Hid (fbF (((n1, n2, n3), (t : Int)) :: rs).reverse (some oneM) = (fbF rs.reverse (some oneM)).bind (secM ((n1, n2, n3), (t : Int)))) := Lib.hid (by rw [List.reverse_cons, fbF_snoc])
    rw [HF.out]
    clear HF hok hf hb0 hb1
    have Bb : Blk w b [.int .i64 n1, .int .i64 n2, .int .i64 n3, .int .i64 (t : Int), .pointer f] := Bb
    have cb := Bb.cell
    have fb := Bb.free
    have lb_w := Bb.lt
    cases ho : fbF rs.reverse (some oneM) with
    | none =>
      have D := Lib.hid fun W k => (HI.out W k).mono fun e w' h => And.intro (h.2.1 ho) h.2.2
      clear ho HI
      show Calls _ _ _ _ (Erred12 none w)
      go_enter Tryd.func39, Tryd.ntmps39
      go_wp2_with fail
      refine (D.out _ (by repeat' (first | (with_reducible first | assumption | exact Acc.refl _ | refine Acc.drew ?_ | refine Acc.drewN ?_ _ | refine Acc.alloc ?_ _ | refine Acc.setCell ?_ ?_ _) | (refine leB ?_; omega)))).mono ?_
      rintro e W1 ⟨⟨s, rfl⟩, hb⟩
      have Bb : Blk W1 (b) [.int .i64 n1, .int .i64 n2, .int .i64 n3, .int .i64 (t : Int), .pointer f] := Blk.keep hb (by repeat' (first | (with_reducible first | assumption | refine Blk.drew ?_ | refine Blk.drewN ?_ _ | apply Blk.set | (refine Blk.new ?_; focus (first | rfl | (simp; done))) | refine Blk.alloc ?_ _ | refine Blk.other ?_ ?_ _) | exact eqL rfl | (refine neB ?_; omega)))
      have Br : Blk W1 (w.heap.size) [.int .i64 0, .int .i64 0, .int .i64 0, .int .i64 0, .int .i64 0, .int .i64 0, .int .i64 0, .int .i64 0, .int .i64 0, .int .i64 0, .int .i64 0, .int .i64 0] := Blk.keep hb (by repeat' (first | (with_reducible first | assumption | refine Blk.drew ?_ | refine Blk.drewN ?_ _ | apply Blk.set | (refine Blk.new ?_; focus (first | rfl | (simp; done))) | refine Blk.alloc ?_ _ | refine Blk.other ?_ ?_ _) | exact eqL rfl | (refine neB ?_; omega)))
      have cb := Bb.cell
      have fb := Bb.free
      have lb_W1 := Bb.lt
      have cr := Br.cell
      have fr := Br.free
      have lr_W1 := Br.lt
      have kaW1 : Acc w W1 := by
        refine Acc.call ?_ hb
        (repeat' (first | (with_reducible first | assumption | exact Acc.refl _ | refine Acc.drew ?_ | refine Acc.drewN ?_ _ | refine Acc.alloc ?_ _ | refine Acc.setCell ?_ ?_ _) | (refine leB ?_; omega)))
      clear hb
      go_wp2_with fail
      refine bodyPost_ret (v := .tuple #[.agg #[.int .i64 0, .int .i64 0, .int .i64 0, .int .i64 0, .int .i64 0, .int .i64 0, .int .i64 0, .int .i64 0, .int .i64 0, .int .i64 0, .int .i64 0, .int .i64 0], .iface 83 (.agg #[.string s])]) (by simp [results, Tryd.results39, go_sem, *]) rfl ⟨fun _ _ _ _ _ _ _ _ _ _ _ _ h => (by cases h), fun _ => ⟨_, rfl⟩, ?_⟩
      show Acc w _
      (repeat' (first | (with_reducible first | assumption | exact Acc.refl _ | refine Acc.drew ?_ | refine Acc.drewN ?_ _ | refine Acc.alloc ?_ _ | refine Acc.setCell ?_ ?_ _) | (refine leB ?_; omega)))
    | some v =>
      obtain ⟨⟨a1, a2, a3⟩, ⟨a4, a5, a6⟩, ⟨a7, a8, a9⟩, a10, a11, a12⟩ := v
      have D := Lib.hid fun W k => (HI.out W k).mono fun e w' h => And.intro (h.1 _ _ _ _ _ _ _ _ _ _ _ _ ho) h.2.2
      have T := Lib.hid fun w => behind_any n1 n2 n3 t a1 a2 a3 a4 a5 a6 a7 a8 a9 a10 a11 a12 hd ht1 (fbF_ok ho) w
      clear ho HI hd
      show Calls _ _ _ _ (Erred12 (secM ((n1, n2, n3), (t : Int)) ((a1, a2, a3), (a4, a5, a6), (a7, a8, a9), (a10, a11, a12))) w)
      obtain ⟨o, ho⟩ : ∃ o, secM ((n1, n2, n3), (t : Int)) ((a1, a2, a3), (a4, a5, a6), (a7, a8, a9), (a10, a11, a12)) = o := ⟨_, rfl⟩
      rw [ho] at T ⊢
      clear ho
      go_enter Tryd.func39, Tryd.ntmps39
      go_upto_region 6 with (go_at_call 39; refine (D.out _ (by repeat' (first | (with_reducible first | assumption | exact Acc.refl _ | refine Acc.drew ?_ | refine Acc.drewN ?_ _ | refine Acc.alloc ?_ _ | refine Acc.setCell ?_ ?_ _) | (refine leB ?_; omega)))).mono ?_; rintro e W1 ⟨rfl, hb⟩; have Bb : Blk W1 (b) [.int .i64 n1, .int .i64 n2, .int .i64 n3, .int .i64 (t : Int), .pointer f] := Blk.keep hb (by repeat' (first | (with_reducible first | assumption | refine Blk.drew ?_ | refine Blk.drewN ?_ _ | apply Blk.set | (refine Blk.new ?_; focus (first | rfl | (simp; done))) | refine Blk.alloc ?_ _ | refine Blk.other ?_ ?_ _) | exact eqL rfl | (refine neB ?_; omega))); have Br : Blk W1 (w.heap.size) [.int .i64 0, .int .i64 0, .int .i64 0, .int .i64 0, .int .i64 0, .int .i64 0, .int .i64 0, .int .i64 0, .int .i64 0, .int .i64 0, .int .i64 0, .int .i64 0] := Blk.keep hb (by repeat' (first | (with_reducible first | assumption | refine Blk.drew ?_ | refine Blk.drewN ?_ _ | apply Blk.set | (refine Blk.new ?_; focus (first | rfl | (simp; done))) | refine Blk.alloc ?_ _ | refine Blk.other ?_ ?_ _) | exact eqL rfl | (refine neB ?_; omega))); have cb := Bb.cell; have fb := Bb.free; have lb_W1 := Bb.lt; have cr := Br.cell; have fr := Br.free; have lr_W1 := Br.lt; have kaW1 : Acc w W1 := (by refine Acc.call ?_ hb; (repeat' (first | (with_reducible first | assumption | exact Acc.refl _ | refine Acc.drew ?_ | refine Acc.drewN ?_ _ | refine Acc.alloc ?_ _ | refine Acc.setCell ?_ ?_ _) | (refine leB ?_; omega)))); clear hb)
      cases o with
      | none =>
        have E := Lib.hid fun w => (T.out w).mono fun e w' h => And.intro (h.2.1 rfl) h.2.2
        clear T
        go_region_held3 (fun w' => (∀ k, w'.cell? ⟨b, k, none⟩ = [.int .i64 n1, .int .i64 n2, .int .i64 n3, .int .i64 (t : Int), .pointer f][k]?) ∧ (∀ k, w'.cell? ⟨W1.heap.size, k, none⟩ = [.int .i64 a1, .int .i64 a2, .int .i64 a3, .int .i64 a4, .int .i64 a5, .int .i64 a6, .int .i64 a7, .int .i64 a8, .int .i64 a9, .int .i64 a10, .int .i64 a11, .int .i64 a12][k]?))
          (((try dsimp only); (refine ⟨Blk.cell ?_, Blk.cell ?_⟩ <;> (repeat' (first | (with_reducible first | assumption | refine Blk.drew ?_ | refine Blk.drewN ?_ _ | apply Blk.set | (refine Blk.new ?_; focus (first | rfl | (simp; done))) | refine Blk.alloc ?_ _ | refine Blk.other ?_ ?_ _) | exact eqL rfl | (refine neB ?_; omega))))))
          (first
            | (go_at_call 54; refine (E.out _).mono ?_; rintro e W9 ⟨⟨s, rfl⟩, hb⟩; have Bb : Blk W9 (b) [.int .i64 n1, .int .i64 n2, .int .i64 n3, .int .i64 (t : Int), .pointer f] := Blk.keep hb (by repeat' (first | (with_reducible first | assumption | refine Blk.drew ?_ | refine Blk.drewN ?_ _ | apply Blk.set | (refine Blk.new ?_; focus (first | rfl | (simp; done))) | refine Blk.alloc ?_ _ | refine Blk.other ?_ ?_ _) | exact eqL rfl | (refine neB ?_; omega))); have Br : Blk W9 (w.heap.size) [.int .i64 0, .int .i64 0, .int .i64 0, .int .i64 0, .int .i64 0, .int .i64 0, .int .i64 0, .int .i64 0, .int .i64 0, .int .i64 0, .int .i64 0, .int .i64 0] := Blk.keep hb (by repeat' (first | (with_reducible first | assumption | refine Blk.drew ?_ | refine Blk.drewN ?_ _ | apply Blk.set | (refine Blk.new ?_; focus (first | rfl | (simp; done))) | refine Blk.alloc ?_ _ | refine Blk.other ?_ ?_ _) | exact eqL rfl | (refine neB ?_; omega))); have Ba : Blk W9 (W1.heap.size) [.int .i64 a1, .int .i64 a2, .int .i64 a3, .int .i64 a4, .int .i64 a5, .int .i64 a6, .int .i64 a7, .int .i64 a8, .int .i64 a9, .int .i64 a10, .int .i64 a11, .int .i64 a12] := Blk.keep hb (by repeat' (first | (with_reducible first | assumption | refine Blk.drew ?_ | refine Blk.drewN ?_ _ | apply Blk.set | (refine Blk.new ?_; focus (first | rfl | (simp; done))) | refine Blk.alloc ?_ _ | refine Blk.other ?_ ?_ _) | exact eqL rfl | (refine neB ?_; omega))); have cb := Bb.cell; have fb := Bb.free; have lb_W9 := Bb.lt; have cr := Br.cell; have fr := Br.free; have lr_W9 := Br.lt; have ca := Ba.cell; have fa := Ba.free; have la_W9 := Ba.lt; have kaW9 : Acc w W9 := (by refine Acc.call ?_ hb; (repeat' (first | (with_reducible first | assumption | exact Acc.refl _ | refine Acc.drew ?_ | refine Acc.drewN ?_ _ | refine Acc.alloc ?_ _ | refine Acc.setCell ?_ ?_ _) | (refine leB ?_; omega)))); clear hb))
        all_goals
          go_wp2_with fail
          refine bodyPost_ret (v := .tuple #[.agg #[.int .i64 0, .int .i64 0, .int .i64 0, .int .i64 0, .int .i64 0, .int .i64 0, .int .i64 0, .int .i64 0, .int .i64 0, .int .i64 0, .int .i64 0, .int .i64 0], .iface 83 (.agg #[.string s])]) (by simp [results, Tryd.results39, go_sem, *]) rfl ⟨fun _ _ _ _ _ _ _ _ _ _ _ _ h => (by cases h), fun _ => ⟨_, rfl⟩, ?_⟩
          show Acc w _
          (repeat' (first | (with_reducible first | assumption | exact Acc.refl _ | refine Acc.drew ?_ | refine Acc.drewN ?_ _ | refine Acc.alloc ?_ _ | refine Acc.setCell ?_ ?_ _) | (refine leB ?_; omega)))
      | some v =>
        obtain ⟨⟨b1, b2, b3⟩, ⟨b4, b5, b6⟩, ⟨b7, b8, b9⟩, b10, b11, b12⟩ := v
        have E := Lib.hid fun w => (T.out w).mono fun e w' h => And.intro (h.1 _ _ _ _ _ _ _ _ _ _ _ _ rfl) h.2.2
        clear T
        go_region_held3 (fun w' => (∀ k, w'.cell? ⟨b, k, none⟩ = [.int .i64 n1, .int .i64 n2, .int .i64 n3, .int .i64 (t : Int), .pointer f][k]?) ∧ (∀ k, w'.cell? ⟨W1.heap.size, k, none⟩ = [.int .i64 a1, .int .i64 a2, .int .i64 a3, .int .i64 a4, .int .i64 a5, .int .i64 a6, .int .i64 a7, .int .i64 a8, .int .i64 a9, .int .i64 a10, .int .i64 a11, .int .i64 a12][k]?))
          (((try dsimp only); (refine ⟨Blk.cell ?_, Blk.cell ?_⟩ <;> (repeat' (first | (with_reducible first | assumption | refine Blk.drew ?_ | refine Blk.drewN ?_ _ | apply Blk.set | (refine Blk.new ?_; focus (first | rfl | (simp; done))) | refine Blk.alloc ?_ _ | refine Blk.other ?_ ?_ _) | exact eqL rfl | (refine neB ?_; omega))))))
          (first
            | (go_at_call 54; refine (E.out _).mono ?_; rintro e W9 ⟨rfl, hb⟩; have Bb : Blk W9 (b) [.int .i64 n1, .int .i64 n2, .int .i64 n3, .int .i64 (t : Int), .pointer f] := Blk.keep hb (by repeat' (first | (with_reducible first | assumption | refine Blk.drew ?_ | refine Blk.drewN ?_ _ | apply Blk.set | (refine Blk.new ?_; focus (first | rfl | (simp; done))) | refine Blk.alloc ?_ _ | refine Blk.other ?_ ?_ _) | exact eqL rfl | (refine neB ?_; omega))); have Br : Blk W9 (w.heap.size) [.int .i64 0, .int .i64 0, .int .i64 0, .int .i64 0, .int .i64 0, .int .i64 0, .int .i64 0, .int .i64 0, .int .i64 0, .int .i64 0, .int .i64 0, .int .i64 0] := Blk.keep hb (by repeat' (first | (with_reducible first | assumption | refine Blk.drew ?_ | refine Blk.drewN ?_ _ | apply Blk.set | (refine Blk.new ?_; focus (first | rfl | (simp; done))) | refine Blk.alloc ?_ _ | refine Blk.other ?_ ?_ _) | exact eqL rfl | (refine neB ?_; omega))); have Ba : Blk W9 (W1.heap.size) [.int .i64 a1, .int .i64 a2, .int .i64 a3, .int .i64 a4, .int .i64 a5, .int .i64 a6, .int .i64 a7, .int .i64 a8, .int .i64 a9, .int .i64 a10, .int .i64 a11, .int .i64 a12] := Blk.keep hb (by repeat' (first | (with_reducible first | assumption | refine Blk.drew ?_ | refine Blk.drewN ?_ _ | apply Blk.set | (refine Blk.new ?_; focus (first | rfl | (simp; done))) | refine Blk.alloc ?_ _ | refine Blk.other ?_ ?_ _) | exact eqL rfl | (refine neB ?_; omega))); have cb := Bb.cell; have fb := Bb.free; have lb_W9 := Bb.lt; have cr := Br.cell; have fr := Br.free; have lr_W9 := Br.lt; have ca := Ba.cell; have fa := Ba.free; have la_W9 := Ba.lt; have kaW9 : Acc w W9 := (by refine Acc.call ?_ hb; (repeat' (first | (with_reducible first | assumption | exact Acc.refl _ | refine Acc.drew ?_ | refine Acc.drewN ?_ _ | refine Acc.alloc ?_ _ | refine Acc.setCell ?_ ?_ _) | (refine leB ?_; omega)))); clear hb))
        all_goals
          go_wp2_with fail
          refine bodyPost_ret (v := .tuple #[.agg #[.int .i64 b1, .int .i64 b2, .int .i64 b3, .int .i64 b4, .int .i64 b5, .int .i64 b6, .int .i64 b7, .int .i64 b8, .int .i64 b9, .int .i64 b10, .int .i64 b11, .int .i64 b12], .nilIface]) (by simp [results, Tryd.results39, go_sem, *]) rfl ⟨fun _ _ _ _ _ _ _ _ _ _ _ _ h => (by cases h; rfl), fun h => (by cases h), ?_⟩
          show Acc w _
          (repeat' (first | (with_reducible first | assumption | exact Acc.refl _ | refine Acc.drew ?_ | refine Acc.drewN ?_ _ | refine Acc.alloc ?_ _ | refine Acc.setCell ?_ ?_ _) | (refine leB ?_; omega)))
end Go.Proofs.YtkiggkmbgkonmabDoor
