/-
  The program: a fibre made short.
-/
import Derived.Test.YtkiggkmbgkonmabDoorImplG16n
import Derived.Test.YtkiggkmbgkonmabDoorImplG16e
namespace Go.Proofs.YtkiggkmbgkonmabDoor
open Go.ChangeShapes Go.WideShapes Go.ChangeAt Go.RowKit
set_option linter.unusedVariables false

set_option linter.unusedSimpArgs false
theorem joined_any (n₀ b : Nat) (q1 : Option Addr) (rs : List L4) (s : L4) (hs : okS s = true) (hr : ∀ r ∈ rs, okS r = true) (w : World) (hb0 : n₀ ≤ b) (Bb : Blk w b (lnk s q1)) (hf : Fib n₀ b w q1 rs) : Calls Tryd.prog 51 #[.pointer (some ⟨b, 0, none⟩)] w (JoinOut n₀ b (putE rs s) w) := by
  obtain ⟨⟨n1, n2, n3⟩, t⟩ := s
  cases rs with
  | nil =>
    obtain rfl : q1 = none := hf
    exact joined_nil n₀ b n1 n2 n3 t hs w hb0 Bb
  | cons r rest =>
    obtain ⟨b1, q2, rfl, h0, h1, Br, hf⟩ := hf
    obtain ⟨⟨m1, m2, m3⟩, u⟩ := r
    have hu := (okS_out (hr _ (List.mem_cons_self ..))).2.2
    by_cases e : (m1, m2, m3) = (n1, n2, n3)
    · simp only [Prod.mk.injEq] at e
      obtain ⟨rfl, rfl, rfl⟩ := e
      exact joined_eq n₀ b b1 m1 m2 m3 t u q2 rest hs hu w h0 h1 Bb Br hf
    · exact joined_ne n₀ b b1 n1 n2 n3 t m1 m2 m3 u q2 rest hs hu e w h0 h1 Bb Br hf
/-- What short leaves. -/
def ShortOut (n₀ n₁ : Nat) (out : List L4) (w : World) (e : Ending) (w' : World) : Prop := ∃ q, e = .returned (.pointer q) ∧ Fib n₀ n₁ w' q out ∧ Chg n₀ n₁ w w'
set_option maxRecDepth 100000 in
set_option maxHeartbeats 8000000 in
theorem fbShort_any (n₀ : Nat) : ∀ (rs : List L4) (n₁ : Nat) (p : Option Addr) (w : World), Fib n₀ n₁ w p rs → n₁ ≤ w.heap.size → (∀ s ∈ rs, okS s = true) → Calls Tryd.prog 33 #[.pointer p] w (ShortOut n₀ n₁ (shoE rs.reverse) w)
  | [], n₁, p, w, h, hn, hok => by
    obtain rfl : p = none := h
    go_enter Tryd.func33, Tryd.ntmps33
    go_wp2_with fail
    go_ret
    exact ⟨none, rfl, rfl, Chg.refl _ _ _⟩
  | ((n1, n2, n3), t) :: rs, n₁, p, w, h, hn, hok => by
    obtain ⟨b, f, rfl, hb0, hb1, Bb, hf⟩ := h
    have hrs : ∀ s ∈ rs.reverse, okS s = true := fun s hs => hok s (List.mem_cons_of_mem _ (List.mem_reverse.1 hs))
    have HI := Lib.hid (fbShort_any n₀ rs b f w hf (Nat.le_of_lt Bb.lt) (fun s hs => hok s (List.mem_cons_of_mem _ hs)))
    have HJ := Lib.hid fun (W : World) (q1 : Option Addr) (B : Blk W b (lnk ((n1, n2, n3), t) q1)) (k : Fib n₀ b W q1 (shoE rs.reverse)) => joined_any n₀ b q1 (shoE rs.reverse) ((n1, n2, n3), t) (hok _ (List.mem_cons_self ..)) (shoE_ok hrs).1 W hb0 B k
    have HE : RowKit.Hid (shoE ((((n1, n2, n3), t) :: rs).reverse) = putE (shoE rs.reverse) ((n1, n2, n3), t)) := Lib.hid (by rw [List.reverse_cons, shoE_snoc])
    rw [HE.out]
    clear HE hok hrs hf
    have hbw := Bb.lt
    have Bb : Blk w b [.int .i64 n1, .int .i64 n2, .int .i64 n3, .int .i64 t, .pointer f] := Bb
    have cb := Bb.cell
    have fb := Bb.free
    go_enter Tryd.func33, Tryd.ntmps33
    go_wp2_with fail
    refine HI.out.mono ?_
    rintro e W1 ⟨q1, rfl, h1, hc⟩
    have B1 : Blk W1 b [.int .i64 n1, .int .i64 n2, .int .i64 n3, .int .i64 t, .pointer f] := Bb.chg hc (Nat.le_refl _)
    have H1 := Lib.hid h1
    have HC := Lib.hid hc
    clear h1 hc cb fb
    have cb := B1.cell
    have fb := B1.free
    have l1 := B1.lt
    go_wp2_with fail
    refine (HJ.out _ q1 (show Blk _ _ [.int .i64 n1, .int .i64 n2, .int .i64 n3, .int .i64 t, .pointer q1] by repeat' (first | (with_reducible first | assumption | refine Blk.drew ?_ | refine Blk.drewN ?_ _ | apply Blk.set | (refine Blk.new ?_; focus (first | rfl | (simp; done))) | refine Blk.alloc ?_ _ | refine Blk.other ?_ ?_ _) | exact eqL rfl | (refine neB ?_; omega))) (H1.out.below (Only.belowB (show Only b W1 _ from Only.here (Only.refl _ _) _) (Nat.le_of_lt l1)))).mono ?_
    rintro e W2 ⟨q2, rfl, h2, ho⟩
    have H2 := Lib.hid h2
    have HO := Lib.hid ho
    clear h2 ho
    go_wp2_with fail
    go_ret
    exact ⟨q2, rfl, H2.out.mono hb1, (HC.out.mono (Nat.le_refl _) (Nat.le_of_lt hb1)).trans (Chg.of_only (Only.trans (Only.here (Only.refl _ _) _) HO.out) hb0 hb1)⟩
end Go.Proofs.YtkiggkmbgkonmabDoor
