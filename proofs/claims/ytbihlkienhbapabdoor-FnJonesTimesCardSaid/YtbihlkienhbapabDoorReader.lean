/-
  The reader of a code (the draws' own): what it is in memory, and the contract of 'pick': a number from 0 to n-1, whatever the code.
-/
import Derived.Test.YtbihlkienhbapabDoorMem
namespace Go.Proofs.YtbihlkienhbapabDoor
open Go.ChangeShapes Go.WideShapes Go.ChangeAt Go.RowKit
set_option linter.unusedVariables false

/-- A slice of integers that came in: nil, or a row of cap cells. -/
def IsRow (k : IntKind) (w : World) (a : Option Addr) (len cap : Nat) (zs : List Int) : Prop :=
  (a = none ∧ len = 0 ∧ cap = 0 ∧ zs = []) ∨
  ∃ x, a = some x ∧ len ≤ cap ∧ cap ≤ maxLen ∧ zs.length = cap ∧ (∀ i, i < zs.length → w.cell? (x.add i) = some (.int k (zs.getD i 0))) ∧ ∀ n ∈ zs, (Lit.int k n).wf = true

/-- Nothing that was there has changed but block b. -/
structure Only (b : Nat) (w w' : World) : Prop where
  os : w'.os = w.os
  tape : w'.tape = w.tape
  output : w'.output = w.output
  size : w.heap.size ≤ w'.heap.size
  block : ∀ k, k < w.heap.size → k ≠ b → w'.heap[k]? = w.heap[k]?

theorem Only.refl (b : Nat) (w : World) : Only b w w := ⟨rfl, rfl, rfl, Nat.le_refl _, fun _ _ _ => rfl⟩
theorem Only.trans {b : Nat} {u v w : World} (h : Only b u v) (k : Only b v w) : Only b u w :=
  ⟨k.os.trans h.os, k.tape.trans h.tape, k.output.trans h.output, Nat.le_trans h.size k.size, fun i hi hb => (k.block i (Nat.lt_of_lt_of_le hi h.size) hb).trans (h.block i hi hb)⟩
theorem Only.below {b B : Nat} {w w' : World} (h : Only b w w') (hB : B ≤ w.heap.size) (hb : B ≤ b) : Below B w w' :=
  ⟨h.os, h.tape, h.output, h.size, fun k hk => h.block k (by omega) (by omega)⟩
theorem Below.only {b : Nat} {w w' : World} (h : Below w.heap.size w w') : Only b w w' :=
  ⟨h.os, h.tape, h.output, h.size, fun k hk _ => h.block k hk⟩

/-- The reader lies in block b: the code's slice (nil, or over block c), and the place. -/
def Rd (w : World) (b : Nat) (p : Nat) : Prop :=
  b < w.heap.size ∧ p ≤ 1000000 ∧ w.frozen? ⟨b, 1, none⟩ = false ∧ w.cell? ⟨b, 1, none⟩ = some (.int .i64 p) ∧
  ((∃ a cap, w.cell? ⟨b, 0, none⟩ = some (.slice a 0 cap)) ∨
   ∃ c off len cap : Nat, c < b ∧ 0 < len ∧ len ≤ 2000 ∧ w.cell? ⟨b, 0, none⟩ = some (.slice (some ⟨c, off, none⟩) len cap) ∧
     ∀ i : Nat, i < len → ∃ z : Int, 0 ≤ z ∧ z ≤ 255 ∧ w.cell? ⟨c, off + i, none⟩ = some (.int .u8 z))

/-- A number from 0 to n-1; the reader has gone on; nothing else has changed. -/
def Picked (b p : Nat) (n : Int) (w : World) (e : Ending) (w' : World) : Prop :=
  ∃ k : Int, e = .returned (.int .i64 k) ∧ 0 ≤ k ∧ k < n ∧ Only b w w' ∧ Rd w' b (p + 1)

theorem only_set (w : World) (b o : Nat) (v : Value) (n : Nat) : Only b w ((w.setCell ⟨b, o, none⟩ v).drewN n) :=
  ⟨rfl, rfl, rfl, by simp [World.setCell], fun k hk hb => Below.heap_setCell _ _ _ _ hb⟩

theorem rd_set {w : World} {b p : Nat} (h : Rd w b p) (hp : p < 1000000) (n : Nat) : Rd ((w.setCell ⟨b, 1, none⟩ (.int .i64 (p + 1))).drewN n) b (p + 1) := by
  obtain ⟨hb, hp1, hfz, hc1, hrest⟩ := h
  have keep : ∀ q : Addr, q ≠ ⟨b, 1, none⟩ → ((w.setCell ⟨b, 1, none⟩ (.int .i64 (p + 1))).drewN n).cell? q = w.cell? q := fun q hq => World.cell?_setCell_other w _ q _ (Ne.symm hq)
  refine ⟨by simpa [World.setCell] using hb, by omega, ?_, ?_, ?_⟩
  · exact (World.frozen?_setCell _ _ _ _).trans hfz
  · exact World.cell?_setCell_same w ⟨b, 1, none⟩ (.int .i64 (p + 1)) hc1
  · rcases hrest with ⟨a, cap, hc0⟩ | ⟨c, off, len, cap, hcb, hl0, hl, hc0, hz⟩
    · exact .inl ⟨a, cap, (keep _ (by simp)).trans hc0⟩
    · refine .inr ⟨c, off, len, cap, hcb, hl0, hl, (keep _ (by simp)).trans hc0, fun i hi => ?_⟩
      obtain ⟨z, z0, z1, hzc⟩ := hz i hi
      exact ⟨z, z0, z1, (keep _ (by simp only [ne_eq, Addr.mk.injEq, not_and]; omega)).trans hzc⟩

theorem xor_nn (a b : Int) (h1 : 0 ≤ a) (h2 : a < 1099511627776) (h3 : 0 ≤ b) (h4 : b < 1099511627776) : 0 ≤ bits .xor .i64 a b := by
  obtain ⟨a, rfl⟩ := Int.eq_ofNat_of_zero_le h1
  obtain ⟨b, rfl⟩ := Int.eq_ofNat_of_zero_le h3
  have hx : a ^^^ b < 2 ^ 40 := Nat.xor_lt_two_pow (by omega) (by omega)
  have e1 : (BitVec.ofInt 64 (a : Int)).toNat = a := by
    rw [BitVec.ofInt_natCast, BitVec.toNat_ofNat]; exact Nat.mod_eq_of_lt (by omega)
  have e2 : (BitVec.ofInt 64 (b : Int)).toNat = b := by
    rw [BitVec.ofInt_natCast, BitVec.toNat_ofNat]; exact Nat.mod_eq_of_lt (by omega)
  show 0 ≤ IntKind.i64.wrap ((BitVec.ofInt 64 (a : Int) ^^^ BitVec.ofInt 64 (b : Int)).toNat : Int)
  rw [BitVec.toNat_xor, e1, e2, IntWalk.i64_in _ (by omega)]
  omega

set_option maxRecDepth 100000 in
set_option maxHeartbeats 1000000 in
theorem pick_any (b p : Nat) (n : Int) (w : World) (h : Rd w b p) (hp : p < 1000000) (h1 : 1 ≤ n) (h2 : n ≤ 1000000) :
    Calls Tryd.prog 83 #[.pointer (some ⟨b, 0, none⟩), .int .i64 n] w (Picked b p n w) := by
  have h' := Lib.hid h
  obtain ⟨hb, hp1, hfz, hc1, hrest⟩ := h
  rcases hrest with ⟨a, cap, hc0⟩ | ⟨c, off, len, cap, hcb, hl0, hl, hc0, hz⟩
  · go_enter Tryd.func83, Tryd.ntmps83
    go_wp2
    go_ret
    exact ⟨0, rfl, by omega, by omega, only_set w b 1 _ 0, rd_set h'.out hp 0⟩
  · by_cases hk : p < len
    · obtain ⟨z, z0, z1, hzc⟩ := hz p hk
      clear hz
      have g1 : decide (n < 1) = false := by simp; omega
      have g2 : ((len : Int) == 0) = false := by simp; omega
      go_enter Tryd.func83, Tryd.ntmps83
      go_wp2
      go_ret
      exact ⟨z % n, rfl, Int.emod_nonneg _ (by omega), Int.emod_lt_of_pos _ (by omega), only_set w b 1 _ 0, rd_set h'.out hp 0⟩
    · have hq1 : p % len < len := Nat.mod_lt _ hl0
      have hq2 : (p * 7 + 3) % len < len := Nat.mod_lt _ hl0
      obtain ⟨z, z0, z1, hzc⟩ := hz _ hq1
      obtain ⟨q, hq, hql⟩ : ∃ q : Nat, ((p : Int) * 7 + 3) % (len : Int) = (q : Int) ∧ q < len := ⟨(p * 7 + 3) % len, by simp, hq2⟩
      obtain ⟨y, y0, y1, hyc⟩ := hz q hql
      clear hq2
      have d0 : 0 ≤ (p : Int) / (len : Int) := Int.ediv_nonneg (by omega) (by omega)
      have d1 : (p : Int) / (len : Int) ≤ 1000000 := Int.le_trans (Int.ediv_le_self _ (by omega)) (by omega)
      clear hz
      have g1 : decide (n < 1) = false := by simp; omega
      have g2 : ((len : Int) == 0) = false := by simp; omega
      have g3 : decide (p < len) = false := by simp; omega
      go_enter Tryd.func83, Tryd.ntmps83
      go_wp2
      go_quiet (fail)
      go_wp2
      go_ret
      have x0 := xor_nn (z * 131 + y * 1117 + ↑p * 29 + ↑p / ↑len * 53) ((z * 131 + y * 1117 + ↑p * 29 + ↑p / ↑len * 53) / 64) (by omega) (by omega) (by omega) (by omega)
      exact ⟨_, rfl, Int.tmod_nonneg _ x0, Int.tmod_lt_of_pos _ (by omega), only_set w b 1 _ nq, rd_set h'.out hp nq⟩
end Go.Proofs.YtbihlkienhbapabDoor
