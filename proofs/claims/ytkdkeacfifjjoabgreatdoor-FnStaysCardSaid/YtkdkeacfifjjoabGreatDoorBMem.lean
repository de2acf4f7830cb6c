/-
  Memory, the reader of draws, floats.
-/
import Derived.Test.YtkdkeacfifjjoabGreatDoorRows
import Derived.WalkKit
import Derived.ProofKit
import Derived.OpenShut
import Derived.Below
import Derived.IntWalk
import Derived.BigRegion
import Derived.RegionTactic
import Derived.ChangeAlike
import Derived.Deep.QuietTactic
import Derived.BigQuiet
import Derived.Deep.RegionHeld3
import Derived.Deep.DeepCutAuto
import Derived.Lib.Hide
import Derived.OneCell
import Derived.WalkLawsBesides
import Derived.KernelRfl
namespace Go.Proofs.YtkdkeacfifjjoabGreatDoor
open Go.ChangeShapes Go.WideShapes Go.ChangeAt Go.RowKit
set_option linter.unusedVariables false

def Fine (w : World) (e : Ending) (w' : World) : Prop := e = .returned (.bool true) ∧ Below w.heap.size w w'

def Bare (w w' : World) : Prop := ∀ B, Below B w w'
theorem bare_drewN (w : World) (n : Nat) : Bare w (w.drewN n) := fun _ => ⟨rfl, rfl, rfl, Nat.le_refl _, fun _ _ => rfl⟩
theorem Bare.trans {u v w : World} (h : Bare u v) (k : Bare v w) : Bare u w := fun B => (h B).trans (k B)

/-- Three cells that were there stay. -/
theorem keep3 {W w' : World} (hb : Below W.heap.size W w') {b : Nat} {x y z : Value} (h : W.cell? ⟨b, 0, none⟩ = some x ∧ W.cell? ⟨b, 1, none⟩ = some y ∧ W.cell? ⟨b, 2, none⟩ = some z) :
    w'.cell? ⟨b, 0, none⟩ = some x ∧ w'.cell? ⟨b, 1, none⟩ = some y ∧ w'.cell? ⟨b, 2, none⟩ = some z :=
  have l : b < W.heap.size := World.block_lt_of_cell? W _ h.1
  ⟨(hb.cell (p := ⟨b, 0, none⟩) l).trans h.1, (hb.cell (p := ⟨b, 1, none⟩) l).trans h.2.1, (hb.cell (p := ⟨b, 2, none⟩) l).trans h.2.2⟩

/-- What was there when w began is as it was. -/
def Acc (w W : World) : Prop := Below w.heap.size w W
theorem Acc.refl (w : World) : Acc w w := Below.refl _ _
theorem Acc.alloc {w W : World} (h : Acc w W) (o : Obj) : Acc w (W.alloc o) := Below.alloc h (Below.size h) o
theorem Acc.drew {w W : World} (h : Acc w W) : Acc w W.drew := Below.drew h
theorem Acc.setCell {w W : World} {b o : Nat} {s : Option Nat} (h : Acc w W) (hp : w.heap.size ≤ b) (v : Value) : Acc w (W.setCell ⟨b, o, s⟩ v) := Below.setCell h hp v
theorem Acc.call {w W W' : World} (h : Acc w W) (hb : Below W.heap.size W W') : Acc w W' := Below.trans h (Below.mono hb (Below.size h))
theorem Acc.drewN {w W : World} (h : Acc w W) (n : Nat) : Acc w (W.drewN n) := Below.trans h (bare_drewN _ _ _)
theorem with_fact {A G : Prop} (h : A) (k : A → G) : G := k h
theorem bcell {W w1 : World} (hb : Below W.heap.size W w1) : (∀ b o, b < W.heap.size → w1.cell? ⟨b, o, none⟩ = W.cell? ⟨b, o, none⟩) ∧ (∀ b o, b < W.heap.size → w1.frozen? ⟨b, o, none⟩ = W.frozen? ⟨b, o, none⟩) :=
  ⟨fun b o h => hb.cell (p := ⟨b, o, none⟩) h, fun b o h => hb.frozen (p := ⟨b, o, none⟩) h⟩
theorem ret_int {k : IntKind} {a b : Int} (h : a = b) : Ending.returned (.int k a) = .returned (.int k b) := by rw [h]

/-- What was not frozen stays so. -/
theorem keepf3 {W w' : World} (hb : Below W.heap.size W w') {b : Nat} (h : b < W.heap.size) (hf : W.frozen? ⟨b, 0, none⟩ = false ∧ W.frozen? ⟨b, 1, none⟩ = false ∧ W.frozen? ⟨b, 2, none⟩ = false) :
    w'.frozen? ⟨b, 0, none⟩ = false ∧ w'.frozen? ⟨b, 1, none⟩ = false ∧ w'.frozen? ⟨b, 2, none⟩ = false :=
  ⟨(hb.frozen (p := ⟨b, 0, none⟩) h).trans hf.1, (hb.frozen (p := ⟨b, 1, none⟩) h).trans hf.2.1, (hb.frozen (p := ⟨b, 2, none⟩) h).trans hf.2.2⟩

theorem keep6 {W w' : World} (hb : Below W.heap.size W w') {b : Nat} {v0 v1 v2 v3 v4 v5 : Value} (h : W.cell? ⟨b, 0, none⟩ = some v0 ∧ W.cell? ⟨b, 1, none⟩ = some v1 ∧ W.cell? ⟨b, 2, none⟩ = some v2 ∧ W.cell? ⟨b, 3, none⟩ = some v3 ∧ W.cell? ⟨b, 4, none⟩ = some v4 ∧ W.cell? ⟨b, 5, none⟩ = some v5) :
    w'.cell? ⟨b, 0, none⟩ = some v0 ∧ w'.cell? ⟨b, 1, none⟩ = some v1 ∧ w'.cell? ⟨b, 2, none⟩ = some v2 ∧ w'.cell? ⟨b, 3, none⟩ = some v3 ∧ w'.cell? ⟨b, 4, none⟩ = some v4 ∧ w'.cell? ⟨b, 5, none⟩ = some v5 :=
  have l : b < W.heap.size := World.block_lt_of_cell? W _ h.1
  ⟨(hb.cell (p := ⟨b, 0, none⟩) l).trans h.1, (hb.cell (p := ⟨b, 1, none⟩) l).trans h.2.1, (hb.cell (p := ⟨b, 2, none⟩) l).trans h.2.2.1, (hb.cell (p := ⟨b, 3, none⟩) l).trans h.2.2.2.1, (hb.cell (p := ⟨b, 4, none⟩) l).trans h.2.2.2.2.1, (hb.cell (p := ⟨b, 5, none⟩) l).trans h.2.2.2.2.2⟩
theorem neB {a b : Nat} (h : a < b ∨ b < a) : a ≠ b := by omega
theorem leB {a b : Nat} (h : a ≤ b) : a ≤ b := h
theorem eqL {a b : List Value} (h : a = b) : a = b := h
/-- Block b holds these values, and may be written. -/
def Blk (w : World) (b : Nat) (vs : List Value) : Prop := ∃ T, w.heap[b]? = some (.cells vs.toArray T (0, 0))
theorem Blk.cell {w : World} {b : Nat} {vs : List Value} (h : Blk w b vs) : ∀ k, w.cell? ⟨b, k, none⟩ = vs[k]? := by
  obtain ⟨T, h⟩ := h
  intro k
  simp [World.cell?, h]
theorem Blk.free {w : World} {b : Nat} {vs : List Value} (h : Blk w b vs) : ∀ k, w.frozen? ⟨b, k, none⟩ = false := by
  obtain ⟨T, h⟩ := h
  intro k
  simp [World.frozen?, h]
theorem Blk.lt {w : World} {b : Nat} {vs : List Value} (h : Blk w b vs) : b < w.heap.size := by
  obtain ⟨T, h⟩ := h
  exact lt_of_block h
theorem Blk.keep {w w' : World} {b : Nat} {vs : List Value} (hb : Below w.heap.size w w') (h : Blk w b vs) : Blk w' b vs := by
  have l := h.lt
  obtain ⟨T, h⟩ := h
  exact ⟨T, (hb.block b l).trans h⟩
theorem Blk.drew {w : World} {b : Nat} {vs : List Value} (h : Blk w b vs) : Blk w.drew b vs := h
theorem Blk.drewN {w : World} {b : Nat} {vs : List Value} (h : Blk w b vs) (n : Nat) : Blk (w.drewN n) b vs := h
theorem Blk.alloc {w : World} {b : Nat} {vs : List Value} (h : Blk w b vs) (o : Obj) : Blk (w.alloc o) b vs := by
  have l := h.lt
  obtain ⟨T, h⟩ := h
  exact ⟨T, (Below.heap_alloc _ _ _ l).trans h⟩
theorem Blk.new {w : World} {n : Nat} {vs : List Value} {T : TypeId} (e : n = w.heap.size) : Blk (w.alloc (.cells vs.toArray T)) n vs := by
  subst e
  exact ⟨T, by show (w.heap.push _)[_]? = _; simp⟩
theorem Blk.other {w : World} {b b' k : Nat} {s : Option Nat} {vs : List Value} (h : Blk w b vs) (e : b ≠ b') (v : Value) : Blk (w.setCell ⟨b', k, s⟩ v) b vs := by
  obtain ⟨T, h⟩ := h
  exact ⟨T, (Below.heap_setCell _ _ _ _ e).trans h⟩
theorem Blk.set {w : World} {b k : Nat} {v : Value} {vs vs' : List Value} (h : Blk w b vs) (e : vs' = vs.set k v) : Blk (w.setCell ⟨b, k, none⟩ v) b vs' := by
  have l := h.lt
  obtain ⟨T, h⟩ := h
  subst e
  refine ⟨T, ?_⟩
  show (w.heap.modify b _)[b]? = _
  rw [Array.getElem?_modify, if_pos rfl, h]
  simp

theorem gcd_step (x y : Int) : Int.gcd y (x.tmod y) = Int.gcd x y := by
  rw [Int.gcd_comm x y]
  have : x.tmod y = x - y * x.tdiv y := Int.tmod_def x y
  rw [this, Int.gcd_sub_mul_left_right]

theorem tmod_bound (x y : Int) (h : y ≠ 0) : (x.tmod y).natAbs < y.natAbs := by
  rw [Int.natAbs_tmod]
  exact Nat.mod_lt _ (by omega)

def i64B (n : Int) : Prop := -9223372036854775808 ≤ n ∧ n ≤ 9223372036854775807

/-- A slice of integers that came in: nil, or a row of cap cells. -/
def IsRow (k : IntKind) (w : World) (a : Option Addr) (len cap : Nat) (zs : List Int) : Prop :=
  (a = none ∧ len = 0 ∧ cap = 0 ∧ zs = []) ∨
  ∃ x, a = some x ∧ len ≤ cap ∧ cap ≤ maxLen ∧ zs.length = cap ∧ (∀ i, i < zs.length → w.cell? (x.add i) = some (.int k (zs.getD i 0))) ∧ ∀ n ∈ zs, (Lit.int k n).wf = true

/-- Nothing that was there has changed but block b. -/
structure Only (b : Nat) (w w' : World) : Prop where
  os : w'.os = w.os
  tape : w'.tape = w.tape
  output : w'.output = w.output
  size : w.heap.size ≤ w'.heap.size
  block : ∀ k, k < w.heap.size → k ≠ b → w'.heap[k]? = w.heap[k]?

theorem Only.refl (b : Nat) (w : World) : Only b w w := ⟨rfl, rfl, rfl, Nat.le_refl _, fun _ _ _ => rfl⟩
theorem Only.trans {b : Nat} {u v w : World} (h : Only b u v) (k : Only b v w) : Only b u w :=
  ⟨k.os.trans h.os, k.tape.trans h.tape, k.output.trans h.output, Nat.le_trans h.size k.size, fun i hi hb => (k.block i (Nat.lt_of_lt_of_le hi h.size) hb).trans (h.block i hi hb)⟩
theorem Only.below {b B : Nat} {w w' : World} (h : Only b w w') (hB : B ≤ w.heap.size) (hb : B ≤ b) : Below B w w' :=
  ⟨h.os, h.tape, h.output, h.size, fun k hk => h.block k (by omega) (by omega)⟩
theorem Below.only {b : Nat} {w w' : World} (h : Below w.heap.size w w') : Only b w w' :=
  ⟨h.os, h.tape, h.output, h.size, fun k hk _ => h.block k hk⟩

/-- The reader lies in block b: the code's slice (nil, or over block c), and the place. -/
def Rd (w : World) (b : Nat) (p : Nat) : Prop :=
  b < w.heap.size ∧ p ≤ 1000000 ∧ w.frozen? ⟨b, 1, none⟩ = false ∧ w.cell? ⟨b, 1, none⟩ = some (.int .i64 p) ∧
  ((∃ a cap, w.cell? ⟨b, 0, none⟩ = some (.slice a 0 cap)) ∨
   ∃ c off len cap : Nat, c < b ∧ 0 < len ∧ len ≤ 2000 ∧ w.cell? ⟨b, 0, none⟩ = some (.slice (some ⟨c, off, none⟩) len cap) ∧
     ∀ i : Nat, i < len → ∃ z : Int, 0 ≤ z ∧ z ≤ 255 ∧ w.cell? ⟨c, off + i, none⟩ = some (.int .u8 z))

/-- A number from 0 to n-1; the reader has gone on; nothing else has changed. -/
def Picked (b p : Nat) (n : Int) (w : World) (e : Ending) (w' : World) : Prop :=
  ∃ k : Int, e = .returned (.int .i64 k) ∧ 0 ≤ k ∧ k < n ∧ Only b w w' ∧ Rd w' b (p + 1)

theorem only_set (w : World) (b o : Nat) (v : Value) (n : Nat) : Only b w ((w.setCell ⟨b, o, none⟩ v).drewN n) :=
  ⟨rfl, rfl, rfl, by simp [World.setCell], fun k hk hb => Below.heap_setCell _ _ _ _ hb⟩

theorem rd_set {w : World} {b p : Nat} (h : Rd w b p) (hp : p < 1000000) (n : Nat) : Rd ((w.setCell ⟨b, 1, none⟩ (.int .i64 (p + 1))).drewN n) b (p + 1) := by
  obtain ⟨hb, hp1, hfz, hc1, hrest⟩ := h
  have keep : ∀ q : Addr, q ≠ ⟨b, 1, none⟩ → ((w.setCell ⟨b, 1, none⟩ (.int .i64 (p + 1))).drewN n).cell? q = w.cell? q := fun q hq => World.cell?_setCell_other w _ q _ (Ne.symm hq)
  refine ⟨by simpa [World.setCell] using hb, by omega, ?_, ?_, ?_⟩
  · exact (World.frozen?_setCell _ _ _ _).trans hfz
  · exact World.cell?_setCell_same w ⟨b, 1, none⟩ (.int .i64 (p + 1)) hc1
  · rcases hrest with ⟨a, cap, hc0⟩ | ⟨c, off, len, cap, hcb, hl0, hl, hc0, hz⟩
    · exact .inl ⟨a, cap, (keep _ (by simp)).trans hc0⟩
    · refine .inr ⟨c, off, len, cap, hcb, hl0, hl, (keep _ (by simp)).trans hc0, fun i hi => ?_⟩
      obtain ⟨z, z0, z1, hzc⟩ := hz i hi
      exact ⟨z, z0, z1, (keep _ (by simp only [ne_eq, Addr.mk.injEq, not_and]; omega)).trans hzc⟩

theorem xor_nn (a b : Int) (h1 : 0 ≤ a) (h2 : a < 1099511627776) (h3 : 0 ≤ b) (h4 : b < 1099511627776) : 0 ≤ bits .xor .i64 a b := by
  obtain ⟨a, rfl⟩ := Int.eq_ofNat_of_zero_le h1
  obtain ⟨b, rfl⟩ := Int.eq_ofNat_of_zero_le h3
  have hx : a ^^^ b < 2 ^ 40 := Nat.xor_lt_two_pow (by omega) (by omega)
  have e1 : (BitVec.ofInt 64 (a : Int)).toNat = a := by
    rw [BitVec.ofInt_natCast, BitVec.toNat_ofNat]; exact Nat.mod_eq_of_lt (by omega)
  have e2 : (BitVec.ofInt 64 (b : Int)).toNat = b := by
    rw [BitVec.ofInt_natCast, BitVec.toNat_ofNat]; exact Nat.mod_eq_of_lt (by omega)
  show 0 ≤ IntKind.i64.wrap ((BitVec.ofInt 64 (a : Int) ^^^ BitVec.ofInt 64 (b : Int)).toNat : Int)
  rw [BitVec.toNat_xor, e1, e2, IntWalk.i64_in _ (by omega)]
  omega

set_option maxRecDepth 100000 in
set_option maxHeartbeats 1000000 in
theorem pick_any (b p : Nat) (n : Int) (w : World) (h : Rd w b p) (hp : p < 1000000) (h1 : 1 ≤ n) (h2 : n ≤ 1000000) :
    Calls Tryz.prog 43 #[.pointer (some ⟨b, 0, none⟩), .int .i64 n] w (Picked b p n w) := by
  have h' := Lib.hid h
  obtain ⟨hb, hp1, hfz, hc1, hrest⟩ := h
  rcases hrest with ⟨a, cap, hc0⟩ | ⟨c, off, len, cap, hcb, hl0, hl, hc0, hz⟩
  · go_enter Tryz.func43, Tryz.ntmps43
    go_wp2
    go_ret
    exact ⟨0, rfl, by omega, by omega, only_set w b 1 _ 0, rd_set h'.out hp 0⟩
  · by_cases hk : p < len
    · obtain ⟨z, z0, z1, hzc⟩ := hz p hk
      clear hz
      have g1 : decide (n < 1) = false := by simp; omega
      have g2 : ((len : Int) == 0) = false := by simp; omega
      go_enter Tryz.func43, Tryz.ntmps43
      go_wp2
      go_ret
      exact ⟨z % n, rfl, Int.emod_nonneg _ (by omega), Int.emod_lt_of_pos _ (by omega), only_set w b 1 _ 0, rd_set h'.out hp 0⟩
    · have hq1 : p % len < len := Nat.mod_lt _ hl0
      have hq2 : (p * 7 + 3) % len < len := Nat.mod_lt _ hl0
      obtain ⟨z, z0, z1, hzc⟩ := hz _ hq1
      obtain ⟨q, hq, hql⟩ : ∃ q : Nat, ((p : Int) * 7 + 3) % (len : Int) = (q : Int) ∧ q < len := ⟨(p * 7 + 3) % len, by simp, hq2⟩
      obtain ⟨y, y0, y1, hyc⟩ := hz q hql
      clear hq2
      have d0 : 0 ≤ (p : Int) / (len : Int) := Int.ediv_nonneg (by omega) (by omega)
      have d1 : (p : Int) / (len : Int) ≤ 1000000 := Int.le_trans (Int.ediv_le_self _ (by omega)) (by omega)
      clear hz
      have g1 : decide (n < 1) = false := by simp; omega
      have g2 : ((len : Int) == 0) = false := by simp; omega
      have g3 : decide (p < len) = false := by simp; omega
      go_enter Tryz.func43, Tryz.ntmps43
      go_wp2
      go_quiet (fail)
      go_wp2
      go_ret
      have x0 := xor_nn (z * 131 + y * 1117 + ↑p * 29 + ↑p / ↑len * 53) ((z * 131 + y * 1117 + ↑p * 29 + ↑p / ↑len * 53) / 64) (by omega) (by omega) (by omega) (by omega)
      exact ⟨_, rfl, Int.tmod_nonneg _ x0, Int.tmod_lt_of_pos _ (by omega), only_set w b 1 _ nq, rd_set h'.out hp nq⟩

theorem Only.cell {b : Nat} {W w' : World} (h : Only b W w') {p : Addr} (hp : p.block < W.heap.size) (hn : p.block ≠ b) : w'.cell? p = W.cell? p := World.cell?_of_block (w := W) (h.block p.block hp hn)
theorem Only.frozen {b : Nat} {W w' : World} (h : Only b W w') {p : Addr} (hp : p.block < W.heap.size) (hn : p.block ≠ b) : w'.frozen? p = W.frozen? p := World.frozen?_of_block (w := W) (h.block p.block hp hn)
theorem Only.drew {b : Nat} {w W : World} (h : Only b w W) : Only b w W.drew := ⟨h.os, h.tape, h.output, h.size, h.block⟩
theorem Only.alloc {b : Nat} {w W : World} (h : Only b w W) (o : Obj) : Only b w (W.alloc o) := h.trans (Below.only ((Below.refl _ _).alloc (Nat.le_refl _) o))
theorem Only.setCell {b : Nat} {w W : World} {k o : Nat} {s : Option Nat} (h : Only b w W) (hk : w.heap.size ≤ k) (v : Value) : Only b w (W.setCell ⟨k, o, s⟩ v) :=
  ⟨h.os, h.tape, h.output, by simpa [World.setCell] using h.size, fun i hi hb => (Below.heap_setCell _ _ _ _ (by show i ≠ k; omega)).trans (h.block i hi hb)⟩
theorem Only.call {b : Nat} {w W W' : World} (h : Only b w W) (hb : Below W.heap.size W W') : Only b w W' := h.trans (Below.only hb)
theorem below_alloc {B : Nat} {a w : World} (h : Below B a w) (hB : B ≤ a.heap.size) (o : Obj) : Below B a (w.alloc o) := h.alloc (Nat.le_trans hB h.size) o
theorem below_set {B : Nat} {a w : World} {k o : Nat} {s : Option Nat} (h : Below B a w) (hk : B ≤ k) (v : Value) : Below B a (w.setCell ⟨k, o, s⟩ v) := Below.setCell h hk v
theorem Blk.keepo {b : Nat} {w w' : World} {k : Nat} {vs : List Value} (ho : Only b w w') (hk : k ≠ b) (h : Blk w k vs) : Blk w' k vs := by
  have l := h.lt
  obtain ⟨T, h⟩ := h
  exact ⟨T, (ho.block k l hk).trans h⟩

def Opened (w : World) (e : Ending) (w' : World) : Prop :=
  ∃ b : Nat, e = .returned (.pointer (some ⟨b, 0, none⟩)) ∧ w.heap.size ≤ b ∧ Below w.heap.size w w' ∧ Rd w' b 0

/-- The argument as the reader needs it: nil or empty, or a row over block c. -/
def Code8 (w : World) (a : Option Addr) (len cap : Nat) : Prop :=
  len ≤ cap ∧ cap ≤ maxLen ∧ (len = 0 ∨ ∃ c off : Nat, a = some ⟨c, off, none⟩ ∧ c < w.heap.size ∧ ∀ i : Nat, i < len → ∃ z : Int, 0 ≤ z ∧ z ≤ 255 ∧ w.cell? ⟨c, off + i, none⟩ = some (.int .u8 z))

theorem code8_of_row {w : World} {a : Option Addr} {len cap : Nat} {zs : List Int} (h : IsRow .u8 w a len cap zs) : Code8 w a len cap := by
  rcases h with ⟨rfl, rfl, rfl, rfl⟩ | ⟨x, rfl, hl, hm, hz, hcell, hwz⟩
  · exact ⟨Nat.le_refl _, Nat.zero_le _, .inl rfl⟩
  · refine ⟨hl, hm, ?_⟩
    by_cases h0 : len = 0
    · exact .inl h0
    · right
      obtain ⟨b, off, spot⟩ := x
      have hc := hcell 0 (by omega)
      have hspot : spot = none := by simpa [Addr.add] using World.cell?_spot hc
      subst hspot
      refine ⟨b, off, rfl, ?_, fun i hi => ?_⟩
      · have hlt := World.block_lt_of_cell? w _ hc
        simpa [Addr.add] using hlt
      · have hi' : i < zs.length := by omega
        have hb := hwz (zs.getD i 0) (by rw [List.getD_eq_getElem?_getD, List.getElem?_eq_getElem hi']; exact List.getElem_mem hi')
        have := bounds_u8 hb
        refine ⟨zs.getD i 0, by omega, by omega, ?_⟩
        have := hcell i hi'
        by_cases e : i = 0
        · subst e; simpa [Addr.add] using this
        · simpa [Addr.add, e] using this

theorem rd_new {w : World} {a : Option Addr} {len cap : Nat} {t : TypeId} (h2 : len ≤ 2000)
    (h : len = 0 ∨ ∃ c off : Nat, a = some ⟨c, off, none⟩ ∧ c < w.heap.size ∧ ∀ i : Nat, i < len → ∃ z : Int, 0 ≤ z ∧ z ≤ 255 ∧ w.cell? ⟨c, off + i, none⟩ = some (.int .u8 z)) :
    Rd (w.alloc (Obj.cells #[Value.slice a len cap, Value.int IntKind.i64 0] t)) w.heap.size 0 := by
  refine ⟨by simp, by omega, by go_simp, by go_simp, ?_⟩
  rcases h with rfl | ⟨c, off, rfl, hcb, hz⟩
  · exact .inl ⟨a, cap, by go_simp⟩
  · by_cases h0 : len = 0
    · subst h0; exact .inl ⟨some ⟨c, off, none⟩, cap, by go_simp⟩
    · refine .inr ⟨c, off, len, cap, hcb, by omega, h2, by go_simp, fun i hi => ?_⟩
      obtain ⟨z, z0, z1, hc⟩ := hz i hi
      exact ⟨z, z0, z1, (World.cell?_alloc_lt w _ ⟨c, off + i, none⟩ hcb).trans hc⟩

set_option maxHeartbeats 1000000 in
theorem open_any (a : Option Addr) (len cap : Nat) (w : World) (h : Code8 w a len cap) :
    Calls Tryz.prog 23 #[.slice a len cap] w (Opened w) := by
  obtain ⟨hlc, hm, h⟩ := h
  unfold maxLen at hm
  rcases h with rfl | ⟨c, off, rfl, hcb, hz⟩
  · go_enter Tryz.func23, Tryz.ntmps23
    go_wp2
    go_ret
    refine ⟨w.heap.size, rfl, Nat.le_refl _, (Below.refl _ _).alloc (Nat.le_refl _) _, ?_⟩
    exact rd_new (by omega) (.inl rfl)
  · by_cases hl : len ≤ 2000
    · go_enter Tryz.func23, Tryz.ntmps23
      go_wp2
      go_ret
      refine ⟨w.heap.size, rfl, Nat.le_refl _, (Below.refl _ _).alloc (Nat.le_refl _) _, ?_⟩
      exact rd_new hl (.inr ⟨c, off, rfl, hcb, hz⟩)
    · go_enter Tryz.func23, Tryz.ntmps23
      go_wp2
      go_ret
      refine ⟨w.heap.size, rfl, Nat.le_refl _, (Below.refl _ _).alloc (Nat.le_refl _) _, ?_⟩
      exact rd_new (by omega) (.inr ⟨c, off, rfl, hcb, fun i hi => hz i (by omega)⟩)

/-- A word that is a NaN. -/
def isN (x : Nat) : Bool := (Ieee.double.read x).isNaN

/-- The same word, or both NaN. -/
def Same (x y : Nat) : Prop := x = y ∨ (isN x = true ∧ isN y = true)

theorem Same.refl (x : Nat) : Same x x := .inl rfl
theorem Same.symm {x y : Nat} (h : Same x y) : Same y x := h.elim (fun e => .inl e.symm) fun ⟨a, b⟩ => .inr ⟨b, a⟩
theorem Same.trans {x y z : Nat} (h : Same x y) (k : Same y z) : Same x z := by
  rcases h with rfl | ⟨a, b⟩
  · exact k
  · rcases k with rfl | ⟨c, d⟩
    · exact .inr ⟨a, b⟩
    · exact .inr ⟨a, d⟩
end Go.Proofs.YtkdkeacfifjjoabGreatDoor
