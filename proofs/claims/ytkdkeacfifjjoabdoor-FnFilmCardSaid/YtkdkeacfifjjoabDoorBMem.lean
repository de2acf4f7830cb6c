/-
  Memory, the reader of draws, floats.
-/
import Derived.Test.YtkdkeacfifjjoabDoorRows
import Derived.WalkKit
import Derived.ProofKit
import Derived.OpenShut
import Derived.Below
import Derived.IntWalk
import Derived.BigRegion
import Derived.RegionTactic
import Derived.ChangeAlike
import Derived.Deep.QuietTactic
import Derived.BigQuiet
import Derived.Deep.RegionHeld3
import Derived.Deep.DeepCutAuto
import Derived.Lib.Hide
import Derived.OneCell
import Derived.WalkLawsBesides
import Derived.KernelRfl
namespace Go.Proofs.YtkdkeacfifjjoabDoor
open Go.ChangeShapes Go.WideShapes Go.ChangeAt Go.RowKit
set_option linter.unusedVariables false

def Fine (w : World) (e : Ending) (w' : World) : Prop := e = .returned (.bool true) ∧ Below w.heap.size w w'

def Bare (w w' : World) : Prop := ∀ B, Below B w w'
theorem bare_drewN (w : World) (n : Nat) : Bare w (w.drewN n) := fun _ => ⟨rfl, rfl, rfl, Nat.le_refl _, fun _ _ => rfl⟩
theorem Bare.trans {u v w : World} (h : Bare u v) (k : Bare v w) : Bare u w := fun B => (h B).trans (k B)

/-- Three cells that were there stay. -/
theorem keep3 {W w' : World} (hb : Below W.heap.size W w') {b : Nat} {x y z : Value} (h : W.cell? ⟨b, 0, none⟩ = some x ∧ W.cell? ⟨b, 1, none⟩ = some y ∧ W.cell? ⟨b, 2, none⟩ = some z) :
    w'.cell? ⟨b, 0, none⟩ = some x ∧ w'.cell? ⟨b, 1, none⟩ = some y ∧ w'.cell? ⟨b, 2, none⟩ = some z :=
  have l : b < W.heap.size := World.block_lt_of_cell? W _ h.1
  ⟨(hb.cell (p := ⟨b, 0, none⟩) l).trans h.1, (hb.cell (p := ⟨b, 1, none⟩) l).trans h.2.1, (hb.cell (p := ⟨b, 2, none⟩) l).trans h.2.2⟩

theorem bsize {W w1 : World} (hb : Below W.heap.size W w1) : ∀ n, n < W.heap.size → n < w1.heap.size := fun n h => Nat.lt_of_lt_of_le h hb.size
/-- What was there when w began is as it was. -/
def Acc (w W : World) : Prop := Below w.heap.size w W
theorem Acc.refl (w : World) : Acc w w := Below.refl _ _
theorem Acc.alloc {w W : World} (h : Acc w W) (o : Obj) : Acc w (W.alloc o) := Below.alloc h (Below.size h) o
theorem Acc.drew {w W : World} (h : Acc w W) : Acc w W.drew := Below.drew h
theorem Acc.setCell {w W : World} {b o : Nat} {s : Option Nat} (h : Acc w W) (hp : w.heap.size ≤ b) (v : Value) : Acc w (W.setCell ⟨b, o, s⟩ v) := Below.setCell h hp v
theorem Acc.call {w W W' : World} (h : Acc w W) (hb : Below W.heap.size W W') : Acc w W' := Below.trans h (Below.mono hb (Below.size h))
theorem Acc.drewN {w W : World} (h : Acc w W) (n : Nat) : Acc w (W.drewN n) := Below.trans h (bare_drewN _ _ _)
theorem with_fact {A G : Prop} (h : A) (k : A → G) : G := k h
theorem cell_other {w : World} {b o b' o' : Nat} {v : Value} (h : b' ≠ b) : (w.setCell ⟨b', o', none⟩ v).cell? ⟨b, o, none⟩ = w.cell? ⟨b, o, none⟩ :=
  World.cell?_setCell_other w _ _ _ (fun e => by cases e; exact h rfl)

theorem bcell {W w1 : World} (hb : Below W.heap.size W w1) : (∀ b o, b < W.heap.size → w1.cell? ⟨b, o, none⟩ = W.cell? ⟨b, o, none⟩) ∧ (∀ b o, b < W.heap.size → w1.frozen? ⟨b, o, none⟩ = W.frozen? ⟨b, o, none⟩) :=
  ⟨fun b o h => hb.cell (p := ⟨b, o, none⟩) h, fun b o h => hb.frozen (p := ⟨b, o, none⟩) h⟩
theorem ret_int {k : IntKind} {a b : Int} (h : a = b) : Ending.returned (.int k a) = .returned (.int k b) := by rw [h]

/-- What was not frozen stays so. -/
theorem keepf3 {W w' : World} (hb : Below W.heap.size W w') {b : Nat} (h : b < W.heap.size) (hf : W.frozen? ⟨b, 0, none⟩ = false ∧ W.frozen? ⟨b, 1, none⟩ = false ∧ W.frozen? ⟨b, 2, none⟩ = false) :
    w'.frozen? ⟨b, 0, none⟩ = false ∧ w'.frozen? ⟨b, 1, none⟩ = false ∧ w'.frozen? ⟨b, 2, none⟩ = false :=
  ⟨(hb.frozen (p := ⟨b, 0, none⟩) h).trans hf.1, (hb.frozen (p := ⟨b, 1, none⟩) h).trans hf.2.1, (hb.frozen (p := ⟨b, 2, none⟩) h).trans hf.2.2⟩

theorem keep6 {W w' : World} (hb : Below W.heap.size W w') {b : Nat} {v0 v1 v2 v3 v4 v5 : Value} (h : W.cell? ⟨b, 0, none⟩ = some v0 ∧ W.cell? ⟨b, 1, none⟩ = some v1 ∧ W.cell? ⟨b, 2, none⟩ = some v2 ∧ W.cell? ⟨b, 3, none⟩ = some v3 ∧ W.cell? ⟨b, 4, none⟩ = some v4 ∧ W.cell? ⟨b, 5, none⟩ = some v5) :
    w'.cell? ⟨b, 0, none⟩ = some v0 ∧ w'.cell? ⟨b, 1, none⟩ = some v1 ∧ w'.cell? ⟨b, 2, none⟩ = some v2 ∧ w'.cell? ⟨b, 3, none⟩ = some v3 ∧ w'.cell? ⟨b, 4, none⟩ = some v4 ∧ w'.cell? ⟨b, 5, none⟩ = some v5 :=
  have l : b < W.heap.size := World.block_lt_of_cell? W _ h.1
  ⟨(hb.cell (p := ⟨b, 0, none⟩) l).trans h.1, (hb.cell (p := ⟨b, 1, none⟩) l).trans h.2.1, (hb.cell (p := ⟨b, 2, none⟩) l).trans h.2.2.1, (hb.cell (p := ⟨b, 3, none⟩) l).trans h.2.2.2.1, (hb.cell (p := ⟨b, 4, none⟩) l).trans h.2.2.2.2.1, (hb.cell (p := ⟨b, 5, none⟩) l).trans h.2.2.2.2.2⟩
theorem keepf6 {W w' : World} (hb : Below W.heap.size W w') {b : Nat} (h : b < W.heap.size) (hf : W.frozen? ⟨b, 0, none⟩ = false ∧ W.frozen? ⟨b, 1, none⟩ = false ∧ W.frozen? ⟨b, 2, none⟩ = false ∧ W.frozen? ⟨b, 3, none⟩ = false ∧ W.frozen? ⟨b, 4, none⟩ = false ∧ W.frozen? ⟨b, 5, none⟩ = false) :
    w'.frozen? ⟨b, 0, none⟩ = false ∧ w'.frozen? ⟨b, 1, none⟩ = false ∧ w'.frozen? ⟨b, 2, none⟩ = false ∧ w'.frozen? ⟨b, 3, none⟩ = false ∧ w'.frozen? ⟨b, 4, none⟩ = false ∧ w'.frozen? ⟨b, 5, none⟩ = false :=
  ⟨(hb.frozen (p := ⟨b, 0, none⟩) h).trans hf.1, (hb.frozen (p := ⟨b, 1, none⟩) h).trans hf.2.1, (hb.frozen (p := ⟨b, 2, none⟩) h).trans hf.2.2.1, (hb.frozen (p := ⟨b, 3, none⟩) h).trans hf.2.2.2.1, (hb.frozen (p := ⟨b, 4, none⟩) h).trans hf.2.2.2.2.1, (hb.frozen (p := ⟨b, 5, none⟩) h).trans hf.2.2.2.2.2⟩

theorem neB {a b : Nat} (h : a < b ∨ b < a) : a ≠ b := by omega
theorem leB {a b : Nat} (h : a ≤ b) : a ≤ b := h
theorem eqL {a b : List Value} (h : a = b) : a = b := h
/-- Block b holds these values, and may be written. -/
def Blk (w : World) (b : Nat) (vs : List Value) : Prop := ∃ T, w.heap[b]? = some (.cells vs.toArray T (0, 0))
theorem Blk.cell {w : World} {b : Nat} {vs : List Value} (h : Blk w b vs) : ∀ k, w.cell? ⟨b, k, none⟩ = vs[k]? := by
  obtain ⟨T, h⟩ := h
  intro k
  simp [World.cell?, h]
theorem Blk.free {w : World} {b : Nat} {vs : List Value} (h : Blk w b vs) : ∀ k, w.frozen? ⟨b, k, none⟩ = false := by
  obtain ⟨T, h⟩ := h
  intro k
  simp [World.frozen?, h]
theorem Blk.lt {w : World} {b : Nat} {vs : List Value} (h : Blk w b vs) : b < w.heap.size := by
  obtain ⟨T, h⟩ := h
  exact lt_of_block h
theorem Blk.keep {w w' : World} {b : Nat} {vs : List Value} (hb : Below w.heap.size w w') (h : Blk w b vs) : Blk w' b vs := by
  have l := h.lt
  obtain ⟨T, h⟩ := h
  exact ⟨T, (hb.block b l).trans h⟩
theorem Blk.drew {w : World} {b : Nat} {vs : List Value} (h : Blk w b vs) : Blk w.drew b vs := h
theorem Blk.drewN {w : World} {b : Nat} {vs : List Value} (h : Blk w b vs) (n : Nat) : Blk (w.drewN n) b vs := h
theorem Blk.alloc {w : World} {b : Nat} {vs : List Value} (h : Blk w b vs) (o : Obj) : Blk (w.alloc o) b vs := by
  have l := h.lt
  obtain ⟨T, h⟩ := h
  exact ⟨T, (Below.heap_alloc _ _ _ l).trans h⟩
theorem Blk.new {w : World} {n : Nat} {vs : List Value} {T : TypeId} (e : n = w.heap.size) : Blk (w.alloc (.cells vs.toArray T)) n vs := by
  subst e
  exact ⟨T, by show (w.heap.push _)[_]? = _; simp⟩
theorem Blk.other {w : World} {b b' k : Nat} {s : Option Nat} {vs : List Value} (h : Blk w b vs) (e : b ≠ b') (v : Value) : Blk (w.setCell ⟨b', k, s⟩ v) b vs := by
  obtain ⟨T, h⟩ := h
  exact ⟨T, (Below.heap_setCell _ _ _ _ e).trans h⟩
theorem Blk.set {w : World} {b k : Nat} {v : Value} {vs vs' : List Value} (h : Blk w b vs) (e : vs' = vs.set k v) : Blk (w.setCell ⟨b, k, none⟩ v) b vs' := by
  have l := h.lt
  obtain ⟨T, h⟩ := h
  subst e
  refine ⟨T, ?_⟩
  show (w.heap.modify b _)[b]? = _
  rw [Array.getElem?_modify, if_pos rfl, h]
  simp

theorem gcd_step (x y : Int) : Int.gcd y (x.tmod y) = Int.gcd x y := by
  rw [Int.gcd_comm x y]
  have : x.tmod y = x - y * x.tdiv y := Int.tmod_def x y
  rw [this, Int.gcd_sub_mul_left_right]

theorem tmod_bound (x y : Int) (h : y ≠ 0) : (x.tmod y).natAbs < y.natAbs := by
  rw [Int.natAbs_tmod]
  exact Nat.mod_lt _ (by omega)

def i64B (n : Int) : Prop := -9223372036854775808 ≤ n ∧ n ≤ 9223372036854775807

theorem okWide_i64 {P : Program} {w : World} {r : Reach} {b : Nat} {t : TypeId} {v : Value} (ht : P.underlying t = some (.int .i64)) (h : Cell.okWide P w r b t v) : ∃ n, v = .int .i64 n ∧ i64B n := by
  unfold Cell.okWide at h
  rw [ht] at h
  have h' : Cell.ok P w r b t v := by cases v <;> exact h
  unfold Cell.ok at h'
  rw [ht] at h'
  cases v with
  | int k n =>
    simp only at h'
    obtain ⟨rfl, hn⟩ := h'
    refine ⟨n, rfl, ?_⟩
    simpa [IntKind.has, IntKind.min, IntKind.max, IntKind.bits, IntKind.signed, i64B] using hn
  | _ => simp at h'

/-- The value of a struct or array type whose cells are all of one type of ints. -/
theorem okWide_ints {P : Program} {w : World} {r : Reach} {b : Nat} {t e : TypeId} {n : Nat} {v : Value}
    (hs : (∃ fs, P.underlying t = some (.struct fs)) ∨ ∃ m u, P.underlying t = some (.array m u)) (he : P.underlying e = some (.int .i64))
    (hc : P.cellsOf t = n) (ht : P.cellTypes P.depth t = some (List.replicate n e)) (h : Value.okWide P w r b t v) :
    ∃ zs : List Int, zs.length = n ∧ v = .agg (zs.map (fun z => Value.int .i64 z)).toArray ∧ ∀ z ∈ zs, i64B z := by
  have h' : ∃ cs, v = .agg cs ∧ cs.size = P.cellsOf t ∧ Row.okWide P w r b t cs := by
    unfold Value.okWide at h
    rcases hs with ⟨fs, e1⟩ | ⟨m, u, e1⟩
    · rw [e1] at h; exact h
    · rw [e1] at h; exact h
  obtain ⟨cs, rfl, hsz, ts, hts, _, hcell⟩ := h'
  rw [ht] at hts
  cases hts
  rw [hc] at hsz
  obtain ⟨l⟩ := cs
  simp only [List.size_toArray] at hsz
  have key : ∀ l : List Value, (∀ v ∈ l, ∃ z, v = .int .i64 z ∧ i64B z) → ∃ zs : List Int, zs.length = l.length ∧ l = zs.map (fun z => Value.int .i64 z) ∧ ∀ z ∈ zs, i64B z := by
    intro l
    induction l with
    | nil => intro _; exact ⟨[], rfl, rfl, by simp⟩
    | cons v l ih =>
      intro h
      obtain ⟨z, rfl, hz⟩ := h v (List.mem_cons_self ..)
      obtain ⟨zs, h1, h2, h3⟩ := ih fun v hv => h v (List.mem_cons_of_mem _ hv)
      refine ⟨z :: zs, by simp [h1], by simp [h2], ?_⟩
      intro y hy
      rcases List.mem_cons.1 hy with rfl | hy
      · exact hz
      · exact h3 y hy
  obtain ⟨zs, h1, h2, h3⟩ := key l fun v hv => by
    obtain ⟨i, hi, rfl⟩ := List.getElem_of_mem hv
    obtain ⟨u, hu, ho⟩ := hcell i l[i] (by simp [hi])
    have : u = e := by
      have hm : i % (List.replicate n e).length < (List.replicate n e).length := Nat.mod_lt _ (by simp; omega)
      rw [List.getElem?_eq_getElem hm, List.getElem_replicate] at hu
      exact (Option.some.inj hu).symm
    subst this
    exact okWide_i64 he ho
  exact ⟨zs, by omega, by rw [h2], h3⟩

theorem list3 {zs : List Int} (h : zs.length = 3) : ∃ a b c, zs = [a, b, c] := by
  match zs, h with
  | [a, b, c], _ => exact ⟨a, b, c, rfl⟩
theorem list6 {zs : List Int} (h : zs.length = 6) : ∃ a b c d e f, zs = [a, b, c, d, e, f] := by
  match zs, h with
  | [a, b, c, d, e, f], _ => exact ⟨a, b, c, d, e, f, rfl⟩

/-- A slice of integers that came in: nil, or a row of cap cells. -/
def IsRow (k : IntKind) (w : World) (a : Option Addr) (len cap : Nat) (zs : List Int) : Prop :=
  (a = none ∧ len = 0 ∧ cap = 0 ∧ zs = []) ∨
  ∃ x, a = some x ∧ len ≤ cap ∧ cap ≤ maxLen ∧ zs.length = cap ∧ (∀ i, i < zs.length → w.cell? (x.add i) = some (.int k (zs.getD i 0))) ∧ ∀ n ∈ zs, (Lit.int k n).wf = true

/-- Nothing that was there has changed but block b. -/
structure Only (b : Nat) (w w' : World) : Prop where
  os : w'.os = w.os
  tape : w'.tape = w.tape
  output : w'.output = w.output
  size : w.heap.size ≤ w'.heap.size
  block : ∀ k, k < w.heap.size → k ≠ b → w'.heap[k]? = w.heap[k]?

theorem Only.refl (b : Nat) (w : World) : Only b w w := ⟨rfl, rfl, rfl, Nat.le_refl _, fun _ _ _ => rfl⟩
theorem Only.trans {b : Nat} {u v w : World} (h : Only b u v) (k : Only b v w) : Only b u w :=
  ⟨k.os.trans h.os, k.tape.trans h.tape, k.output.trans h.output, Nat.le_trans h.size k.size, fun i hi hb => (k.block i (Nat.lt_of_lt_of_le hi h.size) hb).trans (h.block i hi hb)⟩
theorem Only.below {b B : Nat} {w w' : World} (h : Only b w w') (hB : B ≤ w.heap.size) (hb : B ≤ b) : Below B w w' :=
  ⟨h.os, h.tape, h.output, h.size, fun k hk => h.block k (by omega) (by omega)⟩
theorem Below.only {b : Nat} {w w' : World} (h : Below w.heap.size w w') : Only b w w' :=
  ⟨h.os, h.tape, h.output, h.size, fun k hk _ => h.block k hk⟩

/-- The reader lies in block b: the code's slice (nil, or over block c), and the place. -/
def Rd (w : World) (b : Nat) (p : Nat) : Prop :=
  b < w.heap.size ∧ p ≤ 1000000 ∧ w.frozen? ⟨b, 1, none⟩ = false ∧ w.cell? ⟨b, 1, none⟩ = some (.int .i64 p) ∧
  ((∃ a cap, w.cell? ⟨b, 0, none⟩ = some (.slice a 0 cap)) ∨
   ∃ c off len cap : Nat, c < b ∧ 0 < len ∧ len ≤ 2000 ∧ w.cell? ⟨b, 0, none⟩ = some (.slice (some ⟨c, off, none⟩) len cap) ∧
     ∀ i : Nat, i < len → ∃ z : Int, 0 ≤ z ∧ z ≤ 255 ∧ w.cell? ⟨c, off + i, none⟩ = some (.int .u8 z))

/-- A number from 0 to n-1; the reader has gone on; nothing else has changed. -/
def Picked (b p : Nat) (n : Int) (w : World) (e : Ending) (w' : World) : Prop :=
  ∃ k : Int, e = .returned (.int .i64 k) ∧ 0 ≤ k ∧ k < n ∧ Only b w w' ∧ Rd w' b (p + 1)

theorem only_set (w : World) (b o : Nat) (v : Value) (n : Nat) : Only b w ((w.setCell ⟨b, o, none⟩ v).drewN n) :=
  ⟨rfl, rfl, rfl, by simp [World.setCell], fun k hk hb => Below.heap_setCell _ _ _ _ hb⟩

theorem rd_set {w : World} {b p : Nat} (h : Rd w b p) (hp : p < 1000000) (n : Nat) : Rd ((w.setCell ⟨b, 1, none⟩ (.int .i64 (p + 1))).drewN n) b (p + 1) := by
  obtain ⟨hb, hp1, hfz, hc1, hrest⟩ := h
  have keep : ∀ q : Addr, q ≠ ⟨b, 1, none⟩ → ((w.setCell ⟨b, 1, none⟩ (.int .i64 (p + 1))).drewN n).cell? q = w.cell? q := fun q hq => World.cell?_setCell_other w _ q _ (Ne.symm hq)
  refine ⟨by simpa [World.setCell] using hb, by omega, ?_, ?_, ?_⟩
  · exact (World.frozen?_setCell _ _ _ _).trans hfz
  · exact World.cell?_setCell_same w ⟨b, 1, none⟩ (.int .i64 (p + 1)) hc1
  · rcases hrest with ⟨a, cap, hc0⟩ | ⟨c, off, len, cap, hcb, hl0, hl, hc0, hz⟩
    · exact .inl ⟨a, cap, (keep _ (by simp)).trans hc0⟩
    · refine .inr ⟨c, off, len, cap, hcb, hl0, hl, (keep _ (by simp)).trans hc0, fun i hi => ?_⟩
      obtain ⟨z, z0, z1, hzc⟩ := hz i hi
      exact ⟨z, z0, z1, (keep _ (by simp only [ne_eq, Addr.mk.injEq, not_and]; omega)).trans hzc⟩

theorem xor_nn (a b : Int) (h1 : 0 ≤ a) (h2 : a < 1099511627776) (h3 : 0 ≤ b) (h4 : b < 1099511627776) : 0 ≤ bits .xor .i64 a b := by
  obtain ⟨a, rfl⟩ := Int.eq_ofNat_of_zero_le h1
  obtain ⟨b, rfl⟩ := Int.eq_ofNat_of_zero_le h3
  have hx : a ^^^ b < 2 ^ 40 := Nat.xor_lt_two_pow (by omega) (by omega)
  have e1 : (BitVec.ofInt 64 (a : Int)).toNat = a := by
    rw [BitVec.ofInt_natCast, BitVec.toNat_ofNat]; exact Nat.mod_eq_of_lt (by omega)
  have e2 : (BitVec.ofInt 64 (b : Int)).toNat = b := by
    rw [BitVec.ofInt_natCast, BitVec.toNat_ofNat]; exact Nat.mod_eq_of_lt (by omega)
  show 0 ≤ IntKind.i64.wrap ((BitVec.ofInt 64 (a : Int) ^^^ BitVec.ofInt 64 (b : Int)).toNat : Int)
  rw [BitVec.toNat_xor, e1, e2, IntWalk.i64_in _ (by omega)]
  omega

set_option maxRecDepth 100000 in
set_option maxHeartbeats 1000000 in
theorem pick_any (b p : Nat) (n : Int) (w : World) (h : Rd w b p) (hp : p < 1000000) (h1 : 1 ≤ n) (h2 : n ≤ 1000000) :
    Calls Tryd.prog 16 #[.pointer (some ⟨b, 0, none⟩), .int .i64 n] w (Picked b p n w) := by
  have h' := Lib.hid h
  obtain ⟨hb, hp1, hfz, hc1, hrest⟩ := h
  rcases hrest with ⟨a, cap, hc0⟩ | ⟨c, off, len, cap, hcb, hl0, hl, hc0, hz⟩
  · go_enter Tryd.func16, Tryd.ntmps16
    go_wp2
    go_ret
    exact ⟨0, rfl, by omega, by omega, only_set w b 1 _ 0, rd_set h'.out hp 0⟩
  · by_cases hk : p < len
    · obtain ⟨z, z0, z1, hzc⟩ := hz p hk
      clear hz
      have g1 : decide (n < 1) = false := by simp; omega
      have g2 : ((len : Int) == 0) = false := by simp; omega
      go_enter Tryd.func16, Tryd.ntmps16
      go_wp2
      go_ret
      exact ⟨z % n, rfl, Int.emod_nonneg _ (by omega), Int.emod_lt_of_pos _ (by omega), only_set w b 1 _ 0, rd_set h'.out hp 0⟩
    · have hq1 : p % len < len := Nat.mod_lt _ hl0
      have hq2 : (p * 7 + 3) % len < len := Nat.mod_lt _ hl0
      obtain ⟨z, z0, z1, hzc⟩ := hz _ hq1
      obtain ⟨q, hq, hql⟩ : ∃ q : Nat, ((p : Int) * 7 + 3) % (len : Int) = (q : Int) ∧ q < len := ⟨(p * 7 + 3) % len, by simp, hq2⟩
      obtain ⟨y, y0, y1, hyc⟩ := hz q hql
      clear hq2
      have d0 : 0 ≤ (p : Int) / (len : Int) := Int.ediv_nonneg (by omega) (by omega)
      have d1 : (p : Int) / (len : Int) ≤ 1000000 := Int.le_trans (Int.ediv_le_self _ (by omega)) (by omega)
      clear hz
      have g1 : decide (n < 1) = false := by simp; omega
      have g2 : ((len : Int) == 0) = false := by simp; omega
      have g3 : decide (p < len) = false := by simp; omega
      go_enter Tryd.func16, Tryd.ntmps16
      go_wp2
      go_quiet (fail)
      go_wp2
      go_ret
      have x0 := xor_nn (z * 131 + y * 1117 + ↑p * 29 + ↑p / ↑len * 53) ((z * 131 + y * 1117 + ↑p * 29 + ↑p / ↑len * 53) / 64) (by omega) (by omega) (by omega) (by omega)
      exact ⟨_, rfl, Int.tmod_nonneg _ x0, Int.tmod_lt_of_pos _ (by omega), only_set w b 1 _ nq, rd_set h'.out hp nq⟩

theorem Only.cell {b : Nat} {W w' : World} (h : Only b W w') {p : Addr} (hp : p.block < W.heap.size) (hn : p.block ≠ b) : w'.cell? p = W.cell? p := World.cell?_of_block (w := W) (h.block p.block hp hn)
theorem Only.frozen {b : Nat} {W w' : World} (h : Only b W w') {p : Addr} (hp : p.block < W.heap.size) (hn : p.block ≠ b) : w'.frozen? p = W.frozen? p := World.frozen?_of_block (w := W) (h.block p.block hp hn)
theorem Only.drew {b : Nat} {w W : World} (h : Only b w W) : Only b w W.drew := ⟨h.os, h.tape, h.output, h.size, h.block⟩
theorem Only.alloc {b : Nat} {w W : World} (h : Only b w W) (o : Obj) : Only b w (W.alloc o) := h.trans (Below.only ((Below.refl _ _).alloc (Nat.le_refl _) o))
theorem Only.setCell {b : Nat} {w W : World} {k o : Nat} {s : Option Nat} (h : Only b w W) (hk : w.heap.size ≤ k) (v : Value) : Only b w (W.setCell ⟨k, o, s⟩ v) :=
  ⟨h.os, h.tape, h.output, by simpa [World.setCell] using h.size, fun i hi hb => (Below.heap_setCell _ _ _ _ (by show i ≠ k; omega)).trans (h.block i hi hb)⟩
theorem Only.call {b : Nat} {w W W' : World} (h : Only b w W) (hb : Below W.heap.size W W') : Only b w W' := h.trans (Below.only hb)
theorem below_alloc {B : Nat} {a w : World} (h : Below B a w) (hB : B ≤ a.heap.size) (o : Obj) : Below B a (w.alloc o) := h.alloc (Nat.le_trans hB h.size) o
theorem below_set {B : Nat} {a w : World} {k o : Nat} {s : Option Nat} (h : Below B a w) (hk : B ≤ k) (v : Value) : Below B a (w.setCell ⟨k, o, s⟩ v) := Below.setCell h hk v
theorem Blk.keepo {b : Nat} {w w' : World} {k : Nat} {vs : List Value} (ho : Only b w w') (hk : k ≠ b) (h : Blk w k vs) : Blk w' k vs := by
  have l := h.lt
  obtain ⟨T, h⟩ := h
  exact ⟨T, (ho.block k l hk).trans h⟩

def Opened (w : World) (e : Ending) (w' : World) : Prop :=
  ∃ b : Nat, e = .returned (.pointer (some ⟨b, 0, none⟩)) ∧ w.heap.size ≤ b ∧ Below w.heap.size w w' ∧ Rd w' b 0

/-- The argument as the reader needs it: nil or empty, or a row over block c. -/
def Code8 (w : World) (a : Option Addr) (len cap : Nat) : Prop :=
  len ≤ cap ∧ cap ≤ maxLen ∧ (len = 0 ∨ ∃ c off : Nat, a = some ⟨c, off, none⟩ ∧ c < w.heap.size ∧ ∀ i : Nat, i < len → ∃ z : Int, 0 ≤ z ∧ z ≤ 255 ∧ w.cell? ⟨c, off + i, none⟩ = some (.int .u8 z))

theorem code8_of_row {w : World} {a : Option Addr} {len cap : Nat} {zs : List Int} (h : IsRow .u8 w a len cap zs) : Code8 w a len cap := by
  rcases h with ⟨rfl, rfl, rfl, rfl⟩ | ⟨x, rfl, hl, hm, hz, hcell, hwz⟩
  · exact ⟨Nat.le_refl _, Nat.zero_le _, .inl rfl⟩
  · refine ⟨hl, hm, ?_⟩
    by_cases h0 : len = 0
    · exact .inl h0
    · right
      obtain ⟨b, off, spot⟩ := x
      have hc := hcell 0 (by omega)
      have hspot : spot = none := by simpa [Addr.add] using World.cell?_spot hc
      subst hspot
      refine ⟨b, off, rfl, ?_, fun i hi => ?_⟩
      · have hlt := World.block_lt_of_cell? w _ hc
        simpa [Addr.add] using hlt
      · have hi' : i < zs.length := by omega
        have hb := hwz (zs.getD i 0) (by rw [List.getD_eq_getElem?_getD, List.getElem?_eq_getElem hi']; exact List.getElem_mem hi')
        have := bounds_u8 hb
        refine ⟨zs.getD i 0, by omega, by omega, ?_⟩
        have := hcell i hi'
        by_cases e : i = 0
        · subst e; simpa [Addr.add] using this
        · simpa [Addr.add, e] using this

theorem rd_new {w : World} {a : Option Addr} {len cap : Nat} {t : TypeId} (h2 : len ≤ 2000)
    (h : len = 0 ∨ ∃ c off : Nat, a = some ⟨c, off, none⟩ ∧ c < w.heap.size ∧ ∀ i : Nat, i < len → ∃ z : Int, 0 ≤ z ∧ z ≤ 255 ∧ w.cell? ⟨c, off + i, none⟩ = some (.int .u8 z)) :
    Rd (w.alloc (Obj.cells #[Value.slice a len cap, Value.int IntKind.i64 0] t)) w.heap.size 0 := by
  refine ⟨by simp, by omega, by go_simp, by go_simp, ?_⟩
  rcases h with rfl | ⟨c, off, rfl, hcb, hz⟩
  · exact .inl ⟨a, cap, by go_simp⟩
  · by_cases h0 : len = 0
    · subst h0; exact .inl ⟨some ⟨c, off, none⟩, cap, by go_simp⟩
    · refine .inr ⟨c, off, len, cap, hcb, by omega, h2, by go_simp, fun i hi => ?_⟩
      obtain ⟨z, z0, z1, hc⟩ := hz i hi
      exact ⟨z, z0, z1, (World.cell?_alloc_lt w _ ⟨c, off + i, none⟩ hcb).trans hc⟩

set_option maxHeartbeats 1000000 in
theorem open_any (a : Option Addr) (len cap : Nat) (w : World) (h : Code8 w a len cap) :
    Calls Tryd.prog 9 #[.slice a len cap] w (Opened w) := by
  obtain ⟨hlc, hm, h⟩ := h
  unfold maxLen at hm
  rcases h with rfl | ⟨c, off, rfl, hcb, hz⟩
  · go_enter Tryd.func9, Tryd.ntmps9
    go_wp2
    go_ret
    refine ⟨w.heap.size, rfl, Nat.le_refl _, (Below.refl _ _).alloc (Nat.le_refl _) _, ?_⟩
    exact rd_new (by omega) (.inl rfl)
  · by_cases hl : len ≤ 2000
    · go_enter Tryd.func9, Tryd.ntmps9
      go_wp2
      go_ret
      refine ⟨w.heap.size, rfl, Nat.le_refl _, (Below.refl _ _).alloc (Nat.le_refl _) _, ?_⟩
      exact rd_new hl (.inr ⟨c, off, rfl, hcb, hz⟩)
    · go_enter Tryd.func9, Tryd.ntmps9
      go_wp2
      go_ret
      refine ⟨w.heap.size, rfl, Nat.le_refl _, (Below.refl _ _).alloc (Nat.le_refl _) _, ?_⟩
      exact rd_new (by omega) (.inr ⟨c, off, rfl, hcb, fun i hi => hz i (by omega)⟩)

/-- A word that is a NaN. -/
def isN (x : Nat) : Bool := (Ieee.double.read x).isNaN

/-- The same word, or both NaN. -/
def Same (x y : Nat) : Prop := x = y ∨ (isN x = true ∧ isN y = true)

theorem Same.refl (x : Nat) : Same x x := .inl rfl
theorem Same.symm {x y : Nat} (h : Same x y) : Same y x := h.elim (fun e => .inl e.symm) fun ⟨a, b⟩ => .inr ⟨b, a⟩
theorem Same.trans {x y z : Nat} (h : Same x y) (k : Same y z) : Same x z := by
  rcases h with rfl | ⟨a, b⟩
  · exact k
  · rcases k with rfl | ⟨c, d⟩
    · exact .inr ⟨a, b⟩
    · exact .inr ⟨a, d⟩
theorem Same.isN_eq {x y : Nat} (h : Same x y) : isN x = isN y := by
  rcases h with rfl | ⟨a, b⟩
  · rfl
  · rw [a, b]

theorem isN_iff {x : Nat} : isN x = true ↔ ∃ s t, Ieee.double.read x = .nan s t := by
  unfold isN Ieee.Datum.isNaN
  cases h : Ieee.double.read x <;> simp

theorem order_nan_left {x : Nat} (h : isN x = true) (y : Nat) : FloatKind.f64.format.order x y = none := by
  obtain ⟨s, t, e⟩ := isN_iff.1 h
  show (Ieee.double.read x).order (Ieee.double.read y) = none
  rw [e]; rfl
theorem order_nan_right {x : Nat} (h : isN x = true) (y : Nat) : FloatKind.f64.format.order y x = none := by
  obtain ⟨s, t, e⟩ := isN_iff.1 h
  show (Ieee.double.read y).order (Ieee.double.read x) = none
  rw [e]; cases Ieee.double.read y <;> rfl

theorem order_refl {x : Nat} (h : isN x = false) : FloatKind.f64.format.order x x = some .eq := by
  show (Ieee.double.read x).order (Ieee.double.read x) = some .eq
  unfold isN Ieee.Datum.isNaN at h
  cases e : Ieee.double.read x with
  | number s m p => simp [Ieee.Datum.order]
  | infinity s => simp [Ieee.Datum.order]
  | nan s t => rw [e] at h; cases h

/-- What is written of no NaN is none. -/
theorem isN_word {neg : Bool} {rung : Nat} (h : rung ≤ Ieee.double.infRung) : isN (Ieee.double.word neg rung) = false := by
  have hs : Ieee.double.infRung < Ieee.double.signWeight := by decide +kernel
  have h0 : 0 < Ieee.double.signWeight := by omega
  have hr : Ieee.double.word neg rung % Ieee.double.signWeight = rung := by
    unfold Ieee.Format.word
    cases neg
    · simp only [Bool.false_eq_true, if_false]; exact Nat.mod_eq_of_lt (by omega)
    · simp only [if_true]
      rw [Nat.add_mod_left]; exact Nat.mod_eq_of_lt (by omega)
  unfold isN Ieee.Format.read
  simp only [hr]
  split
  · rfl
  · split
    · rfl
    · rw [if_pos (by omega)]; rfl

theorem isN_write {d : Ieee.Datum} (h : d.isNaN = false) : isN (Ieee.double.write d) = false := by
  cases d with
  | number neg mag place =>
    show isN (Ieee.double.nearest neg mag place) = false
    unfold Ieee.Format.nearest
    split
    · exact isN_word (Nat.zero_le _)
    · exact isN_word (Nat.min_le_right _ _)
  | infinity neg => exact isN_word (Nat.le_refl _)
  | nan s t => cases h

/-- The operation, one NaN for all. -/
def nan0 : Nat := 9221120237041090561
theorem isN_nan0 : isN nan0 = true := by decide +kernel
def fop (op : BinOp) (x y : Nat) : Nat := (floatBits op .f64 x y).getD nan0

theorem fbits_nan_left {op : BinOp} {x : Nat} (h : isN x = true) (y : Nat) : floatBits op .f64 x y = none := by
  obtain ⟨s, t, e⟩ := isN_iff.1 h
  cases op <;> try rfl
  · show ((Ieee.double.read x).sum (Ieee.double.read y)).map _ = none
    rw [e]; rfl
  · show ((Ieee.double.read x).sum (Ieee.double.read y).opposite).map _ = none
    rw [e]; rfl
  · show ((Ieee.double.read x).product (Ieee.double.read y)).map _ = none
    rw [e]; rfl
  · show ((Ieee.double.read x).quotient _ (Ieee.double.read y)).map _ = none
    rw [e]; rfl
theorem fbits_nan_right {op : BinOp} {x : Nat} (h : isN x = true) (y : Nat) : floatBits op .f64 y x = none := by
  obtain ⟨s, t, e⟩ := isN_iff.1 h
  cases op <;> try rfl
  · show ((Ieee.double.read y).sum (Ieee.double.read x)).map _ = none
    rw [e]; cases Ieee.double.read y <;> rfl
  · show ((Ieee.double.read y).sum (Ieee.double.read x).opposite).map _ = none
    rw [e]; cases Ieee.double.read y <;> rfl
  · show ((Ieee.double.read y).product (Ieee.double.read x)).map _ = none
    rw [e]; cases Ieee.double.read y <;> rfl
  · show ((Ieee.double.read y).quotient _ (Ieee.double.read x)).map _ = none
    rw [e]; cases Ieee.double.read y <;> rfl

theorem fop_congr (op : BinOp) {x x' y y' : Nat} (hx : Same x x') (hy : Same y y') : Same (fop op x y) (fop op x' y') := by
  rcases hx with rfl | ⟨a, b⟩
  · rcases hy with rfl | ⟨c, d⟩
    · exact .inl rfl
    · exact .inl (by unfold fop; rw [fbits_nan_right c, fbits_nan_right d])
  · exact .inl (by unfold fop; rw [fbits_nan_left a, fbits_nan_left b])

/-- No operation gives a NaN as a told result. -/
theorem fbits_not_nan {op : BinOp} {x y r : Nat} (h : floatBits op .f64 x y = some r) : isN r = false := by
  have key : ∀ o : Option Ieee.Datum, (∀ d, o = some d → d.isNaN = false) → o.map Ieee.double.write = some r → isN r = false := by
    intro o ho h
    cases o with
    | none => cases h
    | some d => cases h; exact isN_write (ho d rfl)
  have hsum : ∀ a b d : Ieee.Datum, a.sum b = some d → d.isNaN = false := by
    intro a b d h
    cases a <;> cases b <;> simp [Ieee.Datum.sum] at h <;> first | (subst h; rfl) | (obtain ⟨_, rfl⟩ := h; rfl)
  have hprod : ∀ a b d : Ieee.Datum, a.product b = some d → d.isNaN = false := by
    intro a b d h
    cases a <;> cases b <;> simp [Ieee.Datum.product] at h <;> first | (subst h; rfl) | (obtain ⟨_, rfl⟩ := h; rfl)
  have hquo : ∀ (n : Nat) (a b d : Ieee.Datum), a.quotient n b = some d → d.isNaN = false := by
    intro n a b d h
    cases a with
    | nan => cases b <;> simp [Ieee.Datum.quotient] at h
    | infinity s => cases b <;> simp [Ieee.Datum.quotient] at h; subst h; rfl
    | number s m i =>
      cases b with
      | nan => simp [Ieee.Datum.quotient] at h
      | infinity t => simp [Ieee.Datum.quotient] at h; subst h; rfl
      | number t k j =>
        simp only [Ieee.Datum.quotient] at h
        split at h
        · split at h
          · cases h
          · cases h; rfl
        · cases h; rfl
  cases op <;> try (cases h; done)
  · exact key _ (hsum _ _) h
  · exact key _ (hsum _ _) h
  · exact key _ (hprod _ _) h
  · exact key _ (hquo _ _ _) h

/-- 1 over what is no NaN is no NaN. -/
def one64 : Nat := 4607182418800017408
theorem one_over {x : Nat} (h : isN x = false) : ∃ r, floatBits .quo .f64 one64 x = some r ∧ FloatKind.f64.format.order r r = some .eq := by
  have e1 : Ieee.double.read one64 = .number false 4503599627370496 (-52) := by kernel_rfl
  have : ∃ d, (Ieee.double.read one64).quotient (Ieee.double.fractionBits + 2) (Ieee.double.read x) = some d := by
    rw [e1]
    unfold isN at h
    cases e : Ieee.double.read x with
    | nan s t => rw [e] at h; cases h
    | infinity s => exact ⟨_, rfl⟩
    | number s m p =>
      simp only [Ieee.Datum.quotient]
      split
      · exact ⟨_, rfl⟩
      · exact ⟨_, rfl⟩
  obtain ⟨d, hd⟩ := this
  have hr : floatBits .quo .f64 one64 x = some (Ieee.double.write d) := by
    show Option.map Ieee.double.write ((Ieee.double.read one64).quotient (Ieee.double.fractionBits + 2) (Ieee.double.read x)) = _
    rw [hd]; rfl
  exact ⟨_, hr, order_refl (fbits_not_nan hr)⟩

/-- A word that the tape gives for a NaN is one. -/
theorem isN_cut (x y t : Nat) : isN ((Question.nanBits .f64 x y).cut t) = true := by
  show isN ((t % 2) * 2 ^ 63 + 0x7ff0000000000000 + 1 + (t / 2) % (2 ^ 52 - 1)) = true
  have h1 : t / 2 % (2 ^ 52 - 1) < 2 ^ 52 - 1 := Nat.mod_lt _ (by decide)
  have hm : ((t % 2) * 2 ^ 63 + 0x7ff0000000000000 + 1 + (t / 2) % (2 ^ 52 - 1)) % Ieee.double.signWeight = 0x7ff0000000000000 + 1 + (t / 2) % (2 ^ 52 - 1) := by
    have : Ieee.double.signWeight = 2 ^ 63 := by decide +kernel
    rw [this]; omega
  unfold isN Ieee.Format.read
  simp only [hm]
  have hi : Ieee.double.infRung = 0x7ff0000000000000 := by decide +kernel
  have hb : Ieee.double.binade = 2 ^ 52 := by decide +kernel
  rw [hi, hb, if_neg (by omega), if_neg (by omega), if_neg (by omega)]
  rfl

/-- A float operation, run: the same up to the NaN's bits; at most one answer of the tape is taken. -/
theorem run_arith_any {P : Program} (op : BinOp) (hop : op = .add ∨ op = .sub ∨ op = .mul ∨ op = .quo) (x y : Nat) (w : World) :
    ∃ r n, (Op.floatArith op .f64 x y).run P w = .ok (.float .f64 r) (w.drewN n) ∧ Same r (fop op x y) := by
  cases h : floatBits op .f64 x y with
  | some r => exact ⟨r, 0, run_floatArith w h, .inl (by simp [fop, h])⟩
  | none =>
    refine ⟨(Question.nanBits .f64 x y).cut (w.tape w.drawn (.nanBits .f64 x y)), 1, ?_, .inr ⟨isN_cut _ _ _, by simp [fop, h, isN_nan0]⟩⟩
    have hf : Question.forced (.nanBits .f64 x y) = false := rfl
    unfold floatBits at h
    rcases hop with rfl | rfl | rfl | rfl <;> simp only at h <;> simp [Op.floatArith, h, hf] <;> rfl

/-- The same on parts of complex numbers. -/
theorem run_carith_any {P : Program} (op : BinOp) (hop : op = .add ∨ op = .sub ∨ op = .mul ∨ op = .quo) (x y : Nat) (w : World) :
    ∃ r n, (Op.Complex.arith op .f64 x y).run P w = .ok r (w.drewN n) ∧ Same r (fop op x y) := by
  obtain ⟨r, n, h, hs⟩ := run_arith_any (P := P) op hop x y w
  exact ⟨r, n, by simp [Op.Complex.arith, h], hs⟩

/-- The NaN's word that the tape gives. -/
def nanAt (w : World) (x y : Nat) : Nat := (Question.nanBits .f64 x y).cut (w.tape w.drawn (.nanBits .f64 x y))
theorem isN_nanAt (w : World) (x y : Nat) : isN (nanAt w x y) = true := isN_cut _ _ _

/-- The operation on wide floats as one equation: a told word, or a NaN and one answer of the tape. -/
theorem run_told {P : Program} {op : BinOp} {x y r : Nat} (h : floatBits op .f64 x y = some r) (t : TypeId) (w : World) :
    (binOp op t (.float .f64 x) (.float .f64 y)).run P w = .ok (.float .f64 r) w := run_float_arith w op t .f64 x y r h
theorem run_nan {P : Program} {op : BinOp} (hop : op = .add ∨ op = .sub ∨ op = .mul ∨ op = .quo) {x y : Nat} (h : floatBits op .f64 x y = none) (t : TypeId) (w : World) :
    (binOp op t (.float .f64 x) (.float .f64 y)).run P w = .ok (.float .f64 (nanAt w x y)) w.drew := by
  have hf : Question.forced (.nanBits .f64 x y) = false := rfl
  unfold floatBits at h
  rcases hop with rfl | rfl | rfl | rfl <;> simp only at h <;> simp [binOp, Op.floatArith, h, hf] <;> rfl
@[go_sem] theorem run_neg {P : Program} (k : FloatKind) (x : Nat) (w : World) : (Op.unary .neg (.float k x)).run P w = .ok (.float k (Op.negFloat k x)) w := rfl
@[go_sem] theorem run_cneg {P : Program} (k : FloatKind) (x y : Nat) (w : World) : (Op.unary .neg (.complex k x y)).run P w = .ok (.complex k (Op.negFloat k x) (Op.negFloat k y)) w := rfl
theorem neg_neg (x : Nat) : Op.negFloat .f64 (Op.negFloat .f64 x) = x := by
  unfold Op.negFloat; rw [Nat.xor_assoc, Nat.xor_self, Nat.xor_zero]

/-- A float operation's answer at a world, and the world behind it. -/
def fval (op : BinOp) (w : World) (x y : Nat) : Nat := (floatBits op .f64 x y).getD (nanAt w x y)
def fworld (op : BinOp) (w : World) (x y : Nat) : World := if (floatBits op .f64 x y).isSome = true then w else w.drew
theorem fval_same (op : BinOp) (w : World) (x y : Nat) : Same (fval op w x y) (fop op x y) := by
  unfold fval fop
  cases floatBits op .f64 x y with
  | some r => exact .refl _
  | none => exact .inr ⟨isN_nanAt w x y, isN_nan0⟩
theorem fworld_bare (op : BinOp) (w : World) (x y : Nat) : Bare w (fworld op w x y) := by
  unfold fworld
  split
  · exact bare_drewN w 0
  · exact bare_drewN w 1
@[go_sem] theorem fworld_cell (op : BinOp) (w : World) (x y : Nat) (a : Addr) : (fworld op w x y).cell? a = w.cell? a := by unfold fworld; split <;> rfl
@[go_sem] theorem fworld_frozen (op : BinOp) (w : World) (x y : Nat) (a : Addr) : (fworld op w x y).frozen? a = w.frozen? a := by unfold fworld; split <;> rfl
@[go_sem] theorem fworld_size (op : BinOp) (w : World) (x y : Nat) : (fworld op w x y).heap.size = w.heap.size := by unfold fworld; split <;> rfl
theorem run_any {P : Program} {op : BinOp} (hop : op = .add ∨ op = .sub ∨ op = .mul ∨ op = .quo) (t : TypeId) (x y : Nat) (w : World) :
    (binOp op t (.float .f64 x) (.float .f64 y)).run P w = .ok (.float .f64 (fval op w x y)) (fworld op w x y) := by
  unfold fval fworld
  cases h : floatBits op .f64 x y with
  | some r => simpa using run_told h t w
  | none => simpa using run_nan hop h t w
theorem run_add {P : Program} (t : TypeId) (x y : Nat) (w : World) : (binOp .add t (.float .f64 x) (.float .f64 y)).run P w = .ok (.float .f64 (fval .add w x y)) (fworld .add w x y) := run_any (by simp) t x y w
theorem run_sub {P : Program} (t : TypeId) (x y : Nat) (w : World) : (binOp .sub t (.float .f64 x) (.float .f64 y)).run P w = .ok (.float .f64 (fval .sub w x y)) (fworld .sub w x y) := run_any (by simp) t x y w
theorem run_mul {P : Program} (t : TypeId) (x y : Nat) (w : World) : (binOp .mul t (.float .f64 x) (.float .f64 y)).run P w = .ok (.float .f64 (fval .mul w x y)) (fworld .mul w x y) := run_any (by simp) t x y w
theorem run_quo {P : Program} (t : TypeId) (x y : Nat) (w : World) : (binOp .quo t (.float .f64 x) (.float .f64 y)).run P w = .ok (.float .f64 (fval .quo w x y)) (fworld .quo w x y) := run_any (by simp) t x y w

/-- Equal is equal both ways. -/
theorem order_eq_symm {x y : Nat} {k : FloatKind} (h : k.format.order x y = some .eq) : k.format.order y x = some .eq := by
  have key : ∀ a b : Ieee.Datum, a.order b = some .eq → b.order a = some .eq := by
    intro a b h
    cases a with
    | nan => cases h
    | infinity s =>
      cases b with
      | nan => cases h
      | infinity t => cases s <;> cases t <;> simp_all [Ieee.Datum.order] <;> revert h <;> decide
      | number => cases s <;> cases h
    | number s m i =>
      cases b with
      | nan => cases h
      | infinity t => cases t <;> cases h
      | number t n j =>
        simp only [Ieee.Datum.order, Option.some.injEq] at h ⊢
        rw [Int.compare_eq_eq] at h ⊢
        rw [Int.min_comm]; exact h.symm
  exact key _ _ h
theorem not_nan_of_eq {x y : Nat} (h : FloatKind.f64.format.order x y = some .eq) : isN x = false := by
  cases e : isN x with
  | false => rfl
  | true => rw [order_nan_left e] at h; cases h


theorem lt_two_log (n : Nat) : n < 2 ^ (n.log2 + 1) := Nat.lt_log2_self

/-- What is kept of a number has at most one digit more than the fraction. -/
theorem kept_le (f : Ieee.Format) (neg : Bool) (mag : Nat) (place : Int) (h : mag ≠ 0) (last : Int) (hl : place + mag.log2 - f.fractionBits ≤ last) :
    Ieee.Toward.even.cut neg (mag <<< (place - last).toNat) (last - place).toNat ≤ 2 ^ (f.fractionBits + 1) := by
  have key : ∀ n gap : Nat, n / gap < 2 ^ (f.fractionBits + 1) → ∀ more : Bool, n / gap + more.toNat ≤ 2 ^ (f.fractionBits + 1) := by
    intro n gap h more
    have : more.toNat ≤ 1 := by cases more <;> decide
    omega
  unfold Ieee.Toward.cut
  simp only
  refine key _ _ ?_ _
  rw [Nat.shiftLeft_eq, Nat.one_shiftLeft]
  by_cases hp : last ≤ place
  · have e1 : (last - place).toNat = 0 := by omega
    rw [e1, Nat.zero_min, Nat.pow_zero, Nat.div_one]
    have hm := lt_two_log mag
    have h2 : mag.log2 + 1 + (place - last).toNat ≤ f.fractionBits + 1 := by omega
    calc mag * 2 ^ (place - last).toNat < 2 ^ (mag.log2 + 1) * 2 ^ (place - last).toNat := Nat.mul_lt_mul_of_pos_right hm (Nat.two_pow_pos _)
      _ = 2 ^ (mag.log2 + 1 + (place - last).toNat) := (Nat.pow_add ..).symm
      _ ≤ 2 ^ (f.fractionBits + 1) := Nat.pow_le_pow_right (by decide) h2
  · have e1 : (place - last).toNat = 0 := by omega
    rw [e1, Nat.pow_zero, Nat.mul_one]
    have hm := lt_two_log mag
    by_cases hd : (last - place).toNat ≤ mag.log2 + 2
    · rw [Nat.min_eq_left hd, Nat.div_lt_iff_lt_mul (Nat.two_pow_pos _), ← Nat.pow_add]
      exact Nat.lt_of_lt_of_le hm (Nat.pow_le_pow_right (by decide) (by omega))
    · rw [Nat.min_eq_right (by omega)]
      rw [Nat.div_eq_of_lt (Nat.lt_trans hm (Nat.pow_lt_pow_right (by decide) (by omega)))]
      exact Nat.two_pow_pos _

/-- The rung of the nearest word. -/
theorem nearest_rung (f : Ieee.Format) (neg : Bool) (mag : Nat) (place : Int) (h : mag ≠ 0) :
    ∃ r, f.nearest neg mag place = f.word neg r ∧ r ≤ f.infRung ∧ r ≤ (max (place + mag.log2 - f.fractionBits) f.leastPlace - f.leastPlace).toNat * f.binade + 2 ^ (f.fractionBits + 1) := by
  unfold Ieee.Format.nearest
  rw [if_neg h]
  refine ⟨_, rfl, Nat.min_le_right _ _, Nat.le_trans (Nat.min_le_left _ _) (Nat.add_le_add_left ?_ _)⟩
  exact kept_le f neg mag place h _ (Int.le_max_left _ _)

theorem word_mod (f : Ieee.Format) (neg : Bool) (r : Nat) (h : r < f.signWeight) : f.word neg r % f.signWeight = r := by
  unfold Ieee.Format.word
  cases neg
  · simp only [Bool.false_eq_true, if_false]; exact Nat.mod_eq_of_lt h
  · simp only [if_true]; rw [Nat.add_mod_left]; exact Nat.mod_eq_of_lt h

/-- A word of a small rung is a number that is not too large. -/
theorem read_small (x E : Nat) (hE : E < 2046) (h : x % 2 ^ 63 ≤ E * 2 ^ 52) : ∃ s m p, Ieee.double.read x = .number s m p ∧ (m = 0 ∨ p + m.log2 ≤ (E : Int) - 1022) := by
  have hw : Ieee.double.signWeight = 2 ^ 63 := by decide +kernel
  have hb : Ieee.double.binade = 2 ^ 52 := by decide +kernel
  have hi : Ieee.double.infRung = 2047 * 2 ^ 52 := by decide +kernel
  have hl : Ieee.double.leastPlace = -1074 := by decide +kernel
  unfold Ieee.Format.read
  simp only [hw, hb, hi, hl]
  generalize x % 2 ^ 63 = r at h ⊢
  by_cases h1 : r < 2 ^ 52
  · rw [if_pos h1]
    refine ⟨_, _, _, rfl, ?_⟩
    by_cases h0 : r = 0
    · exact .inl h0
    · right
      have : r.log2 < 52 := (Nat.log2_lt h0).2 h1
      omega
  · rw [if_neg h1, if_pos (by omega)]
    refine ⟨_, _, _, rfl, .inr ?_⟩
    have hm : r % 2 ^ 52 < 2 ^ 52 := Nat.mod_lt _ (by decide)
    have : (2 ^ 52 + r % 2 ^ 52).log2 < 53 := (Nat.log2_lt (by omega)).2 (by omega)
    have hq : r / 2 ^ 52 ≤ E := by omega
    have hq1 : 1 ≤ r / 2 ^ 52 := by omega
    omega

/-- The nearest word of a number that is not too large has a small rung. -/
theorem nearest_small (neg : Bool) (mag : Nat) (place : Int) (E : Nat) (hE : 1 ≤ E ∧ E < 2040) (h : mag = 0 ∨ place + mag.log2 ≤ (E : Int) - 1022) :
    Ieee.double.nearest neg mag place % 2 ^ 63 ≤ (E + 2) * 2 ^ 52 := by
  have hw : Ieee.double.signWeight = 2 ^ 63 := by decide +kernel
  have hb : Ieee.double.binade = 2 ^ 52 := by decide +kernel
  have hi : Ieee.double.infRung = 2047 * 2 ^ 52 := by decide +kernel
  have hl : Ieee.double.leastPlace = -1074 := by decide +kernel
  have hf : Ieee.double.fractionBits = 52 := rfl
  by_cases h0 : mag = 0
  · unfold Ieee.Format.nearest
    rw [if_pos h0, ← hw, word_mod _ _ _ (by rw [hw]; decide)]
    omega
  · obtain ⟨r, e, h1, h2⟩ := nearest_rung Ieee.double neg mag place h0
    rw [e, ← hw, word_mod _ _ _ (by omega)]
    rw [hl, hb, hf] at h2
    have h3 : place + mag.log2 ≤ (E : Int) - 1022 := by
      rcases h with h | h
      · exact absurd h h0
      · exact h
    have h4 : (max (place + (mag.log2 : Int) - (52 : Nat)) (-1074) - (-1074)).toNat ≤ E := by
      omega
    have h5 := Nat.mul_le_mul_right (2 ^ 52) h4
    omega

theorem cut_none (neg : Bool) (n : Nat) : Ieee.Toward.even.cut neg n 0 = n := by
  unfold Ieee.Toward.cut
  simp [Nat.mod_one]

/-- What a whole number is as a float: not too large; a positive one not too small. -/
theorem int_small {n : Int} (h : -2147483647 ≤ n ∧ n ≤ 2147483647) : ∃ s m p, Ieee.double.read (floatOfInt .f64 n) = .number s m p ∧ (m = 0 ∨ p + m.log2 ≤ 32) := by
  have h1 := nearest_small (n < 0) n.natAbs 0 1052 (by decide) (by
    by_cases h0 : n.natAbs = 0
    · exact .inl h0
    · right
      have : n.natAbs.log2 < 31 := (Nat.log2_lt h0).2 (by omega)
      omega)
  obtain ⟨s, m, p, e, h2⟩ := read_small (floatOfInt .f64 n) 1054 (by decide) h1
  exact ⟨s, m, p, e, by rcases h2 with h | h; · exact .inl h
                        · right; omega⟩

theorem int_least {d : Int} (h : 1 ≤ d ∧ d ≤ 2147483647) : ∃ s m p, Ieee.double.read (floatOfInt .f64 d) = .number s m p ∧ m ≠ 0 ∧ 0 ≤ p + m.log2 ∧ m.log2 ≤ 52 := by
  have hw : Ieee.double.signWeight = 2 ^ 63 := by decide +kernel
  have hb : Ieee.double.binade = 2 ^ 52 := by decide +kernel
  have hi : Ieee.double.infRung = 2047 * 2 ^ 52 := by decide +kernel
  have hl : Ieee.double.leastPlace = -1074 := by decide +kernel
  have hf : Ieee.double.fractionBits = 52 := rfl
  obtain ⟨k, rfl⟩ := Int.eq_ofNat_of_zero_le (show 0 ≤ d by omega)
  have hk0 : k ≠ 0 := by omega
  have hk1 : k.log2 < 31 := (Nat.log2_lt hk0).2 (by omega)
  have hk2 : 2 ^ k.log2 ≤ k := Nat.log2_self_le hk0
  have hk3 := lt_two_log k
  -- the word, exactly
  have e : floatOfInt .f64 (k : Int) = Ieee.double.word false ((k.log2 + 1022) * 2 ^ 52 + k * 2 ^ (52 - k.log2)) := by
    show Ieee.double.nearest (decide ((k : Int) < 0)) (k : Int).natAbs 0 = _
    have hd : decide ((k : Int) < 0) = false := by simp
    rw [hd, Int.natAbs_natCast]
    unfold Ieee.Format.nearest
    rw [if_neg hk0, hl, hb, hf, hi]
    have hm : max ((0 : Int) + (k.log2 : Int) - (52 : Nat)) (-1074) = (k.log2 : Int) - 52 := by omega
    simp only [hm]
    have e1 : ((k.log2 : Int) - 52 - 0).toNat = 0 := by omega
    have e2 : ((0 : Int) - ((k.log2 : Int) - 52)).toNat = 52 - k.log2 := by omega
    have e3 : ((k.log2 : Int) - 52 - -1074).toNat = k.log2 + 1022 := by omega
    rw [e1, e2, e3, cut_none, Nat.shiftLeft_eq]
    have hx : k * 2 ^ (52 - k.log2) < 2 ^ 53 := by
      calc k * 2 ^ (52 - k.log2) < 2 ^ (k.log2 + 1) * 2 ^ (52 - k.log2) := Nat.mul_lt_mul_of_pos_right hk3 (Nat.two_pow_pos _)
        _ = 2 ^ (k.log2 + 1 + (52 - k.log2)) := (Nat.pow_add ..).symm
        _ = 2 ^ 53 := by congr 1; omega
    rw [Nat.min_eq_left (by omega)]
  have hx1 : 2 ^ 52 ≤ k * 2 ^ (52 - k.log2) := by
    calc 2 ^ 52 = 2 ^ (k.log2 + (52 - k.log2)) := by congr 1; omega
      _ = 2 ^ k.log2 * 2 ^ (52 - k.log2) := Nat.pow_add ..
      _ ≤ k * 2 ^ (52 - k.log2) := Nat.mul_le_mul_right _ hk2
  have hx2 : k * 2 ^ (52 - k.log2) < 2 ^ 53 := by
    calc k * 2 ^ (52 - k.log2) < 2 ^ (k.log2 + 1) * 2 ^ (52 - k.log2) := Nat.mul_lt_mul_of_pos_right hk3 (Nat.two_pow_pos _)
      _ = 2 ^ (k.log2 + 1 + (52 - k.log2)) := (Nat.pow_add ..).symm
      _ = 2 ^ 53 := by congr 1; omega
  rw [e]
  generalize k * 2 ^ (52 - k.log2) = v at hx1 hx2 ⊢
  unfold Ieee.Format.read
  simp only [word_mod Ieee.double false _ (show (k.log2 + 1022) * 2 ^ 52 + v < Ieee.double.signWeight by rw [hw]; omega)]
  rw [hb, hi, hl, if_neg (by omega), if_pos (by omega)]
  refine ⟨_, _, _, rfl, by omega, ?_, ?_⟩
  · have : 52 ≤ (2 ^ 52 + ((k.log2 + 1022) * 2 ^ 52 + v) % 2 ^ 52).log2 := (Nat.le_log2 (by omega)).2 (by omega)
    have hq : 1023 ≤ ((k.log2 + 1022) * 2 ^ 52 + v) / 2 ^ 52 := by omega
    omega
  · have hm : ((k.log2 + 1022) * 2 ^ 52 + v) % 2 ^ 52 < 2 ^ 52 := Nat.mod_lt _ (by decide)
    have : (2 ^ 52 + ((k.log2 + 1022) * 2 ^ 52 + v) % 2 ^ 52).log2 < 53 := (Nat.log2_lt (by omega)).2 (by omega)
    omega

/-- The quotient of two whole numbers is a number that is not too large. -/
theorem quo_small {n d : Int} (hn : -2147483647 ≤ n ∧ n ≤ 2147483647) (hd : 1 ≤ d ∧ d ≤ 2147483647) :
    ∃ P, floatBits .quo .f64 (floatOfInt .f64 n) (floatOfInt .f64 d) = some P ∧ ∃ s m p, Ieee.double.read P = .number s m p ∧ (m = 0 ∨ p + m.log2 ≤ 34) := by
  obtain ⟨s, m, i, e1, h1⟩ := int_small hn
  obtain ⟨t, k, j, e2, k0, h2, h3⟩ := int_least hd
  obtain ⟨s', m', i', e1', h1'⟩ : ∃ s m p, Ieee.double.read (floatOfInt .f64 n) = .number s m p ∧ m.log2 ≤ 52 := by
    refine ⟨s, m, i, e1, ?_⟩
    have hb : Ieee.double.binade = 2 ^ 52 := by decide +kernel
    unfold Ieee.Format.read at e1
    simp only at e1
    split at e1
    · rename_i hr
      cases e1
      rw [hb] at hr
      by_cases h0 : floatOfInt .f64 n % Ieee.double.signWeight = 0
      · rw [h0]; decide
      · have := (Nat.log2_lt h0).2 hr; omega
    · split at e1
      · cases e1
        rw [hb]
        have hm : floatOfInt .f64 n % Ieee.double.signWeight % 2 ^ 52 < 2 ^ 52 := Nat.mod_lt _ (by decide)
        have : (2 ^ 52 + floatOfInt .f64 n % Ieee.double.signWeight % 2 ^ 52).log2 < 53 := (Nat.log2_lt (by omega)).2 (by omega)
        omega
      · split at e1 <;> cases e1
  rw [e1] at e1'
  cases e1'
  have hq : floatBits .quo .f64 (floatOfInt .f64 n) (floatOfInt .f64 d) = some (Ieee.double.nearest (s ^^ t)
      (2 * ((m <<< (54 + k.log2 - m.log2)) / k) + ((m <<< (54 + k.log2 - m.log2)) % k != 0).toNat) (i - j - (54 + k.log2 - m.log2 : Nat) - 1)) := by
    show ((Ieee.double.read (floatOfInt .f64 n)).quotient (Ieee.double.fractionBits + 2) (Ieee.double.read (floatOfInt .f64 d))).map Ieee.double.write = _
    rw [e1, e2]
    simp only [Ieee.Datum.quotient, if_neg k0]
    rfl
  refine ⟨_, hq, ?_⟩
  have hb : (m <<< (54 + k.log2 - m.log2)) / k < 2 ^ 55 := by
    rw [Nat.shiftLeft_eq, Nat.div_lt_iff_lt_mul (by omega)]
    have hk := Nat.log2_self_le k0
    calc m * 2 ^ (54 + k.log2 - m.log2) < 2 ^ (m.log2 + 1) * 2 ^ (54 + k.log2 - m.log2) := Nat.mul_lt_mul_of_pos_right (lt_two_log m) (Nat.two_pow_pos _)
      _ = 2 ^ (m.log2 + 1 + (54 + k.log2 - m.log2)) := (Nat.pow_add ..).symm
      _ = 2 ^ (55 + k.log2) := by congr 1; omega
      _ = 2 ^ 55 * 2 ^ k.log2 := Nat.pow_add ..
      _ ≤ 2 ^ 55 * k := Nat.mul_le_mul_left _ hk
  have hb2 : ((m <<< (54 + k.log2 - m.log2)) % k != 0).toNat ≤ 1 := by cases ((m <<< (54 + k.log2 - m.log2)) % k != 0) <;> decide
  by_cases h0 : m = 0
  · -- nothing over something
    subst h0
    have : (0 <<< (54 + k.log2 - Nat.log2 0)) = 0 := Nat.zero_shiftLeft _
    rw [this, Nat.zero_div, Nat.zero_mod]
    have h5 := nearest_small (s ^^ t) (2 * 0 + ((0 : Nat) != 0).toNat) (i - j - (54 + k.log2 - Nat.log2 0 : Nat) - 1) 1 (by decide) (.inl rfl)
    obtain ⟨s2, m2, p2, e3, h6⟩ := read_small _ 3 (by decide) h5
    exact ⟨s2, m2, p2, e3, by rcases h6 with h | h; · exact .inl h
                              · right; omega⟩
  · have h4 : i + m.log2 ≤ 32 := by rcases h1 with h | h; · exact absurd h h0
                                    · exact h
    generalize hM : 2 * ((m <<< (54 + k.log2 - m.log2)) / k) + ((m <<< (54 + k.log2 - m.log2)) % k != 0).toNat = M
    have hM2 : M < 2 ^ 56 := by omega
    have h5 := nearest_small (s ^^ t) M (i - j - (54 + k.log2 - m.log2 : Nat) - 1) 1054 (by decide) (by
      by_cases hM0 : M = 0
      · exact .inl hM0
      · right
        have : M.log2 < 56 := (Nat.log2_lt hM0).2 hM2
        omega)
    obtain ⟨s2, m2, p2, e3, h6⟩ := read_small _ 1056 (by decide) h5
    exact ⟨s2, m2, p2, e3, by rcases h6 with h | h; · exact .inl h
                              · right; omega⟩

/-- A number that is not too large is narrowed to a told word. -/
theorem narrow_small {x : Nat} {s : Bool} {m : Nat} {p : Int} (e : Ieee.double.read x = .number s m p) (h : m = 0 ∨ p + m.log2 ≤ 34) : ∃ r, floatToFloatBits .f64 x .f32 = some r := by
  have hw : Ieee.single.signWeight = 2 ^ 31 := by decide +kernel
  have hb : Ieee.single.binade = 2 ^ 23 := by decide +kernel
  have hi : Ieee.single.infRung = 255 * 2 ^ 23 := by decide +kernel
  have hl : Ieee.single.leastPlace = -149 := by decide +kernel
  have hf : Ieee.single.fractionBits = 23 := rfl
  have e' : FloatKind.f64.decode x = .number s m p := e
  have hr : ∃ r, FloatKind.f32.encode (.number s m p) = Ieee.single.word s r ∧ r < Ieee.single.infRung := by
    show ∃ r, Ieee.single.nearest s m p = Ieee.single.word s r ∧ r < Ieee.single.infRung
    by_cases h0 : m = 0
    · exact ⟨0, by unfold Ieee.Format.nearest; rw [if_pos h0], by rw [hi]; decide⟩
    · obtain ⟨r, e1, _, h2⟩ := nearest_rung Ieee.single s m p h0
      refine ⟨r, e1, ?_⟩
      rw [hl, hb, hf] at h2
      have h3 : p + m.log2 ≤ 34 := by rcases h with h | h; · exact absurd h h0
                                      · exact h
      have h4 : (max (p + (m.log2 : Int) - (23 : Nat)) (-149) - (-149)).toNat ≤ 160 := by omega
      have h5 := Nat.mul_le_mul_right (2 ^ 23) h4
      omega
  obtain ⟨r, e1, h1⟩ := hr
  refine ⟨FloatKind.f32.encode (.number s m p), ?_⟩
  unfold floatToFloatBits
  rw [if_neg (by decide), e']
  simp only
  rw [if_neg]
  rw [e1]
  show ¬ (Ieee.single.read (Ieee.single.word s r)).isInfinity = true
  unfold Ieee.Format.read
  simp only [word_mod Ieee.single s r (by omega)]
  split
  · simp [Ieee.Datum.isInfinity]
  · simp [Ieee.Datum.isInfinity]

def isNk (k : FloatKind) (x : Nat) : Bool := (k.format.read x).isNaN
theorem isNk64 (x : Nat) : isNk .f64 x = isN x := rfl
theorem isNk_iff {k : FloatKind} {x : Nat} : isNk k x = true ↔ ∃ s t, k.format.read x = .nan s t := by
  unfold isNk Ieee.Datum.isNaN
  cases h : k.format.read x <;> simp
theorem order_nk_left {k : FloatKind} {x : Nat} (h : isNk k x = true) (y : Nat) : k.format.order x y = none := by
  obtain ⟨s, t, e⟩ := isNk_iff.1 h
  show (k.format.read x).order (k.format.read y) = none
  rw [e]; rfl
theorem order_nk_right {k : FloatKind} {x : Nat} (h : isNk k x = true) (y : Nat) : k.format.order y x = none := by
  obtain ⟨s, t, e⟩ := isNk_iff.1 h
  show (k.format.read y).order (k.format.read x) = none
  rw [e]; cases k.format.read y <;> rfl

theorem isN_conv64 (b t : Nat) : isNk .f64 ((Question.nanConv .f64 b).cut t) = true := isN_cut 0 0 t
theorem isN_conv32 (b t : Nat) : isNk .f32 ((Question.nanConv .f32 b).cut t) = true := by
  show isNk .f32 ((t % 2) * 2 ^ 31 + 0x7f800000 + 1 + (t / 2) % (2 ^ 23 - 1)) = true
  have h1 : t / 2 % (2 ^ 23 - 1) < 2 ^ 23 - 1 := Nat.mod_lt _ (by decide)
  have hm : ((t % 2) * 2 ^ 31 + 0x7f800000 + 1 + (t / 2) % (2 ^ 23 - 1)) % Ieee.single.signWeight = 0x7f800000 + 1 + (t / 2) % (2 ^ 23 - 1) := by
    have : Ieee.single.signWeight = 2 ^ 31 := by decide +kernel
    rw [this]; omega
  show (Ieee.single.read _).isNaN = true
  unfold Ieee.Format.read
  simp only [hm]
  have hi : Ieee.single.infRung = 0x7f800000 := by decide +kernel
  have hb : Ieee.single.binade = 2 ^ 23 := by decide +kernel
  rw [hi, hb, if_neg (by omega), if_neg (by omega), if_neg (by omega)]
  rfl

/-- A conversion's answer: the told word, or a NaN that the tape gives. -/
def Conv (s k : FloatKind) (x r : Nat) : Prop := floatToFloatBits s x k = some r ∨ (isNk s x = true ∧ isNk k r = true)

theorem run_conv {P : Program} {s k : FloatKind} (hsk : s ≠ k) {x : Nat} (h : isNk s x = true ∨ (floatToFloatBits s x k).isSome = true) (w : World) :
    ∃ r n, (Go.Conv.floatToFloat s x k).run P w = .ok (.float k r) (w.drewN n) ∧ Conv s k x r := by
  rcases h with h | h
  · obtain ⟨a, t, e⟩ := isNk_iff.1 h
    have e' : s.decode x = .nan a t := e
    have hf : Question.forced (.nanConv k x) = false := rfl
    refine ⟨(Question.nanConv k x).cut (w.tape w.drawn (.nanConv k x)), 1, ?_, .inr ⟨h, ?_⟩⟩
    · simp [Go.Conv.floatToFloat, hsk, e', hf]; rfl
    · cases k
      · exact isN_conv32 _ _
      · exact isN_conv64 _ _
  · obtain ⟨r, hr⟩ := Option.isSome_iff_exists.1 h
    exact ⟨r, 0, run_floatToFloat w hr, .inl hr⟩

theorem run_cconv {P : Program} {s k : FloatKind} (hsk : s ≠ k) {x y : Nat} (hx : isNk s x = true ∨ (floatToFloatBits s x k).isSome = true) (hy : isNk s y = true ∨ (floatToFloatBits s y k).isSome = true)
    (src dst : TypeId) (hs : (P.underlying src).isSome = true) (hd : P.underlying dst = some (.complex k)) (w : World) :
    ∃ p q n, (convert src dst (.complex s x y)).run P w = .ok (.complex k p q) (w.drewN n) ∧ Conv s k x p ∧ Conv s k y q := by
  obtain ⟨p, n, h1, c1⟩ := run_conv (P := P) hsk hx w
  obtain ⟨q, m, h2, c2⟩ := run_conv (P := P) hsk hy (w.drewN n)
  rw [World.drewN_drewN] at h2
  refine ⟨p, q, n + m, ?_, c1, c2⟩
  obtain ⟨u, hs'⟩ := Option.isSome_iff_exists.1 hs
  cases u <;> simp [convert, run_underlying hs', run_underlying hd, Go.Conv.complexToComplex, h1, h2]

theorem isNk32_iff (x : Nat) : isNk .f32 x = (Ieee.single.read x).isNaN := rfl
/-- A single word is told as a wide one. -/
theorem widen_some (x : Nat) : isNk .f32 x = true ∨ (floatToFloatBits .f32 x .f64).isSome = true := by
  have hb : Ieee.single.binade = 2 ^ 23 := by decide +kernel
  have hi : Ieee.single.infRung = 255 * 2 ^ 23 := by decide +kernel
  have hl : Ieee.single.leastPlace = -149 := by decide +kernel
  cases e : Ieee.single.read x with
  | nan s t => left; unfold isNk; show (Ieee.single.read x).isNaN = true; rw [e]; rfl
  | infinity s =>
    right
    have e' : FloatKind.f32.decode x = .infinity s := e
    unfold floatToFloatBits
    rw [if_neg (by decide), e']
    rfl
  | number s m p =>
    right
    have e' : FloatKind.f32.decode x = .number s m p := e
    have hm : m = 0 ∨ p + m.log2 ≤ 130 := by
      unfold Ieee.Format.read at e
      simp only at e
      generalize x % Ieee.single.signWeight = r at e
      split at e
      · rename_i hr
        simp only [Ieee.Datum.number.injEq] at e
        obtain ⟨_, e2, e3⟩ := e
        rw [← e2, ← e3]
        rw [hb] at hr
        by_cases h0 : r = 0
        · exact .inl h0
        · right
          have := (Nat.log2_lt h0).2 hr
          rw [hl]; omega
      · split at e
        · rename_i h1 h2
          simp only [Ieee.Datum.number.injEq] at e
          obtain ⟨_, e2, e3⟩ := e
          rw [← e2, ← e3]
          right
          rw [hb] at h1 ⊢
          rw [hi] at h2
          rw [hl]
          have h3 : r % 2 ^ 23 < 2 ^ 23 := Nat.mod_lt _ (by decide)
          have : (2 ^ 23 + r % 2 ^ 23).log2 < 24 := (Nat.log2_lt (by omega)).2 (by omega)
          omega
        · split at e <;> cases e
    have hr := nearest_small s m p 1152 (by decide) (by rcases hm with h | h; · exact .inl h
                                                        · right; omega)
    obtain ⟨s2, m2, p2, e2, _⟩ := read_small (Ieee.double.nearest s m p) 1154 (by decide) hr
    unfold floatToFloatBits
    rw [if_neg (by decide), e']
    simp only
    rw [if_neg]
    · rfl
    · show ¬ (Ieee.double.read (Ieee.double.nearest s m p)).isInfinity = true
      rw [e2]; simp [Ieee.Datum.isInfinity]
theorem conv_same {s k : FloatKind} {x r r' : Nat} (h : Conv s k x r) (h' : Conv s k x r') (hk : k = .f64) : Same r r' := by
  subst hk
  rcases h with h | ⟨a, b⟩
  · rcases h' with h' | ⟨c, d⟩
    · rw [h] at h'; cases h'; exact .refl _
    · obtain ⟨s1, t1, e⟩ := isNk_iff.1 c
      have e' : s.decode x = .nan s1 t1 := e
      unfold floatToFloatBits at h
      split at h
      · rename_i hs; subst hs; cases h
        exact .inr ⟨c, d⟩
      · rw [e'] at h; cases h
  · rcases h' with h' | ⟨c, d⟩
    · obtain ⟨s1, t1, e⟩ := isNk_iff.1 a
      have e' : s.decode x = .nan s1 t1 := e
      unfold floatToFloatBits at h'
      split at h'
      · rename_i hs; subst hs; cases h'
        exact .inr ⟨b, a⟩
      · rw [e'] at h'; cases h'
    · exact .inr ⟨b, d⟩
end Go.Proofs.YtkdkeacfifjjoabDoor
