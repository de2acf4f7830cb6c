/-
  Comparisons; contracts with letters.
-/
import Derived.Test.YtkdkeacfifjjoabDoorEqVec
import Derived.Test.YtkdkeacfifjjoabDoorBMathA
import Derived.Test.YtkdkeacfifjjoabDoorBSpecV
import Derived.Test.YtkdkeacfifjjoabDoorBVec
import Derived.Test.YtkdkeacfifjjoabDoorBMath
import Derived.Test.YtkdkeacfifjjoabDoorBImplF
namespace Go.Proofs.YtkdkeacfifjjoabDoor
open Go.ChangeShapes Go.WideShapes Go.ChangeAt Go.RowKit
set_option linter.unusedVariables false

def eqM4 (x y : F4) : Bool := x == y
theorem eqM4_true {x y : F4} : eqM4 x y = true ↔ x = y := by unfold eqM4; simp
theorem eqM4_false {x y : F4} : eqM4 x y = false ↔ ¬ x = y := by unfold eqM4; simp
theorem eqArr (d : Nat) (a1 a2 a3 b1 b2 b3 c1 c2 c3 d1 d2 d3 i1 i2 i3 j1 j2 j3 k1 k2 k3 l1 l2 l3 : Int) (w : World) : (Op.equalIn (d + 4) 30 (.agg #[.int .i64 a1, .int .i64 a2, .int .i64 a3, .int .i64 b1, .int .i64 b2, .int .i64 b3, .int .i64 c1, .int .i64 c2, .int .i64 c3, .int .i64 d1, .int .i64 d2, .int .i64 d3]) (.agg #[.int .i64 i1, .int .i64 i2, .int .i64 i3, .int .i64 j1, .int .i64 j2, .int .i64 j3, .int .i64 k1, .int .i64 k2, .int .i64 k3, .int .i64 l1, .int .i64 l2, .int .i64 l3])).run Tryd.prog w = .ok (eqM4 ((a1, a2, a3), (b1, b2, b3), (c1, c2, c3), (d1, d2, d3)) ((i1, i2, i3), (j1, j2, j3), (k1, k2, k3), (l1, l2, l3))) w := by
  have f3 := Tryd.isAgg27
  have z3 := Tryd.sizeOf27
  have E := eqFr d
  have E1 := eqFr (d + 1)
  rw [show d + 4 = (d + 3) + 1 from rfl, Op.equalIn]
  simp only [Sem.run_bind, run_underlying Tryd.underlying30, Result.andThen_ok]
  simp only [Std.Legacy.Range.forIn_eq_forIn_range', Std.Legacy.Range.size, Nat.sub_zero, Nat.add_sub_cancel, Nat.div_one, List.range'_succ, List.range'_zero, List.forIn_cons, List.forIn_nil]
  have R : eqM4 ((a1, a2, a3), (b1, b2, b3), (c1, c2, c3), (d1, d2, d3)) ((i1, i2, i3), (j1, j2, j3), (k1, k2, k3), (l1, l2, l3)) = ((a1 == i1 && a2 == i2 && a3 == i3) && (b1 == j1 && b2 == j2 && b3 == j3) && (c1 == k1 && c2 == k2 && c3 == k3) && (d1 == l1 && d2 == l2 && d3 == l3)) := by
    rw [Bool.eq_iff_iff, eqM4_true]
    simp only [Prod.mk.injEq, Bool.and_eq_true, beq_iff_eq, and_assoc]
  rw [R]
  clear R
  go_simp
  repeat' split
  all_goals simp_all
theorem eqMat (a1 a2 a3 b1 b2 b3 c1 c2 c3 d1 d2 d3 i1 i2 i3 j1 j2 j3 k1 k2 k3 l1 l2 l3 : Int) : ∀ w, (Op.equalIn 10000 32 (.agg #[.int .i64 a1, .int .i64 a2, .int .i64 a3, .int .i64 b1, .int .i64 b2, .int .i64 b3, .int .i64 c1, .int .i64 c2, .int .i64 c3, .int .i64 d1, .int .i64 d2, .int .i64 d3]) (.agg #[.int .i64 i1, .int .i64 i2, .int .i64 i3, .int .i64 j1, .int .i64 j2, .int .i64 j3, .int .i64 k1, .int .i64 k2, .int .i64 k3, .int .i64 l1, .int .i64 l2, .int .i64 l3])).run Tryd.prog w = .ok (eqM4 ((a1, a2, a3), (b1, b2, b3), (c1, c2, c3), (d1, d2, d3)) ((i1, i2, i3), (j1, j2, j3), (k1, k2, k3), (l1, l2, l3))) w := by
  intro w
  have ag3 := Tryd.isAgg30
  have sz3 := Tryd.sizeOf30
  have E := eqArr 9995 a1 a2 a3 b1 b2 b3 c1 c2 c3 d1 d2 d3 i1 i2 i3 j1 j2 j3 k1 k2 k3 l1 l2 l3
  rw [show 9995 + 4 = 9999 from rfl] at E
  have hS : Tryd.prog.underlying 32 = some (.struct (Tryd.prog.fieldsOf 32)) := by kernel_rfl
  rw [show (10000 : Nat) = 9999 + 1 from rfl, run_equalIn_agg w 9999 32 _ _ hS (by kernel_rfl)]
  simp only [Program.fieldsOf, Tryd.underlying32]
  obtain ⟨z, hz⟩ : ∃ z, eqM4 ((a1, a2, a3), (b1, b2, b3), (c1, c2, c3), (d1, d2, d3)) ((i1, i2, i3), (j1, j2, j3), (k1, k2, k3), (l1, l2, l3)) = z := ⟨_, rfl⟩
  rw [hz] at E ⊢
  clear hz
  go_simp
  cases z <;> simp

theorem gave6_some {o : Option ((Int × Int × Int) × (Int × Int × Int))} {u1 u2 u3 v1 v2 v3 : Int} (h : o = some ((u1, u2, u3), (v1, v2, v3))) {P : Program} {f : FuncId} {ar : Array Value} {w : World} (c : Calls P f ar w (Gave6 o w)) :
    Calls P f ar w fun e w' => e = .returned (.tuple #[.agg #[.int .i64 u1, .int .i64 u2, .int .i64 u3, .int .i64 v1, .int .i64 v2, .int .i64 v3], .bool true]) ∧ Below w.heap.size w w' := c.mono fun e w' k => ⟨k.1 _ _ _ _ _ _ h, k.2.2⟩
theorem gave6_none {o : Option ((Int × Int × Int) × (Int × Int × Int))} (h : o = none) {P : Program} {f : FuncId} {ar : Array Value} {w : World} (c : Calls P f ar w (Gave6 o w)) :
    Calls P f ar w fun e w' => e = .returned (.tuple #[.agg #[.int .i64 0, .int .i64 0, .int .i64 0, .int .i64 0, .int .i64 0, .int .i64 0], .bool false]) ∧ Below w.heap.size w w' := c.mono fun e w' k => ⟨k.2.1 h, k.2.2⟩
/-- A told vector, its letters open. -/
theorem gave6_any (o : Option ((Int × Int × Int) × (Int × Int × Int))) : ∃ r1 r2 r3 r4 r5 r6 : Int, ∃ k : Bool, (∀ P f ar w, Calls P f ar w (Gave6 o w) → Calls P f ar w fun e w' => e = .returned (.tuple #[.agg #[.int .i64 r1, .int .i64 r2, .int .i64 r3, .int .i64 r4, .int .i64 r5, .int .i64 r6], .bool k]) ∧ Below w.heap.size w w') := by
  cases o with
  | none => exact ⟨0, 0, 0, 0, 0, 0, false, fun P f ar w c => gave6_none rfl c⟩
  | some v =>
    obtain ⟨⟨u1, u2, u3⟩, v1, v2, v3⟩ := v
    exact ⟨u1, u2, u3, v1, v2, v3, true, fun P f ar w c => gave6_some rfl c⟩
/-- A told vector, its letters open, of ints of 64 bits. -/
theorem gave6_i64 {o : Option ((Int × Int × Int) × (Int × Int × Int))} (hb : ∀ u1 u2 u3 v1 v2 v3, o = some ((u1, u2, u3), (v1, v2, v3)) → okF u1 u2 u3 = true ∧ okF v1 v2 v3 = true) : ∃ r1 r2 r3 r4 r5 r6 : Int, ∃ k : Bool, (i64B r1 ∧ i64B r2 ∧ i64B r3 ∧ i64B r4 ∧ i64B r5 ∧ i64B r6) ∧ (∀ P f ar w, Calls P f ar w (Gave6 o w) → Calls P f ar w fun e w' => e = .returned (.tuple #[.agg #[.int .i64 r1, .int .i64 r2, .int .i64 r3, .int .i64 r4, .int .i64 r5, .int .i64 r6], .bool k]) ∧ Below w.heap.size w w') := by
  cases o with
  | none => exact ⟨0, 0, 0, 0, 0, 0, false, by unfold i64B; omega, fun P f ar w c => gave6_none rfl c⟩
  | some v =>
    obtain ⟨⟨u1, u2, u3⟩, v1, v2, v3⟩ := v
    obtain ⟨h1, h2⟩ := hb _ _ _ _ _ _ rfl
    obtain ⟨a1, a2, a3⟩ := okF_i64 h1
    obtain ⟨b1, b2, b3⟩ := okF_i64 h2
    exact ⟨u1, u2, u3, v1, v2, v3, true, ⟨a1, a2, a3, b1, b2, b3⟩, fun P f ar w c => gave6_some rfl c⟩
theorem cmp_open (o : Option Int) : ∃ n : Int, ∃ k : Bool, cmpV o = .tuple #[.int .i64 n, .bool k] := by
  cases o with
  | none => exact ⟨0, false, rfl⟩
  | some n => exact ⟨n, true, rfl⟩
theorem cmpv_any {o : Option Int} {v : Value} (h : cmpV o = v) {P : Program} {f : FuncId} {ar : Array Value} {w : World} (c : Calls P f ar w fun e w' => e = .returned (cmpV o) ∧ Below w.heap.size w w') :
    Calls P f ar w fun e w' => e = .returned v ∧ Below w.heap.size w w' := by subst h; exact c
theorem sum_ok {s x y z a b c p q r : Int} (h : sumF s x y z a b c = some (p, q, r)) : okF p q r = true := (sum_some h).2.2.1
theorem times_ok {x y z a b c p q r : Int} (h : timesF x y z a b c = some (p, q, r)) : okF p q r = true := (times_some h).2.2.1
theorem power_ok {x y z p q r : Int} (h : powerF x y z = some (p, q, r)) : okF p q r = true := (power_some h).2.1
theorem jpow_ok {x1 x2 x3 y1 y2 y3 p q r : Int} (h : jpowF x1 x2 x3 y1 y2 y3 = some (p, q, r)) : okF p q r = true := (jpow_val h).2.2.1
theorem inner_ok {x1 x2 x3 y1 y2 y3 a1 a2 a3 b1 b2 b3 p q r : Int} (h : innerF x1 x2 x3 y1 y2 y3 a1 a2 a3 b1 b2 b3 = some (p, q, r)) : okF p q r = true := (inner_val h).2.2.2.2.1
theorem jadd_ok {x1 x2 x3 y1 y2 y3 a1 a2 a3 b1 b2 b3 u1 u2 u3 v1 v2 v3 : Int} (h : jaddF x1 x2 x3 y1 y2 y3 a1 a2 a3 b1 b2 b3 = some ((u1, u2, u3), (v1, v2, v3))) : okF u1 u2 u3 = true ∧ okF v1 v2 v3 = true := ⟨sum_ok (pair_some h).1, sum_ok (pair_some h).2⟩
theorem jtimes_ok {x1 x2 x3 y1 y2 y3 c1 c2 c3 u1 u2 u3 v1 v2 v3 : Int} (h : jtimesF x1 x2 x3 y1 y2 y3 c1 c2 c3 = some ((u1, u2, u3), (v1, v2, v3))) : okF u1 u2 u3 = true ∧ okF v1 v2 v3 = true := ⟨times_ok (pair_some h).1, times_ok (pair_some h).2⟩
theorem i64_0 : i64B 0 := by unfold i64B; omega
theorem i64_1 : i64B 1 := by unfold i64B; omega
theorem i64_m1 : i64B (-1) := by unfold i64B; omega

theorem gave12_some {o : Option ((Int × Int × Int) × (Int × Int × Int) × (Int × Int × Int) × (Int × Int × Int))} {a1 a2 a3 b1 b2 b3 c1 c2 c3 d1 d2 d3 : Int} (h : o = some ((a1, a2, a3), (b1, b2, b3), (c1, c2, c3), (d1, d2, d3))) {P : Program} {f : FuncId} {ar : Array Value} {w : World} (c : Calls P f ar w (Gave12 o w)) :
    Calls P f ar w fun e w' => e = .returned (.tuple #[.agg #[.int .i64 a1, .int .i64 a2, .int .i64 a3, .int .i64 b1, .int .i64 b2, .int .i64 b3, .int .i64 c1, .int .i64 c2, .int .i64 c3, .int .i64 d1, .int .i64 d2, .int .i64 d3], .bool true]) ∧ Below w.heap.size w w' := c.mono fun e w' k => ⟨k.1 _ _ _ _ _ _ _ _ _ _ _ _ h, k.2.2⟩
theorem gave12_none {o : Option ((Int × Int × Int) × (Int × Int × Int) × (Int × Int × Int) × (Int × Int × Int))} (h : o = none) {P : Program} {f : FuncId} {ar : Array Value} {w : World} (c : Calls P f ar w (Gave12 o w)) :
    Calls P f ar w fun e w' => e = .returned (.tuple #[.agg #[.int .i64 0, .int .i64 0, .int .i64 0, .int .i64 0, .int .i64 0, .int .i64 0, .int .i64 0, .int .i64 0, .int .i64 0, .int .i64 0, .int .i64 0, .int .i64 0], .bool false]) ∧ Below w.heap.size w w' := c.mono fun e w' k => ⟨k.2.1 h, k.2.2⟩
/-- Told four numbers, their letters open, of ints of 64 bits. -/
theorem gave12_i64 {o : Option ((Int × Int × Int) × (Int × Int × Int) × (Int × Int × Int) × (Int × Int × Int))} (hb : ∀ a1 a2 a3 b1 b2 b3 c1 c2 c3 d1 d2 d3, o = some ((a1, a2, a3), (b1, b2, b3), (c1, c2, c3), (d1, d2, d3)) → okF a1 a2 a3 = true ∧ okF b1 b2 b3 = true ∧ okF c1 c2 c3 = true ∧ okF d1 d2 d3 = true) : ∃ r1 r2 r3 r4 r5 r6 r7 r8 r9 r10 r11 r12 : Int, ∃ k : Bool, (i64B r1 ∧ i64B r2 ∧ i64B r3 ∧ i64B r4 ∧ i64B r5 ∧ i64B r6 ∧ i64B r7 ∧ i64B r8 ∧ i64B r9 ∧ i64B r10 ∧ i64B r11 ∧ i64B r12) ∧ (∀ P f ar w, Calls P f ar w (Gave12 o w) → Calls P f ar w fun e w' => e = .returned (.tuple #[.agg #[.int .i64 r1, .int .i64 r2, .int .i64 r3, .int .i64 r4, .int .i64 r5, .int .i64 r6, .int .i64 r7, .int .i64 r8, .int .i64 r9, .int .i64 r10, .int .i64 r11, .int .i64 r12], .bool k]) ∧ Below w.heap.size w w') := by
  cases o with
  | none => exact ⟨0, 0, 0, 0, 0, 0, 0, 0, 0, 0, 0, 0, false, by unfold i64B; omega, fun P f ar w c => gave12_none rfl c⟩
  | some v =>
    obtain ⟨⟨a1, a2, a3⟩, ⟨b1, b2, b3⟩, ⟨c1, c2, c3⟩, d1, d2, d3⟩ := v
    obtain ⟨h1, h2, h3, h4⟩ := hb _ _ _ _ _ _ _ _ _ _ _ _ rfl
    obtain ⟨a1', a2', a3'⟩ := okF_i64 h1
    obtain ⟨b1', b2', b3'⟩ := okF_i64 h2
    obtain ⟨c1', c2', c3'⟩ := okF_i64 h3
    obtain ⟨d1', d2', d3'⟩ := okF_i64 h4
    exact ⟨a1, a2, a3, b1, b2, b3, c1, c2, c3, d1, d2, d3, true, ⟨a1', a2', a3', b1', b2', b3', c1', c2', c3', d1', d2', d3'⟩, fun P f ar w c => gave12_some rfl c⟩
theorem sadd_ok {a1 a2 a3 b1 b2 b3 c1 c2 c3 d1 d2 d3 i1 i2 i3 j1 j2 j3 k1 k2 k3 l1 l2 l3 r1 r2 r3 r4 r5 r6 r7 r8 r9 r10 r11 r12 : Int} (h : saddF a1 a2 a3 b1 b2 b3 c1 c2 c3 d1 d2 d3 i1 i2 i3 j1 j2 j3 k1 k2 k3 l1 l2 l3 = some ((r1, r2, r3), (r4, r5, r6), (r7, r8, r9), (r10, r11, r12))) : okF r1 r2 r3 = true ∧ okF r4 r5 r6 = true ∧ okF r7 r8 r9 = true ∧ okF r10 r11 r12 = true := by
  obtain ⟨-, -, e1, e2, e3, e4⟩ := sadd_some h
  exact ⟨(sum_some e1).2.2.1, (sum_some e2).2.2.1, (sum_some e3).2.2.1, (sum_some e4).2.2.1⟩
theorem stimes_ok {a1 a2 a3 b1 b2 b3 c1 c2 c3 d1 d2 d3 q1 q2 q3 r1 r2 r3 r4 r5 r6 r7 r8 r9 r10 r11 r12 : Int} (h : stimesF a1 a2 a3 b1 b2 b3 c1 c2 c3 d1 d2 d3 q1 q2 q3 = some ((r1, r2, r3), (r4, r5, r6), (r7, r8, r9), (r10, r11, r12))) : okF r1 r2 r3 = true ∧ okF r4 r5 r6 = true ∧ okF r7 r8 r9 = true ∧ okF r10 r11 r12 = true := by
  obtain ⟨-, -, e1, e2, e3, e4⟩ := stimes_some h
  exact ⟨(times_some e1).2.2.1, (times_some e2).2.2.1, (times_some e3).2.2.1, (times_some e4).2.2.1⟩

def i64T (u : F3) : Prop := i64B u.1 ∧ i64B u.2.1 ∧ i64B u.2.2
def i64J (x : F3 × F3) : Prop := i64T x.1 ∧ i64T x.2
def i64M (x : F4) : Prop := i64T x.1 ∧ i64T x.2.1 ∧ i64T x.2.2.1 ∧ i64T x.2.2.2
def valT (o : Option F3) : F3 := o.getD (0, 0, 0)
def valJ (o : Option (F3 × F3)) : F3 × F3 := o.getD ((0, 0, 0), (0, 0, 0))
def valM (o : Option F4) : F4 := o.getD ((0, 0, 0), (0, 0, 0), (0, 0, 0), (0, 0, 0))
theorem i64T_ok {u : F3} (h : okT u = true) : i64T u := okF_i64 h
theorem i64T_0 : i64T (0, 0, 0) := by unfold i64T i64B; decide
theorem i64M_ok {x : F4} (h : okM x = true) : i64M x := by
  obtain ⟨a, b, c, d⟩ := x
  obtain ⟨h1, h2, h3, h4⟩ := okM_of h
  exact ⟨i64T_ok h1, i64T_ok h2, i64T_ok h3, i64T_ok h4⟩
theorem valT_i64 {o : Option F3} {x : F3} (h : ∀ r, o = some r → okT r = true) (hx : valT o = x) : i64T x := by
  subst hx
  cases o with
  | none => exact i64T_0
  | some v => exact i64T_ok (h v rfl)
theorem valJ_i64 {o : Option (F3 × F3)} {x : F3 × F3} (h : ∀ r, o = some r → okT r.1 = true ∧ okT r.2 = true) (hx : valJ o = x) : i64J x := by
  subst hx
  cases o with
  | none => exact ⟨i64T_0, i64T_0⟩
  | some v => exact ⟨i64T_ok (h v rfl).1, i64T_ok (h v rfl).2⟩
theorem valM_i64 {o : Option F4} {x : F4} (h : ∀ r, o = some r → okM r = true) (hx : valM o = x) : i64M x := by
  subst hx
  cases o with
  | none => exact ⟨i64T_0, i64T_0, i64T_0, i64T_0⟩
  | some v => exact i64M_ok (h v rfl)
theorem someT {o : Option F3} {x : F3} (h : valT o = x) (k : o.isSome = true) : o = some x := by
  subst h
  cases o with
  | none => cases k
  | some v => rfl
theorem someJ {o : Option (F3 × F3)} {x : F3 × F3} (h : valJ o = x) (k : o.isSome = true) : o = some x := by
  subst h
  cases o with
  | none => cases k
  | some v => rfl
theorem someM {o : Option F4} {x : F4} (h : valM o = x) (k : o.isSome = true) : o = some x := by
  subst h
  cases o with
  | none => cases k
  | some v => rfl
theorem isS {α : Type} {o : Option α} {x : α} (h : o = some x) : o.isSome = true := by rw [h]; rfl
theorem gaveT_at {o : Option (F3)} {x : F3} {s : Bool} (hx : valT o = x) (hs : o.isSome = s) {P : Program} {f : FuncId} {ar : Array Value} {w : World} (c : Calls P f ar w (Gave o w)) :
    Calls P f ar w fun e w' => e = .returned (.tuple #[.agg #[.int .i64 x.1, .int .i64 x.2.1, .int .i64 x.2.2], .bool s]) ∧ Below w.heap.size w w' := by
  subst hx hs
  cases o with
  | none => exact c
  | some v => exact c
theorem gaveJ_at {o : Option (F3 × F3)} {x : F3 × F3} {s : Bool} (hx : valJ o = x) (hs : o.isSome = s) {P : Program} {f : FuncId} {ar : Array Value} {w : World} (c : Calls P f ar w (Gave6 o w)) :
    Calls P f ar w fun e w' => e = .returned (.tuple #[.agg #[.int .i64 x.1.1, .int .i64 x.1.2.1, .int .i64 x.1.2.2, .int .i64 x.2.1, .int .i64 x.2.2.1, .int .i64 x.2.2.2], .bool s]) ∧ Below w.heap.size w w' := by
  subst hx hs
  cases o with
  | none => exact c.mono fun e w' h => ⟨h.2.1 rfl, h.2.2⟩
  | some v => exact c.mono fun e w' h => ⟨h.1 _ _ _ _ _ _ rfl, h.2.2⟩
theorem gaveM_at {o : Option (F4)} {x : F4} {s : Bool} (hx : valM o = x) (hs : o.isSome = s) {P : Program} {f : FuncId} {ar : Array Value} {w : World} (c : Calls P f ar w (Gave12 o w)) :
    Calls P f ar w fun e w' => e = .returned (.tuple #[.agg #[.int .i64 x.1.1, .int .i64 x.1.2.1, .int .i64 x.1.2.2, .int .i64 x.2.1.1, .int .i64 x.2.1.2.1, .int .i64 x.2.1.2.2, .int .i64 x.2.2.1.1, .int .i64 x.2.2.1.2.1, .int .i64 x.2.2.1.2.2, .int .i64 x.2.2.2.1, .int .i64 x.2.2.2.2.1, .int .i64 x.2.2.2.2.2], .bool s]) ∧ Below w.heap.size w w' := by
  subst hx hs
  cases o with
  | none => exact c.mono fun e w' h => ⟨h.2.1 rfl, h.2.2⟩
  | some v => exact c.mono fun e w' h => ⟨h.1 _ _ _ _ _ _ _ _ _ _ _ _ rfl, h.2.2⟩
theorem eqMSame (x : F4) : ∀ w, (Op.equalIn 10000 32 (.agg #[.int .i64 x.1.1, .int .i64 x.1.2.1, .int .i64 x.1.2.2, .int .i64 x.2.1.1, .int .i64 x.2.1.2.1, .int .i64 x.2.1.2.2, .int .i64 x.2.2.1.1, .int .i64 x.2.2.1.2.1, .int .i64 x.2.2.1.2.2, .int .i64 x.2.2.2.1, .int .i64 x.2.2.2.2.1, .int .i64 x.2.2.2.2.2]) (.agg #[.int .i64 x.1.1, .int .i64 x.1.2.1, .int .i64 x.1.2.2, .int .i64 x.2.1.1, .int .i64 x.2.1.2.1, .int .i64 x.2.1.2.2, .int .i64 x.2.2.1.1, .int .i64 x.2.2.1.2.1, .int .i64 x.2.2.1.2.2, .int .i64 x.2.2.2.1, .int .i64 x.2.2.2.2.1, .int .i64 x.2.2.2.2.2])).run Tryd.prog w = .ok true w := by
  intro w
  rw [eqMat]
  congr 1
  exact eqM4_true.2 rfl
theorem eqTSame (x : F3) : ∀ w, (Op.equalIn 10000 27 (.agg #[.int .i64 x.1, .int .i64 x.2.1, .int .i64 x.2.2]) (.agg #[.int .i64 x.1, .int .i64 x.2.1, .int .i64 x.2.2])).run Tryd.prog w = .ok true w := by
  intro w
  rw [show (10000 : Nat) = 9998 + 2 from rfl, eqFr]
  simp
theorem eqTLit {x : F3} {a b c : Int} (h : x = (a, b, c)) : ∀ w, (Op.equalIn 10000 27 (.agg #[.int .i64 x.1, .int .i64 x.2.1, .int .i64 x.2.2]) (.agg #[.int .i64 a, .int .i64 b, .int .i64 c])).run Tryd.prog w = .ok true w := by
  subst h
  exact eqTSame (a, b, c)
theorem eqMLit {x : F4} {i1 i2 i3 j1 j2 j3 k1 k2 k3 l1 l2 l3 : Int} (h : x = ((i1, i2, i3), (j1, j2, j3), (k1, k2, k3), l1, l2, l3)) : ∀ w, (Op.equalIn 10000 32 (.agg #[.int .i64 x.1.1, .int .i64 x.1.2.1, .int .i64 x.1.2.2, .int .i64 x.2.1.1, .int .i64 x.2.1.2.1, .int .i64 x.2.1.2.2, .int .i64 x.2.2.1.1, .int .i64 x.2.2.1.2.1, .int .i64 x.2.2.1.2.2, .int .i64 x.2.2.2.1, .int .i64 x.2.2.2.2.1, .int .i64 x.2.2.2.2.2]) (.agg #[.int .i64 i1, .int .i64 i2, .int .i64 i3, .int .i64 j1, .int .i64 j2, .int .i64 j3, .int .i64 k1, .int .i64 k2, .int .i64 k3, .int .i64 l1, .int .i64 l2, .int .i64 l3])).run Tryd.prog w = .ok true w := by
  subst h
  exact eqMSame ((i1, i2, i3), (j1, j2, j3), (k1, k2, k3), l1, l2, l3)
theorem adjM_told {A : F4} (h : okM A = true) : (adjM A).isSome = true := by
  obtain ⟨a, b, c, d⟩ := A
  exact isS (adjM_of h)
theorem detM_okr {A : F4} {r : F3} (h : detM A = some r) : okT r = true := by
  obtain ⟨a, b, c, d⟩ := A
  exact (detM_val h).2.1
theorem appM_ok {A : F4} {V r : F3 × F3} (h : appM A V = some r) : okT r.1 = true ∧ okT r.2 = true := by
  obtain ⟨a, b, c, d⟩ := A
  obtain ⟨x, y⟩ := V
  obtain ⟨u, v⟩ := r
  obtain ⟨e1, e2⟩ := appM_some h
  exact ⟨(inT_val e1).2.2.2.2.1, (inT_val e2).2.2.2.2.1⟩
theorem appM_okM {A : F4} {V r : F3 × F3} (h : appM A V = some r) : okM A = true := by
  cases e : okM A with
  | true => rfl
  | false => rw [appM_not1 e] at h; cases h
theorem cT_ok {u v : F3} (h : cT u = some v) : okT v = true := by
  obtain ⟨k, rfl⟩ := cT_some h
  rw [okT_bar]; exact k
theorem powT_ok {u v : F3} (h : powerF u.1 u.2.1 u.2.2 = some v) : okT v = true := by
  obtain ⟨p, q, r⟩ := v
  exact (power_some h).2.1
theorem los_okM {A : F4} (h : losM A = true) : okM A = true := by
  obtain ⟨B, h1, -⟩ := lossM_some h
  exact (adjM_ok h1).1
end Go.Proofs.YtkdkeacfifjjoabDoor
