/-
  The program's fractions.
-/
import Derived.Test.YtkdkeacfifjjoabDoorBMem
import Derived.LaidEql
import Derived.Stop.Asserts
import Derived.RowKitTokens
import Derived.Test.YtkdkeacfifjjoabDoorBSpecF
import Derived.Deep.RegionWith
namespace Go.Proofs.YtkdkeacfifjjoabDoor
open Go.ChangeShapes Go.WideShapes Go.ChangeAt Go.RowKit
set_option linter.unusedVariables false
open Go.RowKit Go.Extern.Stop Go.Stop Go.Extern

/-- errors.As(nil, target). -/
theorem as_nil (t : Value) (w : World) :
    Calls Tryd.prog 18 #[.nilIface, t] w fun e w' => e = .returned (.bool false) ∧ w' = w := by
  go_enter Tryd.func18, Tryd.ntmps18
  go_wp2
  go_ret
  exact ⟨rfl, rfl⟩

theorem asv_valueP (t : Addr) (w : World) : (ReflectliteValue.unpack (.iface 57 (.pointer (some t)))).run Tryd.prog w
    = .ok (.agg #[.pointer (some ⟨1, 57, none⟩), .pointer (some ⟨w.heap.size, 0, none⟩), .int .u64 150]) (w.alloc (.cells #[.pointer (some t)] 57)) := by kernel_rfl
theorem asv_typeP (a : Addr) (w : World) : (ReflectliteValue.methodAny (ReflectliteValue.valueError "reflectlite.Value.Type" 0) (fun t _ _ _ => ReflectliteType.toType t) #[.agg #[.pointer (some ⟨1, 57, none⟩), .pointer (some a), .int .u64 150]]).run Tryd.prog w
    = .ok (.iface 92 (.agg #[.pointer (some ⟨1, 57, none⟩)])) w := by kernel_rfl
theorem asv_mKind (h : Value) (w : World) : (Go.method 247 92 (.agg #[h]) "Kind").run Tryd.prog w = .ok (77, h) w := by kernel_rfl
theorem asv_kindP (w : World) : ((ReflectliteType.abiMethod fun t => (fun a : Nat => Value.int IntKind.u8 (a : Int)) <$> Rtype.kind t) #[.pointer (some ⟨1, 57, none⟩)]).run Tryd.prog w = .ok (.int .u8 22) w := by kernel_rfl
theorem asv_kindN (w : World) : ((ReflectliteType.abiMethod fun t => (fun a : Nat => Value.int IntKind.u8 (a : Int)) <$> Rtype.kind t) #[.pointer (some ⟨1, 55, none⟩)]).run Tryd.prog w = .ok (.int .u8 25) w := by kernel_rfl
theorem rlm (z : Sem Value) (f : TypeId → Addr → Nat → Nat → Sem Value) (v : Value) :
    ReflectliteValue.method z f #[v] = (do match ← ReflectliteValue.parts v with | none => z | some (t, a, fl) => f t a fl (fl % 32)) := rfl
theorem asv_partsP (a : Addr) (w : World) : (ReflectliteValue.parts (.agg #[.pointer (some ⟨1, 57, none⟩), .pointer (some a), .int .u64 150])).run Tryd.prog w = .ok (some (57, a, 150)) w := by kernel_rfl
theorem asv_isNilP (a p : Addr) (W : World) (ha : W.cell? a = some (.pointer (some p))) :
    (ReflectliteValue.method (ReflectliteValue.valueError "reflectlite.Value.IsNil" 0) ReflectliteValue.isNil #[.agg #[.pointer (some ⟨1, 57, none⟩), .pointer (some a), .int .u64 150]]).run Tryd.prog W = .ok (.bool false) W := by
  rw [rlm]
  simp only [Sem.run_bind, asv_partsP, Result.andThen]
  simp [ReflectliteValue.isNil, loadVar, isAgg, underlying, Tryd.underlying57, ha, Result.andThen]
theorem asv_mElem (h : Value) (w : World) : (Go.method 247 92 (.agg #[h]) "Elem").run Tryd.prog w = .ok (90, .agg #[h]) w := by kernel_rfl
theorem asv_mImplements (h : Value) (w : World) : (Go.method 247 92 (.agg #[h]) "Implements").run Tryd.prog w = .ok (91, .agg #[h]) w := by kernel_rfl
theorem asv_mAssignable (h : Value) (w : World) : (Go.method 247 92 (.agg #[h]) "AssignableTo").run Tryd.prog w = .ok (88, .agg #[h]) w := by kernel_rfl
theorem asv_elemT (w : World) : (ReflectliteType.method ReflectliteType.elem #[.agg #[.pointer (some ⟨1, 57, none⟩)]]).run Tryd.prog w = .ok (.iface 92 (.agg #[.pointer (some ⟨1, 55, none⟩)])) w := by kernel_rfl
theorem asv_implements (w : World) : (ReflectliteType.relation "Implements" ReflectliteType.implements_ #[.agg #[.pointer (some ⟨1, 55, none⟩)], .iface 92 (.agg #[.pointer (some ⟨1, 41, none⟩)])]).run Tryd.prog w = .ok (.bool true) w := by kernel_rfl
theorem asv_typeOf (v : Value) (w : World) : (ReflectliteType.typeOf #[.iface 55 v]).run Tryd.prog w = .ok (.iface 92 (.agg #[.pointer (some ⟨1, 55, none⟩)])) w := by kernel_rfl
theorem asv_assignable (w : World) : (ReflectliteType.relation "AssignableTo" ReflectliteType.assignableTo #[.agg #[.pointer (some ⟨1, 55, none⟩)], .iface 92 (.agg #[.pointer (some ⟨1, 55, none⟩)])]).run Tryd.prog w = .ok (.bool true) w := by kernel_rfl
theorem asv_valueN (s : ByteArray) (w : World) : (ReflectliteValue.unpack (.iface 55 (.agg #[.string s]))).run Tryd.prog w
    = .ok (.agg #[.pointer (some ⟨1, 55, none⟩), .pointer (some ⟨w.heap.size, 0, none⟩), .int .u64 153]) (w.alloc (.cells #[.string s] 55)) := by kernel_rfl
theorem asv_elemOf (w : World) : (Rtype.elem? 57).run Tryd.prog w = .ok (some 55) w := by kernel_rfl
theorem asv_mk (p : Addr) (w : World) : (ReflectliteValue.mk 55 p ReflectliteValue.flagAddr).run Tryd.prog w = .ok (.agg #[.pointer (some ⟨1, 55, none⟩), .pointer (some p), .int .u64 409]) w := by kernel_rfl
theorem asv_elemV (a p : Addr) (W : World) (ha : W.cell? a = some (.pointer (some p))) :
    (ReflectliteValue.method (ReflectliteValue.valueError "reflectlite.Value.Elem" 0) ReflectliteValue.elem #[.agg #[.pointer (some ⟨1, 57, none⟩), .pointer (some a), .int .u64 150]]).run Tryd.prog W
      = .ok (.agg #[.pointer (some ⟨1, 55, none⟩), .pointer (some p), .int .u64 409]) W := by
  rw [rlm]
  simp only [Sem.run_bind, asv_partsP, Result.andThen]
  simp [ReflectliteValue.elem, loadVar, isAgg, underlying, Tryd.underlying57, ha, Result.andThen, asv_elemOf, asv_mk]
theorem rls (v x : Value) : ReflectliteValue.set #[v, x] = (do
    let (some (dst, a, fl), some (src, b, _)) := (← ReflectliteValue.parts v, ← ReflectliteValue.parts x)
      | unsupported (.noEntry "extern/(internal/reflectlite.Value).Set.zeroValue")
    if fl / ReflectliteValue.flagAddr % 2 == 0 then unsupported (.noEntry "extern/(internal/reflectlite.Value).Set.unaddressable")
    let val ← loadVar src b
    if ← Rtype.directlyAssignable dst src then storeVar dst a val
    else if ← Rtype.implements dst src then
      if (← Rtype.kind src) == 20 then
        match val with
        | .nilIface => unsupported (.noEntry "extern/reflectlite: a nil value of one interface type handed on as a value of another")
        | _ => storeVar dst a val
      else storeVar dst a (.iface src val)
    else panicString ("reflectlite.Set: value of type " ++ (← Rtype.spelt src) ++ " is not assignable to type " ++ (← Rtype.spelt dst))
    pure (.tuple #[])) := rfl
theorem asv_partsA (a : Addr) (w : World) : (ReflectliteValue.parts (.agg #[.pointer (some ⟨1, 55, none⟩), .pointer (some a), .int .u64 409])).run Tryd.prog w = .ok (some (55, a, 409)) w := by kernel_rfl
theorem asv_partsN (a : Addr) (w : World) : (ReflectliteValue.parts (.agg #[.pointer (some ⟨1, 55, none⟩), .pointer (some a), .int .u64 153])).run Tryd.prog w = .ok (some (55, a, 153)) w := by kernel_rfl
theorem asv_direct (w : World) : (Rtype.directlyAssignable 55 55).run Tryd.prog w = .ok true w := by kernel_rfl
theorem asv_size (w : World) : (sizeOf 55).run Tryd.prog w = .ok 1 w := by kernel_rfl
theorem asv_isAgg (w : World) : (isAgg 55).run Tryd.prog w = .ok true w := by kernel_rfl
theorem asv_set (ta b : Addr) (s : ByteArray) (old : Value) (W : World) (hb : W.cell? b = some (.string s)) (ht : W.cell? ta = some old) (hf : W.frozen? ta = false) :
    (ReflectliteValue.set #[.agg #[.pointer (some ⟨1, 55, none⟩), .pointer (some ta), .int .u64 409], .agg #[.pointer (some ⟨1, 55, none⟩), .pointer (some b), .int .u64 153]]).run Tryd.prog W
      = .ok (.tuple #[]) (W.setCell ta (.string s)) := by
  rw [rls]
  simp only [Sem.run_bind, asv_partsA, asv_partsN, Result.andThen]
  simp [ReflectliteValue.flagAddr, loadVar, loadCells, loadCellsFrom, hb, Result.andThen, asv_direct, storeVar, Value.cells, storeCells, Addr.add]
  rw [run_store Tryd.prog W ta _ _ (by rfl)]
  simp [ht, hf]

/-- The variable errors.errorType holds the handle of the type error. -/
def Laid (w : World) : Prop := w.cell? ⟨0, 0, none⟩ = some (.iface 92 (.agg #[.pointer (some ⟨1, 41, none⟩)]))

set_option maxRecDepth 20000 in
set_option maxHeartbeats 4000000 in
theorem as_hit (s : ByteArray) (t : Addr) (old : Value) (w : World) (hg : Laid w) (ht0 : w.cell? t = some old) (hf0 : w.frozen? t = false) :
    Calls Tryd.prog 18 #[.iface 55 (.agg #[.string s]), .iface 57 (.pointer (some t))] w fun ev w' => ev = .returned (.bool true) ∧ w' = ((((w.alloc (.cells #[.pointer (some t)] 57)).alloc (.cells #[.pointer (some ⟨1, 57, none⟩), .pointer (some ⟨w.heap.size, 0, none⟩), .int .u64 150] 71)).alloc (.cells #[.pointer (some ⟨1, 57, none⟩), .pointer (some ⟨w.heap.size, 0, none⟩), .int .u64 150] 71)).alloc (.cells #[.string s] 55)).setCell t (.string s) := by
  unfold Laid at hg
  have h6 := @run_callFunc_extern Tryd.prog 30 _ (fun args => ReflectliteValue.unpack (args.getD 0 (.tuple #[]))) Tryd.func30 (by kernel_rfl) (by kernel_rfl) (by kernel_rfl) (by kernel_rfl)
  have h7 := @run_callFunc_extern Tryd.prog 31 _ (ReflectliteValue.methodAny (ReflectliteValue.valueError "reflectlite.Value.Type" 0) (fun t _ _ _ => ReflectliteType.toType t)) Tryd.func31 (by kernel_rfl) (by kernel_rfl) (by kernel_rfl) (by kernel_rfl)
  have h8 := @run_callFunc_extern Tryd.prog 32 _ (ReflectliteValue.method (ReflectliteValue.valueError "reflectlite.Value.IsNil" 0) ReflectliteValue.isNil) Tryd.func32 (by kernel_rfl) (by kernel_rfl) (by kernel_rfl) (by kernel_rfl)
  have h27 := @run_callFunc_extern Tryd.prog 77 _ (ReflectliteType.abiMethod fun t => do pure (.int .u8 (← Rtype.kind t))) Tryd.func77 (by kernel_rfl) (by kernel_rfl) (by kernel_rfl) (by kernel_rfl)
  have h37 := @run_callFunc_extern Tryd.prog 90 _ (ReflectliteType.method ReflectliteType.elem) Tryd.func90 (by kernel_rfl) (by kernel_rfl) (by kernel_rfl) (by kernel_rfl)
  have h38 := @run_callFunc_extern Tryd.prog 91 _ (ReflectliteType.relation "Implements" ReflectliteType.implements_) Tryd.func91 (by kernel_rfl) (by kernel_rfl) (by kernel_rfl) (by kernel_rfl)
  have h10 := @run_callFunc_extern Tryd.prog 45 _ ReflectliteType.typeOf Tryd.func45 (by kernel_rfl) (by kernel_rfl) (by kernel_rfl) (by kernel_rfl)
  have h35 := @run_callFunc_extern Tryd.prog 88 _ (ReflectliteType.relation "AssignableTo" ReflectliteType.assignableTo) Tryd.func88 (by kernel_rfl) (by kernel_rfl) (by kernel_rfl) (by kernel_rfl)
  have h11 := @run_callFunc_extern Tryd.prog 46 _ (ReflectliteValue.method (ReflectliteValue.valueError "reflectlite.Value.Elem" 0) ReflectliteValue.elem) Tryd.func46 (by kernel_rfl) (by kernel_rfl) (by kernel_rfl) (by kernel_rfl)
  have h12 := @run_callFunc_extern Tryd.prog 47 _ ReflectliteValue.set Tryd.func47 (by kernel_rfl) (by kernel_rfl) (by kernel_rfl) (by kernel_rfl)
  have tO := asv_typeOf
  have mA := asv_mAssignable
  have a25 := asv_assignable
  have v25 := asv_valueN
  have f6 := asv_valueP
  have f7 := asv_typeP
  have mK := asv_mKind
  have mE := asv_mElem
  have mI := asv_mImplements
  have k27 := asv_kindP
  have k25 := asv_kindN
  have e27 := asv_elemT
  have i25 := asv_implements
  have n8 := asv_isNilP ⟨w.heap.size, 0, none⟩ t ((w.alloc (.cells #[.pointer (some t)] 57)).alloc (.cells #[.pointer (some ⟨1, 57, none⟩), .pointer (some ⟨w.heap.size, 0, none⟩), .int .u64 150] 71)) (by simp)
  have hlt : 0 < w.heap.size := by
    rcases Nat.eq_zero_or_pos w.heap.size with h0 | h
    · simp [World.cell?, h0] at hg
    · exact h
  have hgl : 0 < w.heap.size := World.block_lt_of_cell? w _ hg
  have hg2 : ((w.alloc (.cells #[.pointer (some t)] 57)).alloc (.cells #[.pointer (some ⟨1, 57, none⟩), .pointer (some ⟨w.heap.size, 0, none⟩), .int .u64 150] 71)).cell? ⟨0, 0, none⟩ = some (.iface 92 (.agg #[.pointer (some ⟨1, 41, none⟩)])) := by
    rw [World.cell?_alloc_lt _ _ ⟨0, 0, none⟩ (by first | (simp; done) | (simp; omega)), World.cell?_alloc_lt _ _ ⟨0, 0, none⟩ hgl]; exact hg
  have htl : t.block < w.heap.size := by
    rcases Nat.lt_or_ge t.block w.heap.size with h | h
    · exact h
    · simp [World.cell?, Array.getElem?_eq_none h] at ht0
  have el := asv_elemV ⟨w.heap.size, 0, none⟩ t (((w.alloc (.cells #[.pointer (some t)] 57)).alloc (.cells #[.pointer (some ⟨1, 57, none⟩), .pointer (some ⟨w.heap.size, 0, none⟩), .int .u64 150] 71)).alloc (.cells #[.pointer (some ⟨1, 57, none⟩), .pointer (some ⟨w.heap.size, 0, none⟩), .int .u64 150] 71)) (by rw [World.cell?_alloc_lt _ _ ⟨w.heap.size, 0, none⟩ (by simp; omega), World.cell?_alloc_lt _ _ ⟨w.heap.size, 0, none⟩ (by simp), World.cell?_alloc_at _ _ _ _ rfl]; simp)
  have st := asv_set t ⟨w.heap.size + 1 + 1 + 1, 0, none⟩ s old ((((w.alloc (.cells #[.pointer (some t)] 57)).alloc (.cells #[.pointer (some ⟨1, 57, none⟩), .pointer (some ⟨w.heap.size, 0, none⟩), .int .u64 150] 71)).alloc (.cells #[.pointer (some ⟨1, 57, none⟩), .pointer (some ⟨w.heap.size, 0, none⟩), .int .u64 150] 71)).alloc (.cells #[.string s] 55))
    (by rw [World.cell?_alloc_at _ _ _ _ (by simp)]; rfl)
    (by rw [World.cell?_alloc_lt _ _ t (by simp; omega), World.cell?_alloc_lt _ _ t (by simp; omega), World.cell?_alloc_lt _ _ t (by simp; omega), World.cell?_alloc_lt _ _ t htl]; exact ht0)
    (by rw [World.frozen?_alloc_old _ _ t (by simp; omega), World.frozen?_alloc_old _ _ t (by simp; omega), World.frozen?_alloc_old _ _ t (by simp; omega), World.frozen?_alloc_old _ _ t (Nat.ne_of_lt htl)]; exact hf0)
  go_enter Tryd.func18, Tryd.ntmps18
  go_wp2
  refine wp_loop_rounds 1 ?_
  rw [rounds_succ]
  go_wp2
  go_ret
  exact ⟨rfl, rfl⟩

theorem Laid.acc {w W : World} (h : Laid w) (a : Acc w W) : Laid W :=
  (Below.cell a (p := ⟨0, 0, none⟩) (World.block_lt_of_cell? w _ h)).trans h

/-- An error that says that something is none. -/
def errV (s : ByteArray) : Value := .iface 55 (.agg #[.string s])

theorem noFrac_any (w : World) : Calls Tryd.prog 57 #[] w fun e w' => ∃ s, e = .returned (.iface 55 (.agg #[.string s])) ∧ w = w' := by
  go_enter Tryd.func57, Tryd.ntmps57
  go_wp2
  go_ret
  exact ⟨_, rfl, rfl⟩
theorem isNone_nil (w : World) : Calls Tryd.prog 10 #[.nilIface] w fun e w' => e = .returned (.bool false) ∧ Below w.heap.size w w' := by
  go_enter Tryd.func10, Tryd.ntmps10
  go_wp2_with fail
  refine (as_nil _ _).mono ?_
  rintro e w1 ⟨rfl, rfl⟩
  go_wp2_with fail
  go_ret
  exact ⟨rfl, (Below.refl _ _).alloc (Nat.le_refl _) _⟩
theorem isNone_hit (s : ByteArray) (w : World) (hl : Laid w) : Calls Tryd.prog 10 #[.iface 55 (.agg #[.string s])] w fun e w' => e = .returned (.bool true) ∧ Below w.heap.size w w' := by
  have hA : ∀ o, Laid (w.alloc o) := fun o => hl.acc ((Acc.refl w).alloc o)
  go_enter Tryd.func10, Tryd.ntmps10
  go_wp2_with fail
  refine (as_hit s ⟨w.heap.size, 0, none⟩ _ _ (hA _) (by rw [World.cell?_alloc_at _ _ _ _ rfl]; rfl) (by simp)).mono ?_
  rintro e w1 ⟨rfl, rfl⟩
  go_wp2_with fail
  go_ret
  refine ⟨rfl, ?_⟩
  show Acc w _
  (repeat' (first | assumption | exact Acc.refl _ | refine Acc.drew ?_ | refine Acc.alloc ?_ _ | refine Acc.setCell ?_ (by omega) _))
theorem tmod_range {x y : Int} (h : y ≠ 0) (hy : -9223372036854775808 ≤ y ∧ y ≤ 9223372036854775807) : -9223372036854775807 ≤ x.tmod y ∧ x.tmod y ≤ 9223372036854775807 := by
  have := tmod_bound x y h
  omega
set_option maxHeartbeats 1000000 in
theorem divisor_any (a b : Int) (w : World) (ha : 1 ≤ a ∧ a ≤ 9223372036854775807) (hb : i64B b) :
    Calls Tryd.prog 61 #[.int .i64 a, .int .i64 b] w fun e w' => e = .returned (.int .i64 (Int.gcd a b)) ∧ Bare w w' := by
  obtain ⟨ha1, ha2⟩ := ha
  obtain ⟨hb1, hb2⟩ := hb
  have HL : Hid ((Int.gcd a b : Int) ≤ 9223372036854775807) := Lib.hid (by have := gcd_le_of (b := b) (m := 9223372036854775807) (show 0 < a by omega) (by omega); omega)
  go_enter Tryd.func61, Tryd.ntmps61
  go_wp2
  go_loopw [0, 1] (fun u v W => ∃ x y : Int, u = .int .i64 x ∧ v = .int .i64 y ∧ -9223372036854775808 ≤ x ∧ x ≤ 9223372036854775807 ∧ -9223372036854775808 ≤ y ∧ y ≤ 9223372036854775807 ∧ Hid (Int.gcd x y = Int.gcd a b) ∧ Bare w W) (fun _ v _ => (intOf v).natAbs)
  case atStart => exact ⟨a, b, rfl, rfl, by omega, ha2, hb1, hb2, Lib.hid rfl, fun _ => Below.refl _ _⟩
  case round =>
    obtain ⟨x, y, rfl, rfl, hx1, hx2, hy1, hy2, hg, hB⟩ := hrel
    have HBa := Lib.hid hB
    clear ha1 ha2 hb1 hb2 hB
    by_cases h0 : y = 0
    · subst h0
      have hg' := hg.out
      have hl := HL.out
      rw [Int.gcd_zero_right] at hg'
      have hx3 : -9223372036854775807 ≤ x := by omega
      have HG := Lib.hid hg'
      clear hg hg' hl
      go_wp2
      all_goals
        go_ret
        have hg := HG.out
        exact ⟨ret_int (by omega), HBa.out⟩
    · have hb := Lib.hid (tmod_bound x y h0)
      obtain ⟨hr1, hr2⟩ := tmod_range (x := x) h0 ⟨hy1, hy2⟩
      go_wp2
      go_quiet (fail)
      go_wp2
      go_roundw
      case rel =>
        have hb' := hb.out
        have h3 := gcd_step x y
        have hB' := HBa.out
        generalize x.tmod y = r at *
        exact ⟨y, r, rfl, rfl, hy1, hy2, by omega, by omega, Lib.hid (h3.trans hg.out), hB'.trans (bare_drewN _ _)⟩
      case measure => exact hb.out
theorem partFits_of (n : Int) (b : Bool) (h : partB n = b) (w : World) :
    Calls Tryd.prog 62 #[.int .i64 n] w fun e w' => e = .returned (.bool b) ∧ w' = w := by
  by_cases h1 : -2000000000 ≤ n
  · by_cases h2 : n ≤ 2000000000
    · obtain rfl : b = true := by rw [← h]; simp [partB, inB, h1, h2]
      clear h
      go_enter Tryd.func62, Tryd.ntmps62
      go_wp2
      go_ret
      exact ⟨rfl, rfl⟩
    · obtain rfl : b = false := by rw [← h]; simp [partB, inB, h1, h2]
      clear h
      go_enter Tryd.func62, Tryd.ntmps62
      go_wp2
      go_ret
      exact ⟨rfl, rfl⟩
  · obtain rfl : b = false := by rw [← h]; simp [partB, inB, h1]
    clear h
    go_enter Tryd.func62, Tryd.ntmps62
    go_wp2
    go_ret
    exact ⟨rfl, rfl⟩
/-- A fraction and no error, or the zero value and an error. -/
def Erred (o : Option (Int × Int × Int)) (w : World) (e : Ending) (w' : World) : Prop :=
  (∀ x y z, o = some (x, y, z) → e = .returned (.tuple #[.agg #[.int .i64 x, .int .i64 y, .int .i64 z], .nilIface])) ∧ (o = none → ∃ s, e = .returned (.tuple #[.agg #[.int .i64 0, .int .i64 0, .int .i64 0], .iface 55 (.agg #[.string s])])) ∧ Below w.heap.size w w'
set_option maxHeartbeats 2000000 in
theorem lowest_any (re im den : Int) (w : World) (h1 : i64B re) (h2 : i64B im) (h3 : i64B den) :
    Calls Tryd.prog 56 #[.int .i64 re, .int .i64 im, .int .i64 den] w (Erred (lowE re im den) w) := by
  obtain ⟨h1a, h1b⟩ := h1
  obtain ⟨h2a, h2b⟩ := h2
  obtain ⟨h3a, h3b⟩ := h3
  by_cases hd1 : den < 1
  · have e : lowE re im den = none := by unfold lowE; rw [if_pos hd1]
    rw [e]; clear e
    go_enter Tryd.func56, Tryd.ntmps56
    go_wp2_with fail
    refine (noFrac_any _).mono ?_
    rintro e w1 ⟨s, rfl, rfl⟩
    go_wp2_with fail
    refine bodyPost_ret (v := .tuple #[.agg #[.int .i64 0, .int .i64 0, .int .i64 0], .iface 55 (.agg #[.string s])]) (by simp [results, Tryd.results56, go_sem, World.cell?_alloc_at]) rfl ?_
    refine ⟨fun _ _ _ h => (by cases h), fun _ => ⟨_, rfl⟩, ?_⟩
    show Acc w _
    (repeat' (first | assumption | exact Acc.refl _ | refine Acc.drew ?_ | refine Acc.alloc ?_ _ | refine Acc.setCell ?_ (by omega) _))
  obtain ⟨g, hg⟩ : ∃ g : Nat, Int.gcd den re = g := ⟨_, rfl⟩
  obtain ⟨k, hk⟩ : ∃ k : Nat, Int.gcd g im = k := ⟨_, rfl⟩
  have e3 : gcd3 re im den = k := by unfold gcd3; rw [hg, hk]
  have k1 : 0 < k := e3 ▸ gcd3_pos (by omega)
  have g0 : 0 < g := hg ▸ Int.gcd_pos_of_ne_zero_left _ (by omega)
  have g1 : g ≤ 9223372036854775807 := hg ▸ gcd_le_of (by omega) (by omega)
  have C1 : ∀ w, _ := fun w => divisor_any den re w (by omega) ⟨h1a, h1b⟩
  have C2 : ∀ w, _ := fun w => divisor_any g im w (by omega) ⟨h2a, h2b⟩
  rw [hg] at C1
  rw [hk] at C2
  have e4 : lowE re im den = if (partB (re.tdiv k) && partB (im.tdiv k) && decide (den / (k : Int) ≤ 2000000000)) = true then some (re.tdiv k, im.tdiv k, den / (k : Int)) else none := by
    unfold lowE
    rw [if_neg hd1, lowF_eq (by omega), e3]
  obtain ⟨r, hr⟩ : ∃ r, re.tdiv (k : Int) = r := ⟨_, rfl⟩
  obtain ⟨i, hi⟩ : ∃ i, im.tdiv (k : Int) = i := ⟨_, rfl⟩
  obtain ⟨d, hd⟩ : ∃ d, den / (k : Int) = d := ⟨_, rfl⟩
  rw [hr, hi, hd] at e4
  rw [e4]
  have D1 := Lib.hid C1
  have D2 := Lib.hid C2
  have HR := Lib.hid hr
  have HI := Lib.hid hi
  have HD := Lib.hid hd
  clear hr hi hd
  clear C1 C2 e3 e4 hg hk
  have hk0 : ((k : Int) == 0) = false := by simp; omega
  cases p1 : partB r with
  | false =>
    have P1 := Lib.hid p1
    clear p1
    simp only [Bool.false_and, Bool.false_eq_true, if_false]
    go_enter Tryd.func56, Tryd.ntmps56
    go_wp2_with fail
    refine (D1.out _).mono ?_
    rintro e w1 ⟨rfl, hb⟩
    have haw1 : Acc w w1 := Acc.call ((Acc.refl w).alloc _) (hb _)
    obtain ⟨r0, r1, r2⟩ := keep3 (hb _) (b := w.heap.size) (x := .int .i64 0) (y := .int .i64 0) (z := .int .i64 0) (by go_simp)
    obtain ⟨f0, f1, f2⟩ := keepf3 (hb _) (b := w.heap.size) (by go_simp) (by go_simp)
    have k0 := r0
    clear hb
    go_wp2_with fail
    refine (D2.out _).mono ?_
    rintro e w2 ⟨rfl, hb⟩
    have haw2 : Acc w w2 := Acc.call haw1 (hb _)
    obtain ⟨r0, r1, r2⟩ := keep3 (hb _) (b := w.heap.size) (x := .int .i64 0) (y := .int .i64 0) (z := .int .i64 0) (by go_simp)
    obtain ⟨f0, f1, f2⟩ := keepf3 (hb _) (b := w.heap.size) (World.block_lt_of_cell? _ _ (show w1.cell? ⟨w.heap.size, 0, none⟩ = _ from k0)) ⟨f0, f1, f2⟩
    have kz : w.heap.size < w2.heap.size := World.block_lt_of_cell? _ _ r0
    clear hb haw1 k0
    go_wp2_with fail
    go_region
    go_wp2_with fail
    rw [HR.out, HI.out, HD.out]
    refine (partFits_of r false P1.out _).mono ?_
    rintro e w3 ⟨rfl, rfl⟩
    go_wp2_with fail
    refine (noFrac_any _).mono ?_
    rintro e w3 ⟨s, rfl, rfl⟩
    go_wp2_with fail
    refine bodyPost_ret (v := .tuple #[.agg #[.int .i64 0, .int .i64 0, .int .i64 0], .iface 55 (.agg #[.string s])]) (by simp [results, Tryd.results56, go_sem, r0, r1, r2, kz]) rfl ?_
    refine ⟨fun _ _ _ h => (by cases h), fun _ => ⟨_, rfl⟩, ?_⟩
    show Acc w _
    (repeat' (first | assumption | exact Acc.refl _ | refine Acc.drew ?_ | refine Acc.alloc ?_ _ | refine Acc.setCell ?_ (by omega) _))
  | true =>
  have P1 := Lib.hid p1
  clear p1
  cases p2 : partB i with
  | false =>
    have P2 := Lib.hid p2
    clear p2
    simp only [Bool.and_false, Bool.false_and, Bool.false_eq_true, if_false]
    go_enter Tryd.func56, Tryd.ntmps56
    go_wp2_with fail
    refine (D1.out _).mono ?_
    rintro e w1 ⟨rfl, hb⟩
    have haw1 : Acc w w1 := Acc.call ((Acc.refl w).alloc _) (hb _)
    obtain ⟨r0, r1, r2⟩ := keep3 (hb _) (b := w.heap.size) (x := .int .i64 0) (y := .int .i64 0) (z := .int .i64 0) (by go_simp)
    obtain ⟨f0, f1, f2⟩ := keepf3 (hb _) (b := w.heap.size) (by go_simp) (by go_simp)
    have k0 := r0
    clear hb
    go_wp2_with fail
    refine (D2.out _).mono ?_
    rintro e w2 ⟨rfl, hb⟩
    have haw2 : Acc w w2 := Acc.call haw1 (hb _)
    obtain ⟨r0, r1, r2⟩ := keep3 (hb _) (b := w.heap.size) (x := .int .i64 0) (y := .int .i64 0) (z := .int .i64 0) (by go_simp)
    obtain ⟨f0, f1, f2⟩ := keepf3 (hb _) (b := w.heap.size) (World.block_lt_of_cell? _ _ (show w1.cell? ⟨w.heap.size, 0, none⟩ = _ from k0)) ⟨f0, f1, f2⟩
    have kz : w.heap.size < w2.heap.size := World.block_lt_of_cell? _ _ r0
    clear hb haw1 k0
    go_wp2_with fail
    go_region
    go_wp2_with fail
    rw [HR.out, HI.out, HD.out]
    refine (partFits_of r true P1.out _).mono ?_
    rintro e w3 ⟨rfl, rfl⟩
    go_wp2_with fail
    refine (partFits_of i false P2.out _).mono ?_
    rintro e w3 ⟨rfl, rfl⟩
    go_wp2_with fail
    refine (noFrac_any _).mono ?_
    rintro e w3 ⟨s, rfl, rfl⟩
    go_wp2_with fail
    refine bodyPost_ret (v := .tuple #[.agg #[.int .i64 0, .int .i64 0, .int .i64 0], .iface 55 (.agg #[.string s])]) (by simp [results, Tryd.results56, go_sem, r0, r1, r2, kz]) rfl ?_
    refine ⟨fun _ _ _ h => (by cases h), fun _ => ⟨_, rfl⟩, ?_⟩
    show Acc w _
    (repeat' (first | assumption | exact Acc.refl _ | refine Acc.drew ?_ | refine Acc.alloc ?_ _ | refine Acc.setCell ?_ (by omega) _))
  | true =>
  have P2 := Lib.hid p2
  clear p2
  by_cases p3 : d ≤ 2000000000
  · rw [if_pos (by simp [p3])]
    go_enter Tryd.func56, Tryd.ntmps56
    go_wp2_with fail
    refine (D1.out _).mono ?_
    rintro e w1 ⟨rfl, hb⟩
    have haw1 : Acc w w1 := Acc.call ((Acc.refl w).alloc _) (hb _)
    obtain ⟨r0, r1, r2⟩ := keep3 (hb _) (b := w.heap.size) (x := .int .i64 0) (y := .int .i64 0) (z := .int .i64 0) (by go_simp)
    obtain ⟨f0, f1, f2⟩ := keepf3 (hb _) (b := w.heap.size) (by go_simp) (by go_simp)
    have k0 := r0
    clear hb
    go_wp2_with fail
    refine (D2.out _).mono ?_
    rintro e w2 ⟨rfl, hb⟩
    have haw2 : Acc w w2 := Acc.call haw1 (hb _)
    obtain ⟨r0, r1, r2⟩ := keep3 (hb _) (b := w.heap.size) (x := .int .i64 0) (y := .int .i64 0) (z := .int .i64 0) (by go_simp)
    obtain ⟨f0, f1, f2⟩ := keepf3 (hb _) (b := w.heap.size) (World.block_lt_of_cell? _ _ (show w1.cell? ⟨w.heap.size, 0, none⟩ = _ from k0)) ⟨f0, f1, f2⟩
    have kz : w.heap.size < w2.heap.size := World.block_lt_of_cell? _ _ r0
    clear hb haw1 k0
    go_wp2_with fail
    go_region
    go_wp2_with fail
    rw [HR.out, HI.out, HD.out]
    refine (partFits_of r true P1.out _).mono ?_
    rintro e w3 ⟨rfl, rfl⟩
    go_wp2_with fail
    refine (partFits_of i true P2.out _).mono ?_
    rintro e w3 ⟨rfl, rfl⟩
    go_wp2_with fail
    refine bodyPost_ret (v := .tuple #[.agg #[.int .i64 r, .int .i64 i, .int .i64 d], .nilIface]) (by simp [results, Tryd.results56, go_sem, r0, r1, r2, kz]) rfl ?_
    refine ⟨fun _ _ _ h => (by cases h; rfl), fun h => (by cases h), ?_⟩
    show Acc w _
    (repeat' (first | assumption | exact Acc.refl _ | refine Acc.drew ?_ | refine Acc.alloc ?_ _ | refine Acc.setCell ?_ (by omega) _))
  · rw [if_neg (by simp [p3])]
    go_enter Tryd.func56, Tryd.ntmps56
    go_wp2_with fail
    refine (D1.out _).mono ?_
    rintro e w1 ⟨rfl, hb⟩
    have haw1 : Acc w w1 := Acc.call ((Acc.refl w).alloc _) (hb _)
    obtain ⟨r0, r1, r2⟩ := keep3 (hb _) (b := w.heap.size) (x := .int .i64 0) (y := .int .i64 0) (z := .int .i64 0) (by go_simp)
    obtain ⟨f0, f1, f2⟩ := keepf3 (hb _) (b := w.heap.size) (by go_simp) (by go_simp)
    have k0 := r0
    clear hb
    go_wp2_with fail
    refine (D2.out _).mono ?_
    rintro e w2 ⟨rfl, hb⟩
    have haw2 : Acc w w2 := Acc.call haw1 (hb _)
    obtain ⟨r0, r1, r2⟩ := keep3 (hb _) (b := w.heap.size) (x := .int .i64 0) (y := .int .i64 0) (z := .int .i64 0) (by go_simp)
    obtain ⟨f0, f1, f2⟩ := keepf3 (hb _) (b := w.heap.size) (World.block_lt_of_cell? _ _ (show w1.cell? ⟨w.heap.size, 0, none⟩ = _ from k0)) ⟨f0, f1, f2⟩
    have kz : w.heap.size < w2.heap.size := World.block_lt_of_cell? _ _ r0
    clear hb haw1 k0
    go_wp2_with fail
    go_region
    go_wp2_with fail
    rw [HR.out, HI.out, HD.out]
    refine (partFits_of r true P1.out _).mono ?_
    rintro e w3 ⟨rfl, rfl⟩
    go_wp2_with fail
    refine (partFits_of i true P2.out _).mono ?_
    rintro e w3 ⟨rfl, rfl⟩
    go_wp2_with fail
    refine (noFrac_any _).mono ?_
    rintro e w3 ⟨s, rfl, rfl⟩
    go_wp2_with fail
    refine bodyPost_ret (v := .tuple #[.agg #[.int .i64 0, .int .i64 0, .int .i64 0], .iface 55 (.agg #[.string s])]) (by simp [results, Tryd.results56, go_sem, r0, r1, r2, kz]) rfl ?_
    refine ⟨fun _ _ _ h => (by cases h), fun _ => ⟨_, rfl⟩, ?_⟩
    show Acc w _
    (repeat' (first | assumption | exact Acc.refl _ | refine Acc.drew ?_ | refine Acc.alloc ?_ _ | refine Acc.setCell ?_ (by omega) _))

/-- No error if it is one, else an error. -/
def Checked (k : Bool) (w : World) (e : Ending) (w' : World) : Prop :=
  (k = true → e = .returned .nilIface) ∧ (k = false → ∃ s, e = .returned (.iface 55 (.agg #[.string s]))) ∧ Below w.heap.size w w'
set_option maxHeartbeats 2000000 in
theorem check_any (x y z : Int) (w : World) (hx : i64B x) (hy : i64B y) (hz : i64B z) :
    Calls Tryd.prog 48 #[.agg #[.int .i64 x, .int .i64 y, .int .i64 z]] w (Checked (okF x y z) w) := by
  cases ho : okF x y z with
  | true =>
    have hl := okF_low.1 ho
    have HL := Lib.hid hl
    clear ho hl
    go_enter Tryd.func48, Tryd.ntmps48
    go_wp2_with fail
    refine (lowest_any x y z _ hx hy hz).mono ?_
    rintro e w1 ⟨h1, -, hb⟩
    obtain rfl := h1 _ _ _ HL.out
    clear h1
    obtain ⟨q00, q01, q02⟩ := keep3 hb (b := w.heap.size) (x := .int .i64 x) (y := .int .i64 y) (z := .int .i64 z) (by go_simp)
    have kb0 : w.heap.size < w1.heap.size := World.block_lt_of_cell? _ _ q00
    have haw1 : Acc w w1 := by
      refine Acc.call ?_ hb
      (repeat' (first | assumption | exact Acc.refl _ | refine Acc.drew ?_ | refine Acc.alloc ?_ _ | refine Acc.setCell ?_ (by omega) _))
    clear hb
    go_wp2_with fail
    go_ret
    exact ⟨fun _ => rfl, fun h => (by cases h), haw1.alloc _⟩
  | false =>
    have HN : lowE x y z ≠ some (x, y, z) := fun h => (by rw [okF_low.2 h] at ho; cases ho)
    clear ho
    cases hl : lowE x y z with
    | none =>
      have HL := Lib.hid hl
      clear hl HN
      go_enter Tryd.func48, Tryd.ntmps48
      go_wp2_with fail
      refine (lowest_any x y z _ hx hy hz).mono ?_
      rintro e w1 ⟨-, h1, hb⟩
      obtain ⟨s, rfl⟩ := h1 HL.out
      clear h1
      obtain ⟨q00, q01, q02⟩ := keep3 hb (b := w.heap.size) (x := .int .i64 x) (y := .int .i64 y) (z := .int .i64 z) (by go_simp)
      have kb0 : w.heap.size < w1.heap.size := World.block_lt_of_cell? _ _ q00
      have haw1 : Acc w w1 := by
        refine Acc.call ?_ hb
        (repeat' (first | assumption | exact Acc.refl _ | refine Acc.drew ?_ | refine Acc.alloc ?_ _ | refine Acc.setCell ?_ (by omega) _))
      clear hb
      go_wp2_with fail
      refine (noFrac_any _).mono ?_
      rintro e w2 ⟨s, rfl, rfl⟩
      go_wp2_with fail
      go_ret
      exact ⟨fun h => (by cases h), fun _ => ⟨_, rfl⟩, haw1.alloc _⟩
    | some v =>
      obtain ⟨p, q, r⟩ := v
      have HL := Lib.hid hl
      have hne : (x == p && y == q && z == r) = false := by
        cases hh : (x == p && y == q && z == r) with
        | false => rfl
        | true =>
          simp only [Bool.and_eq_true, beq_iff_eq] at hh
          obtain ⟨⟨rfl, rfl⟩, rfl⟩ := hh
          exact absurd hl HN
      have NE := Lib.hid hne
      clear hl HN hne
      go_enter Tryd.func48, Tryd.ntmps48
      go_wp2_with fail
      refine (lowest_any x y z _ hx hy hz).mono ?_
      rintro e w1 ⟨h1, -, hb⟩
      obtain rfl := h1 _ _ _ HL.out
      clear h1
      obtain ⟨q00, q01, q02⟩ := keep3 hb (b := w.heap.size) (x := .int .i64 x) (y := .int .i64 y) (z := .int .i64 z) (by go_simp)
      have kb0 : w.heap.size < w1.heap.size := World.block_lt_of_cell? _ _ q00
      have haw1 : Acc w w1 := by
        refine Acc.call ?_ hb
        (repeat' (first | assumption | exact Acc.refl _ | refine Acc.drew ?_ | refine Acc.alloc ?_ _ | refine Acc.setCell ?_ (by omega) _))
      clear hb
      go_wp2_with fail
      all_goals
        first
          | (exfalso; have hne := NE.out; simp only [Bool.and_eq_false_iff, beq_eq_false_iff_ne] at hne; omega)
          | (refine (noFrac_any _).mono ?_
             rintro e w2 ⟨s, rfl, rfl⟩
             go_wp2_with fail
             go_ret
             exact ⟨fun h => (by cases h), fun _ => ⟨_, rfl⟩, haw1.alloc _⟩)
set_option maxHeartbeats 2000000 in
theorem checkBoth_any (x y z a b c : Int) (w : World) (hx : i64B x) (hy : i64B y) (hz : i64B z) (ha : i64B a) (hb : i64B b) (hc : i64B c) :
    Calls Tryd.prog 59 #[.agg #[.int .i64 x, .int .i64 y, .int .i64 z], .agg #[.int .i64 a, .int .i64 b, .int .i64 c]] w (Checked (okF x y z && okF a b c) w) := by
  have hb' := hb
  clear hb
  cases ho : okF x y z with
  | false =>
    have HO := Lib.hid ho
    clear ho
    simp only [Bool.false_and]
    go_enter Tryd.func59, Tryd.ntmps59
    go_wp2_with fail
    refine (check_any x y z _ hx hy hz).mono ?_
    rintro e w1 ⟨-, h1, hb⟩
    obtain ⟨s, rfl⟩ := h1 HO.out
    clear h1
    obtain ⟨q00, q01, q02⟩ := keep3 hb (b := w.heap.size) (x := .int .i64 x) (y := .int .i64 y) (z := .int .i64 z) (by go_simp)
    have kb0 : w.heap.size < w1.heap.size := World.block_lt_of_cell? _ _ q00
    obtain ⟨q10, q11, q12⟩ := keep3 hb (b := w.heap.size + 1) (x := .int .i64 a) (y := .int .i64 b) (z := .int .i64 c) (by go_simp)
    have kb1 : w.heap.size + 1 < w1.heap.size := World.block_lt_of_cell? _ _ q10
    have haw1 : Acc w w1 := by
      refine Acc.call ?_ hb
      (repeat' (first | assumption | exact Acc.refl _ | refine Acc.drew ?_ | refine Acc.alloc ?_ _ | refine Acc.setCell ?_ (by omega) _))
    clear hb
    go_wp2_with fail
    go_ret
    exact ⟨fun h => (by cases h), fun _ => ⟨_, rfl⟩, haw1⟩
  | true =>
    have HO := Lib.hid ho
    clear ho
    simp only [Bool.true_and]
    go_enter Tryd.func59, Tryd.ntmps59
    go_wp2_with fail
    refine (check_any x y z _ hx hy hz).mono ?_
    rintro e w1 ⟨h1, -, hb⟩
    obtain rfl := h1 HO.out
    clear h1
    obtain ⟨q00, q01, q02⟩ := keep3 hb (b := w.heap.size) (x := .int .i64 x) (y := .int .i64 y) (z := .int .i64 z) (by go_simp)
    have kb0 : w.heap.size < w1.heap.size := World.block_lt_of_cell? _ _ q00
    obtain ⟨q10, q11, q12⟩ := keep3 hb (b := w.heap.size + 1) (x := .int .i64 a) (y := .int .i64 b) (z := .int .i64 c) (by go_simp)
    have kb1 : w.heap.size + 1 < w1.heap.size := World.block_lt_of_cell? _ _ q10
    have haw1 : Acc w w1 := by
      refine Acc.call ?_ hb
      (repeat' (first | assumption | exact Acc.refl _ | refine Acc.drew ?_ | refine Acc.alloc ?_ _ | refine Acc.setCell ?_ (by omega) _))
    clear hb
    go_wp2_with fail
    refine (check_any a b c _ ha hb' hc).mono ?_
    rintro e w2 ⟨h1, h2, hb⟩
    have haw2 : Acc w w2 := by
      refine Acc.call ?_ hb
      (repeat' (first | assumption | exact Acc.refl _ | refine Acc.drew ?_ | refine Acc.alloc ?_ _ | refine Acc.setCell ?_ (by omega) _))
    clear hb
    cases ho2 : okF a b c with
    | true =>
      obtain rfl := h1 ho2
      clear h1 h2
      go_wp2_with fail
      go_ret
      exact ⟨fun _ => rfl, fun h => (by rw [ho2] at h; cases h), haw2⟩
    | false =>
      obtain ⟨s, rfl⟩ := h2 ho2
      clear h1 h2
      go_wp2_with fail
      go_ret
      exact ⟨fun h => (by rw [ho2] at h; cases h), fun _ => ⟨_, rfl⟩, haw2⟩
set_option maxHeartbeats 2000000 in
theorem plus_any (x y z a b c : Int) (w : World) (hx : i64B x) (hy : i64B y) (hz : i64B z) (ha : i64B a) (hb : i64B b) (hc : i64B c) :
    Calls Tryd.prog 60 #[.agg #[.int .i64 x, .int .i64 y, .int .i64 z], .agg #[.int .i64 a, .int .i64 b, .int .i64 c]] w (Erred (sumF 1 x y z a b c) w) := by
  have hb' := hb
  clear hb
  cases hk : (okF x y z && okF a b c) with
  | false =>
    have e : sumF 1 x y z a b c = none := by unfold sumF; rw [hk]; rfl
    rw [e]
    have HK := Lib.hid hk
    clear hk e
    go_enter Tryd.func60, Tryd.ntmps60
    go_wp2_with fail
    refine (checkBoth_any x y z a b c _ hx hy hz ha hb' hc).mono ?_
    rintro e w1 ⟨-, h1, hb⟩
    obtain ⟨s, rfl⟩ := h1 HK.out
    clear h1
    obtain ⟨q00, q01, q02⟩ := keep3 hb (b := w.heap.size) (x := .int .i64 x) (y := .int .i64 y) (z := .int .i64 z) (by go_simp)
    have kb0 : w.heap.size < w1.heap.size := World.block_lt_of_cell? _ _ q00
    obtain ⟨q10, q11, q12⟩ := keep3 hb (b := w.heap.size + 1) (x := .int .i64 a) (y := .int .i64 b) (z := .int .i64 c) (by go_simp)
    have kb1 : w.heap.size + 1 < w1.heap.size := World.block_lt_of_cell? _ _ q10
    obtain ⟨r0, r1, r2⟩ := keep3 hb (b := w.heap.size + 1 + 1) (x := .int .i64 0) (y := .int .i64 0) (z := .int .i64 0) (by go_simp)
    have kz : w.heap.size + 1 + 1 < w1.heap.size := World.block_lt_of_cell? _ _ r0
    obtain ⟨f0, f1, f2⟩ := keepf3 hb (b := w.heap.size + 1 + 1) (by go_simp) (by go_simp)
    have haw1 : Acc w w1 := by
      refine Acc.call ?_ hb
      (repeat' (first | assumption | exact Acc.refl _ | refine Acc.drew ?_ | refine Acc.alloc ?_ _ | refine Acc.setCell ?_ (by omega) _))
    clear hb
    go_wp2_with fail
    refine bodyPost_ret (v := .tuple #[.agg #[.int .i64 0, .int .i64 0, .int .i64 0], .iface 55 (.agg #[.string s])]) (by simp [results, Tryd.results60, go_sem, r0, r1, r2]) rfl ?_
    refine ⟨fun _ _ _ h => (by cases h), fun _ => ⟨_, rfl⟩, ?_⟩
    show Acc w _
    (repeat' (first | assumption | exact Acc.refl _ | refine Acc.drew ?_ | refine Acc.alloc ?_ _ | refine Acc.setCell ?_ (by omega) _))
  | true =>
    obtain ⟨k1, k2⟩ : okF x y z = true ∧ okF a b c = true := by simpa using hk
    obtain ⟨⟨x0, x1⟩, ⟨y0, y1⟩, ⟨z0, z1⟩⟩ := okF_bd k1
    obtain ⟨⟨a0, a1⟩, ⟨b0, b1⟩, ⟨c0, c1⟩⟩ := okF_bd k2
    have m1 := mul_bd (a := x) (b := c) (m := 2000000000) (n := 2000000000) (by omega) (by omega) (by omega) (by omega)
    have m2 := mul_bd (a := a) (b := z) (m := 2000000000) (n := 2000000000) (by omega) (by omega) (by omega) (by omega)
    have m3 := mul_bd (a := y) (b := c) (m := 2000000000) (n := 2000000000) (by omega) (by omega) (by omega) (by omega)
    have m4 := mul_bd (a := b) (b := z) (m := 2000000000) (n := 2000000000) (by omega) (by omega) (by omega) (by omega)
    have m5 := mul_bd (a := z) (b := c) (m := 2000000000) (n := 2000000000) (by omega) (by omega) (by omega) (by omega)
    have m6 : 1 ≤ z * c := by have := Int.mul_le_mul (a := 1) (b := 1) (c := z) (d := c) (by omega) (by omega) (by omega) (by omega); omega
    have N1 : -4000000000000000000 ≤ x * c := by omega
    have N2 : x * c ≤ 4000000000000000000 := by omega
    have N3 : -4000000000000000000 ≤ a * z := by omega
    have N4 : a * z ≤ 4000000000000000000 := by omega
    have N5 : -4000000000000000000 ≤ y * c := by omega
    have N6 : y * c ≤ 4000000000000000000 := by omega
    have N7 : -4000000000000000000 ≤ b * z := by omega
    have N8 : b * z ≤ 4000000000000000000 := by omega
    have N9 : z * c ≤ 4000000000000000000 := by omega
    clear m1 m2 m3 m4 m5
    have e : sumF 1 x y z a b c = lowE (x * c + a * z) (y * c + b * z) (z * c) := by
      unfold sumF lowE
      rw [hk, if_neg (show ¬ z * c < 1 by omega)]
      simp only [if_true, Int.one_mul]
    rw [e]
    have HK := Lib.hid hk
    clear hk k1 k2 e
    go_enter Tryd.func60, Tryd.ntmps60
    go_wp2_with fail
    refine (checkBoth_any x y z a b c _ hx hy hz ha hb' hc).mono ?_
    rintro e w1 ⟨h1, -, hb⟩
    obtain rfl := h1 HK.out
    clear h1
    obtain ⟨q00, q01, q02⟩ := keep3 hb (b := w.heap.size) (x := .int .i64 x) (y := .int .i64 y) (z := .int .i64 z) (by go_simp)
    have kb0 : w.heap.size < w1.heap.size := World.block_lt_of_cell? _ _ q00
    obtain ⟨q10, q11, q12⟩ := keep3 hb (b := w.heap.size + 1) (x := .int .i64 a) (y := .int .i64 b) (z := .int .i64 c) (by go_simp)
    have kb1 : w.heap.size + 1 < w1.heap.size := World.block_lt_of_cell? _ _ q10
    obtain ⟨r0, r1, r2⟩ := keep3 hb (b := w.heap.size + 1 + 1) (x := .int .i64 0) (y := .int .i64 0) (z := .int .i64 0) (by go_simp)
    have kz : w.heap.size + 1 + 1 < w1.heap.size := World.block_lt_of_cell? _ _ r0
    obtain ⟨f0, f1, f2⟩ := keepf3 hb (b := w.heap.size + 1 + 1) (by go_simp) (by go_simp)
    have haw1 : Acc w w1 := by
      refine Acc.call ?_ hb
      (repeat' (first | assumption | exact Acc.refl _ | refine Acc.drew ?_ | refine Acc.alloc ?_ _ | refine Acc.setCell ?_ (by omega) _))
    clear hb
    go_wp2_with fail
    refine (lowest_any (x * c + a * z) (y * c + b * z) (z * c) _ (by unfold i64B; omega) (by unfold i64B; omega) (by unfold i64B; omega)).mono ?_
    rintro e w2 ⟨h1, h2, hb⟩
    obtain ⟨q00, q01, q02⟩ := keep3 hb (b := w.heap.size) (x := .int .i64 x) (y := .int .i64 y) (z := .int .i64 z) (by go_simp)
    have kb0 : w.heap.size < w2.heap.size := World.block_lt_of_cell? _ _ q00
    obtain ⟨q10, q11, q12⟩ := keep3 hb (b := w.heap.size + 1) (x := .int .i64 a) (y := .int .i64 b) (z := .int .i64 c) (by go_simp)
    have kb1 : w.heap.size + 1 < w2.heap.size := World.block_lt_of_cell? _ _ q10
    obtain ⟨r0, r1, r2⟩ := keep3 hb (b := w.heap.size + 1 + 1) (x := .int .i64 0) (y := .int .i64 0) (z := .int .i64 0) (by go_simp)
    have kz : w.heap.size + 1 + 1 < w2.heap.size := World.block_lt_of_cell? _ _ r0
    obtain ⟨f0, f1, f2⟩ := keepf3 hb (b := w.heap.size + 1 + 1) (by go_simp) (by go_simp)
    have haw2 : Acc w w2 := by
      refine Acc.call ?_ hb
      (repeat' (first | assumption | exact Acc.refl _ | refine Acc.drew ?_ | refine Acc.alloc ?_ _ | refine Acc.setCell ?_ (by omega) _))
    clear hb
    cases ho : lowE (x * c + a * z) (y * c + b * z) (z * c) with
    | none =>
      obtain ⟨s, rfl⟩ := h2 ho
      have HO := Lib.hid ho
      clear h1 h2 ho
      go_wp2_with fail
      refine bodyPost_ret (v := .tuple #[.agg #[.int .i64 0, .int .i64 0, .int .i64 0], .iface 55 (.agg #[.string s])]) (by simp [results, Tryd.results60, go_sem, r0, r1, r2]) rfl ?_
      refine ⟨fun _ _ _ h => (by rw [HO.out] at h; cases h), fun _ => ⟨_, rfl⟩, ?_⟩
      show Acc w _
      (repeat' (first | assumption | exact Acc.refl _ | refine Acc.drew ?_ | refine Acc.alloc ?_ _ | refine Acc.setCell ?_ (by omega) _))
    | some v =>
      obtain ⟨p, q, r⟩ := v
      obtain rfl := h1 _ _ _ ho
      have HO := Lib.hid ho
      clear h1 h2 ho
      go_wp2_with fail
      refine bodyPost_ret (v := .tuple #[.agg #[.int .i64 p, .int .i64 q, .int .i64 r], .nilIface]) (by simp [results, Tryd.results60, go_sem, r0, r1, r2]) rfl ?_
      refine ⟨fun _ _ _ h => (by rw [HO.out] at h; cases h; rfl), fun h => (by rw [HO.out] at h; cases h), ?_⟩
      show Acc w _
      (repeat' (first | assumption | exact Acc.refl _ | refine Acc.drew ?_ | refine Acc.alloc ?_ _ | refine Acc.setCell ?_ (by omega) _))
set_option maxHeartbeats 2000000 in
theorem mtimes_any (x y z a b c : Int) (w : World) (hx : i64B x) (hy : i64B y) (hz : i64B z) (ha : i64B a) (hb : i64B b) (hc : i64B c) :
    Calls Tryd.prog 51 #[.agg #[.int .i64 x, .int .i64 y, .int .i64 z], .agg #[.int .i64 a, .int .i64 b, .int .i64 c]] w (Erred (timesF x y z a b c) w) := by
  have hb' := hb
  clear hb
  cases hk : (okF x y z && okF a b c) with
  | false =>
    have e : timesF x y z a b c = none := by unfold timesF; rw [hk]; rfl
    rw [e]
    have HK := Lib.hid hk
    clear hk e
    go_enter Tryd.func51, Tryd.ntmps51
    go_wp2_with fail
    refine (checkBoth_any x y z a b c _ hx hy hz ha hb' hc).mono ?_
    rintro e w1 ⟨-, h1, hb⟩
    obtain ⟨s, rfl⟩ := h1 HK.out
    clear h1
    obtain ⟨q00, q01, q02⟩ := keep3 hb (b := w.heap.size) (x := .int .i64 x) (y := .int .i64 y) (z := .int .i64 z) (by go_simp)
    have kb0 : w.heap.size < w1.heap.size := World.block_lt_of_cell? _ _ q00
    obtain ⟨q10, q11, q12⟩ := keep3 hb (b := w.heap.size + 1) (x := .int .i64 a) (y := .int .i64 b) (z := .int .i64 c) (by go_simp)
    have kb1 : w.heap.size + 1 < w1.heap.size := World.block_lt_of_cell? _ _ q10
    obtain ⟨r0, r1, r2⟩ := keep3 hb (b := w.heap.size + 1 + 1) (x := .int .i64 0) (y := .int .i64 0) (z := .int .i64 0) (by go_simp)
    have kz : w.heap.size + 1 + 1 < w1.heap.size := World.block_lt_of_cell? _ _ r0
    obtain ⟨f0, f1, f2⟩ := keepf3 hb (b := w.heap.size + 1 + 1) (by go_simp) (by go_simp)
    have haw1 : Acc w w1 := by
      refine Acc.call ?_ hb
      (repeat' (first | assumption | exact Acc.refl _ | refine Acc.drew ?_ | refine Acc.alloc ?_ _ | refine Acc.setCell ?_ (by omega) _))
    clear hb
    go_wp2_with fail
    refine bodyPost_ret (v := .tuple #[.agg #[.int .i64 0, .int .i64 0, .int .i64 0], .iface 55 (.agg #[.string s])]) (by simp [results, Tryd.results51, go_sem, r0, r1, r2]) rfl ?_
    refine ⟨fun _ _ _ h => (by cases h), fun _ => ⟨_, rfl⟩, ?_⟩
    show Acc w _
    (repeat' (first | assumption | exact Acc.refl _ | refine Acc.drew ?_ | refine Acc.alloc ?_ _ | refine Acc.setCell ?_ (by omega) _))
  | true =>
    obtain ⟨k1, k2⟩ : okF x y z = true ∧ okF a b c = true := by simpa using hk
    obtain ⟨⟨x0, x1⟩, ⟨y0, y1⟩, ⟨z0, z1⟩⟩ := okF_bd k1
    obtain ⟨⟨a0, a1⟩, ⟨b0, b1⟩, ⟨c0, c1⟩⟩ := okF_bd k2
    have m1 := mul_bd (a := x) (b := a) (m := 2000000000) (n := 2000000000) (by omega) (by omega) (by omega) (by omega)
    have m2 := mul_bd (a := y) (b := b) (m := 2000000000) (n := 2000000000) (by omega) (by omega) (by omega) (by omega)
    have m3 := mul_bd (a := x) (b := b) (m := 2000000000) (n := 2000000000) (by omega) (by omega) (by omega) (by omega)
    have m4 := mul_bd (a := y) (b := a) (m := 2000000000) (n := 2000000000) (by omega) (by omega) (by omega) (by omega)
    have m5 := mul_bd (a := z) (b := c) (m := 2000000000) (n := 2000000000) (by omega) (by omega) (by omega) (by omega)
    have m6 : 1 ≤ z * c := by have := Int.mul_le_mul (a := 1) (b := 1) (c := z) (d := c) (by omega) (by omega) (by omega) (by omega); omega
    have N1 : -4000000000000000000 ≤ x * a := by omega
    have N2 : x * a ≤ 4000000000000000000 := by omega
    have N3 : -4000000000000000000 ≤ y * b := by omega
    have N4 : y * b ≤ 4000000000000000000 := by omega
    have N5 : -4000000000000000000 ≤ x * b := by omega
    have N6 : x * b ≤ 4000000000000000000 := by omega
    have N7 : -4000000000000000000 ≤ y * a := by omega
    have N8 : y * a ≤ 4000000000000000000 := by omega
    have N9 : z * c ≤ 4000000000000000000 := by omega
    clear m1 m2 m3 m4 m5
    have e : timesF x y z a b c = lowE (x * a - y * b) (x * b + y * a) (z * c) := by
      unfold timesF lowE
      rw [hk, if_neg (show ¬ z * c < 1 by omega)]
      simp only [if_true]
    rw [e]
    have HK := Lib.hid hk
    clear hk k1 k2 e
    go_enter Tryd.func51, Tryd.ntmps51
    go_wp2_with fail
    refine (checkBoth_any x y z a b c _ hx hy hz ha hb' hc).mono ?_
    rintro e w1 ⟨h1, -, hb⟩
    obtain rfl := h1 HK.out
    clear h1
    obtain ⟨q00, q01, q02⟩ := keep3 hb (b := w.heap.size) (x := .int .i64 x) (y := .int .i64 y) (z := .int .i64 z) (by go_simp)
    have kb0 : w.heap.size < w1.heap.size := World.block_lt_of_cell? _ _ q00
    obtain ⟨q10, q11, q12⟩ := keep3 hb (b := w.heap.size + 1) (x := .int .i64 a) (y := .int .i64 b) (z := .int .i64 c) (by go_simp)
    have kb1 : w.heap.size + 1 < w1.heap.size := World.block_lt_of_cell? _ _ q10
    obtain ⟨r0, r1, r2⟩ := keep3 hb (b := w.heap.size + 1 + 1) (x := .int .i64 0) (y := .int .i64 0) (z := .int .i64 0) (by go_simp)
    have kz : w.heap.size + 1 + 1 < w1.heap.size := World.block_lt_of_cell? _ _ r0
    obtain ⟨f0, f1, f2⟩ := keepf3 hb (b := w.heap.size + 1 + 1) (by go_simp) (by go_simp)
    have haw1 : Acc w w1 := by
      refine Acc.call ?_ hb
      (repeat' (first | assumption | exact Acc.refl _ | refine Acc.drew ?_ | refine Acc.alloc ?_ _ | refine Acc.setCell ?_ (by omega) _))
    clear hb
    go_wp2_with fail
    refine (lowest_any (x * a - y * b) (x * b + y * a) (z * c) _ (by unfold i64B; omega) (by unfold i64B; omega) (by unfold i64B; omega)).mono ?_
    rintro e w2 ⟨h1, h2, hb⟩
    obtain ⟨q00, q01, q02⟩ := keep3 hb (b := w.heap.size) (x := .int .i64 x) (y := .int .i64 y) (z := .int .i64 z) (by go_simp)
    have kb0 : w.heap.size < w2.heap.size := World.block_lt_of_cell? _ _ q00
    obtain ⟨q10, q11, q12⟩ := keep3 hb (b := w.heap.size + 1) (x := .int .i64 a) (y := .int .i64 b) (z := .int .i64 c) (by go_simp)
    have kb1 : w.heap.size + 1 < w2.heap.size := World.block_lt_of_cell? _ _ q10
    obtain ⟨r0, r1, r2⟩ := keep3 hb (b := w.heap.size + 1 + 1) (x := .int .i64 0) (y := .int .i64 0) (z := .int .i64 0) (by go_simp)
    have kz : w.heap.size + 1 + 1 < w2.heap.size := World.block_lt_of_cell? _ _ r0
    obtain ⟨f0, f1, f2⟩ := keepf3 hb (b := w.heap.size + 1 + 1) (by go_simp) (by go_simp)
    have haw2 : Acc w w2 := by
      refine Acc.call ?_ hb
      (repeat' (first | assumption | exact Acc.refl _ | refine Acc.drew ?_ | refine Acc.alloc ?_ _ | refine Acc.setCell ?_ (by omega) _))
    clear hb
    cases ho : lowE (x * a - y * b) (x * b + y * a) (z * c) with
    | none =>
      obtain ⟨s, rfl⟩ := h2 ho
      have HO := Lib.hid ho
      clear h1 h2 ho
      go_wp2_with fail
      refine bodyPost_ret (v := .tuple #[.agg #[.int .i64 0, .int .i64 0, .int .i64 0], .iface 55 (.agg #[.string s])]) (by simp [results, Tryd.results51, go_sem, r0, r1, r2]) rfl ?_
      refine ⟨fun _ _ _ h => (by rw [HO.out] at h; cases h), fun _ => ⟨_, rfl⟩, ?_⟩
      show Acc w _
      (repeat' (first | assumption | exact Acc.refl _ | refine Acc.drew ?_ | refine Acc.alloc ?_ _ | refine Acc.setCell ?_ (by omega) _))
    | some v =>
      obtain ⟨p, q, r⟩ := v
      obtain rfl := h1 _ _ _ ho
      have HO := Lib.hid ho
      clear h1 h2 ho
      go_wp2_with fail
      refine bodyPost_ret (v := .tuple #[.agg #[.int .i64 p, .int .i64 q, .int .i64 r], .nilIface]) (by simp [results, Tryd.results51, go_sem, r0, r1, r2]) rfl ?_
      refine ⟨fun _ _ _ h => (by rw [HO.out] at h; cases h; rfl), fun h => (by rw [HO.out] at h; cases h), ?_⟩
      show Acc w _
      (repeat' (first | assumption | exact Acc.refl _ | refine Acc.drew ?_ | refine Acc.alloc ?_ _ | refine Acc.setCell ?_ (by omega) _))
set_option maxHeartbeats 2000000 in
theorem inverse_any (x y z : Int) (w : World) (hx : i64B x) (hy : i64B y) (hz : i64B z) :
    Calls Tryd.prog 58 #[.agg #[.int .i64 x, .int .i64 y, .int .i64 z]] w (Erred (if okF x y z = true then lowE (x * z) (-y * z) (x * x + y * y) else none) w) := by
  cases hk : okF x y z with
  | false =>
    rw [if_neg (by simp)]
    have HK := Lib.hid hk
    clear hk
    go_enter Tryd.func58, Tryd.ntmps58
    go_wp2_with fail
    refine (check_any x y z _ hx hy hz).mono ?_
    rintro e w1 ⟨-, h1, hb⟩
    obtain ⟨s, rfl⟩ := h1 HK.out
    clear h1
    obtain ⟨q00, q01, q02⟩ := keep3 hb (b := w.heap.size) (x := .int .i64 x) (y := .int .i64 y) (z := .int .i64 z) (by go_simp)
    have kb0 : w.heap.size < w1.heap.size := World.block_lt_of_cell? _ _ q00
    obtain ⟨r0, r1, r2⟩ := keep3 hb (b := w.heap.size + 1) (x := .int .i64 0) (y := .int .i64 0) (z := .int .i64 0) (by go_simp)
    have kz : w.heap.size + 1 < w1.heap.size := World.block_lt_of_cell? _ _ r0
    obtain ⟨f0, f1, f2⟩ := keepf3 hb (b := w.heap.size + 1) (by go_simp) (by go_simp)
    have haw1 : Acc w w1 := by
      refine Acc.call ?_ hb
      (repeat' (first | assumption | exact Acc.refl _ | refine Acc.drew ?_ | refine Acc.alloc ?_ _ | refine Acc.setCell ?_ (by omega) _))
    clear hb
    go_wp2_with fail
    refine bodyPost_ret (v := .tuple #[.agg #[.int .i64 0, .int .i64 0, .int .i64 0], .iface 55 (.agg #[.string s])]) (by simp [results, Tryd.results58, go_sem, r0, r1, r2]) rfl ?_
    refine ⟨fun _ _ _ h => (by cases h), fun _ => ⟨_, rfl⟩, ?_⟩
    show Acc w _
    (repeat' (first | assumption | exact Acc.refl _ | refine Acc.drew ?_ | refine Acc.alloc ?_ _ | refine Acc.setCell ?_ (by omega) _))
  | true =>
    rw [if_pos rfl]
    obtain ⟨⟨x0, x1⟩, ⟨y0, y1⟩, ⟨z0, z1⟩⟩ := okF_bd hk
    have s1 := sq_bd ⟨x0, x1⟩
    have s2 := sq_bd ⟨y0, y1⟩
    have m1 := mul_bd (a := x) (b := z) (m := 2000000000) (n := 2000000000) (by omega) (by omega) (by omega) (by omega)
    have m2 := mul_bd (a := -y) (b := z) (m := 2000000000) (n := 2000000000) (by omega) (by omega) (by omega) (by omega)
    have N1 : -4000000000000000000 ≤ x * z := by omega
    have N2 : x * z ≤ 4000000000000000000 := by omega
    have N3 : -4000000000000000000 ≤ -y * z := by omega
    have N4 : -y * z ≤ 4000000000000000000 := by omega
    obtain ⟨N5, N6⟩ := s1
    obtain ⟨N7, N8⟩ := s2
    clear m1 m2
    have HK := Lib.hid hk
    clear hk
    go_enter Tryd.func58, Tryd.ntmps58
    go_wp2_with fail
    refine (check_any x y z _ hx hy hz).mono ?_
    rintro e w1 ⟨h1, -, hb⟩
    obtain rfl := h1 HK.out
    clear h1
    obtain ⟨q00, q01, q02⟩ := keep3 hb (b := w.heap.size) (x := .int .i64 x) (y := .int .i64 y) (z := .int .i64 z) (by go_simp)
    have kb0 : w.heap.size < w1.heap.size := World.block_lt_of_cell? _ _ q00
    obtain ⟨r0, r1, r2⟩ := keep3 hb (b := w.heap.size + 1) (x := .int .i64 0) (y := .int .i64 0) (z := .int .i64 0) (by go_simp)
    have kz : w.heap.size + 1 < w1.heap.size := World.block_lt_of_cell? _ _ r0
    obtain ⟨f0, f1, f2⟩ := keepf3 hb (b := w.heap.size + 1) (by go_simp) (by go_simp)
    have haw1 : Acc w w1 := by
      refine Acc.call ?_ hb
      (repeat' (first | assumption | exact Acc.refl _ | refine Acc.drew ?_ | refine Acc.alloc ?_ _ | refine Acc.setCell ?_ (by omega) _))
    clear hb
    go_wp2_with fail
    refine (lowest_any (x * z) (-y * z) (x * x + y * y) _ (by unfold i64B; omega) (by unfold i64B; omega) (by unfold i64B; omega)).mono ?_
    rintro e w2 ⟨h1, h2, hb⟩
    obtain ⟨q00, q01, q02⟩ := keep3 hb (b := w.heap.size) (x := .int .i64 x) (y := .int .i64 y) (z := .int .i64 z) (by go_simp)
    have kb0 : w.heap.size < w2.heap.size := World.block_lt_of_cell? _ _ q00
    obtain ⟨r0, r1, r2⟩ := keep3 hb (b := w.heap.size + 1) (x := .int .i64 0) (y := .int .i64 0) (z := .int .i64 0) (by go_simp)
    have kz : w.heap.size + 1 < w2.heap.size := World.block_lt_of_cell? _ _ r0
    obtain ⟨f0, f1, f2⟩ := keepf3 hb (b := w.heap.size + 1) (by go_simp) (by go_simp)
    have haw2 : Acc w w2 := by
      refine Acc.call ?_ hb
      (repeat' (first | assumption | exact Acc.refl _ | refine Acc.drew ?_ | refine Acc.alloc ?_ _ | refine Acc.setCell ?_ (by omega) _))
    clear hb
    cases ho : lowE (x * z) (-y * z) (x * x + y * y) with
    | none =>
      obtain ⟨s, rfl⟩ := h2 ho
      have HO := Lib.hid ho
      clear h1 h2 ho
      go_wp2_with fail
      refine bodyPost_ret (v := .tuple #[.agg #[.int .i64 0, .int .i64 0, .int .i64 0], .iface 55 (.agg #[.string s])]) (by simp [results, Tryd.results58, go_sem, r0, r1, r2]) rfl ?_
      refine ⟨fun _ _ _ h => (by rw [HO.out] at h; cases h), fun _ => ⟨_, rfl⟩, ?_⟩
      show Acc w _
      (repeat' (first | assumption | exact Acc.refl _ | refine Acc.drew ?_ | refine Acc.alloc ?_ _ | refine Acc.setCell ?_ (by omega) _))
    | some v =>
      obtain ⟨p, q, r⟩ := v
      obtain rfl := h1 _ _ _ ho
      have HO := Lib.hid ho
      clear h1 h2 ho
      go_wp2_with fail
      refine bodyPost_ret (v := .tuple #[.agg #[.int .i64 p, .int .i64 q, .int .i64 r], .nilIface]) (by simp [results, Tryd.results58, go_sem, r0, r1, r2]) rfl ?_
      refine ⟨fun _ _ _ h => (by rw [HO.out] at h; cases h; rfl), fun h => (by rw [HO.out] at h; cases h), ?_⟩
      show Acc w _
      (repeat' (first | assumption | exact Acc.refl _ | refine Acc.drew ?_ | refine Acc.alloc ?_ _ | refine Acc.setCell ?_ (by omega) _))
theorem okF_wrap {a b c : Int} (ha : i64B a) (hb : i64B b) : okF (RowKit.wrap64 (-a)) (RowKit.wrap64 (-b)) c = okF a b c := by
  unfold i64B at ha hb
  by_cases h1 : a = -9223372036854775808
  · subst h1
    have e : RowKit.wrap64 (- -9223372036854775808) = -9223372036854775808 := by unfold RowKit.wrap64; omega
    rw [e]
    have p : partB (-9223372036854775808) = false := by decide
    unfold okF
    rw [p]; rfl
  by_cases h2 : b = -9223372036854775808
  · subst h2
    have e : RowKit.wrap64 (- -9223372036854775808) = -9223372036854775808 := by unfold RowKit.wrap64; omega
    rw [e]
    have p : partB (-9223372036854775808) = false := by decide
    unfold okF
    rw [p, Bool.and_false, Bool.and_false]; rfl
  have e1 : RowKit.wrap64 (-a) = -a := by unfold RowKit.wrap64; omega
  have e2 : RowKit.wrap64 (-b) = -b := by unfold RowKit.wrap64; omega
  rw [e1, e2, okF_neg2]
theorem sumF_wrap {x y z a b c : Int} (ha : i64B a) (hb : i64B b) : sumF 1 x y z (RowKit.wrap64 (-a)) (RowKit.wrap64 (-b)) c = sumF (-1) x y z a b c := by
  rw [sumF_neg]
  cases hk : okF a b c with
  | false =>
    have h1 := okF_wrap (c := c) ha hb
    rw [hk] at h1
    have h2 := okF_neg2 a b c
    rw [hk] at h2
    unfold sumF
    rw [h1, h2]
    simp only [Bool.and_false, Bool.false_eq_true, if_false]
  | true =>
    obtain ⟨⟨a0, a1⟩, ⟨b0, b1⟩, -⟩ := okF_bd hk
    rw [show RowKit.wrap64 (-a) = -a by unfold RowKit.wrap64; omega, show RowKit.wrap64 (-b) = -b by unfold RowKit.wrap64; omega]
theorem wrap64_i64 (n : Int) : i64B (RowKit.wrap64 n) := by unfold i64B RowKit.wrap64; omega
theorem lowE_ok {x y z p q r : Int} (h : lowE x y z = some (p, q, r)) : okF p q r = true := by
  unfold lowE at h
  split at h
  · cases h
  · unfold lowF at h
    simp only at h
    split at h
    · rename_i hk
      simp only [Option.some.injEq, Prod.mk.injEq] at h
      obtain ⟨rfl, rfl, rfl⟩ := h
      exact hk
    · cases h
theorem okF_i64 {p q r : Int} (h : okF p q r = true) : i64B p ∧ i64B q ∧ i64B r := by
  have := okF_bd h
  unfold i64B
  omega
set_option maxHeartbeats 2000000 in
theorem mover_any (x y z a b c : Int) (w : World) (hx : i64B x) (hy : i64B y) (hz : i64B z) (ha : i64B a) (hb : i64B b) (hc : i64B c) :
    Calls Tryd.prog 50 #[.agg #[.int .i64 x, .int .i64 y, .int .i64 z], .agg #[.int .i64 a, .int .i64 b, .int .i64 c]] w (Erred (overF x y z a b c) w) := by
  have hb' := hb
  clear hb
  rw [over_eq]
  cases hi : (if okF a b c = true then lowE (a * c) (-b * c) (a * a + b * b) else none) with
  | none =>
    have e : (if okF a b c = true then (lowE (a * c) (-b * c) (a * a + b * b)).bind fun r => timesF x y z r.1 r.2.1 r.2.2 else none) = none := by
      by_cases hk : okF a b c = true
      · rw [if_pos hk] at hi ⊢; rw [hi]; rfl
      · rw [if_neg hk]
    rw [e]
    have HI := Lib.hid hi
    clear e hi
    go_enter Tryd.func50, Tryd.ntmps50
    go_wp2_with fail
    refine (inverse_any a b c _ ha hb' hc).mono ?_
    rintro e w1 ⟨-, h2, hb⟩
    obtain ⟨s, rfl⟩ := h2 HI.out
    clear h2
    obtain ⟨q00, q01, q02⟩ := keep3 hb (b := w.heap.size) (x := .int .i64 x) (y := .int .i64 y) (z := .int .i64 z) (by go_simp)
    have kb0 : w.heap.size < w1.heap.size := World.block_lt_of_cell? _ _ q00
    obtain ⟨q10, q11, q12⟩ := keep3 hb (b := w.heap.size + 1) (x := .int .i64 a) (y := .int .i64 b) (z := .int .i64 c) (by go_simp)
    have kb1 : w.heap.size + 1 < w1.heap.size := World.block_lt_of_cell? _ _ q10
    obtain ⟨r0, r1, r2⟩ := keep3 hb (b := w.heap.size + 1 + 1) (x := .int .i64 0) (y := .int .i64 0) (z := .int .i64 0) (by go_simp)
    have kz : w.heap.size + 1 + 1 < w1.heap.size := World.block_lt_of_cell? _ _ r0
    obtain ⟨f0, f1, f2⟩ := keepf3 hb (b := w.heap.size + 1 + 1) (by go_simp) (by go_simp)
    have haw1 : Acc w w1 := by
      refine Acc.call ?_ hb
      (repeat' (first | assumption | exact Acc.refl _ | refine Acc.drew ?_ | refine Acc.alloc ?_ _ | refine Acc.setCell ?_ (by omega) _))
    clear hb
    go_wp2_with fail
    refine bodyPost_ret (v := .tuple #[.agg #[.int .i64 0, .int .i64 0, .int .i64 0], .iface 55 (.agg #[.string s])]) (by simp [results, Tryd.results50, go_sem, r0, r1, r2, kz]) rfl ?_
    refine ⟨fun _ _ _ h => (by cases h), fun _ => ⟨_, rfl⟩, ?_⟩
    show Acc w _
    (repeat' (first | assumption | exact Acc.refl _ | refine Acc.drew ?_ | refine Acc.alloc ?_ _ | refine Acc.setCell ?_ (by omega) _))
  | some v =>
    obtain ⟨p, q, r⟩ := v
    have e : (if okF a b c = true then (lowE (a * c) (-b * c) (a * a + b * b)).bind fun r => timesF x y z r.1 r.2.1 r.2.2 else none) = timesF x y z p q r := by
      by_cases hk : okF a b c = true
      · rw [if_pos hk] at hi ⊢; rw [hi]; rfl
      · rw [if_neg hk] at hi; cases hi
    have ok : okF p q r = true := by
      by_cases hk : okF a b c = true
      · rw [if_pos hk] at hi; exact lowE_ok hi
      · rw [if_neg hk] at hi; cases hi
    obtain ⟨hp, hq, hr⟩ := okF_i64 ok
    rw [e]
    have HI := Lib.hid hi
    clear e hi ok
    go_enter Tryd.func50, Tryd.ntmps50
    go_wp2_with fail
    refine (inverse_any a b c _ ha hb' hc).mono ?_
    rintro e w1 ⟨h1, -, hb⟩
    obtain rfl := h1 _ _ _ HI.out
    clear h1
    obtain ⟨q00, q01, q02⟩ := keep3 hb (b := w.heap.size) (x := .int .i64 x) (y := .int .i64 y) (z := .int .i64 z) (by go_simp)
    have kb0 : w.heap.size < w1.heap.size := World.block_lt_of_cell? _ _ q00
    obtain ⟨q10, q11, q12⟩ := keep3 hb (b := w.heap.size + 1) (x := .int .i64 a) (y := .int .i64 b) (z := .int .i64 c) (by go_simp)
    have kb1 : w.heap.size + 1 < w1.heap.size := World.block_lt_of_cell? _ _ q10
    obtain ⟨r0, r1, r2⟩ := keep3 hb (b := w.heap.size + 1 + 1) (x := .int .i64 0) (y := .int .i64 0) (z := .int .i64 0) (by go_simp)
    have kz : w.heap.size + 1 + 1 < w1.heap.size := World.block_lt_of_cell? _ _ r0
    obtain ⟨f0, f1, f2⟩ := keepf3 hb (b := w.heap.size + 1 + 1) (by go_simp) (by go_simp)
    have haw1 : Acc w w1 := by
      refine Acc.call ?_ hb
      (repeat' (first | assumption | exact Acc.refl _ | refine Acc.drew ?_ | refine Acc.alloc ?_ _ | refine Acc.setCell ?_ (by omega) _))
    clear hb
    go_wp2_with fail
    refine (mtimes_any x y z p q r _ hx hy hz hp hq hr).mono ?_
    rintro e w2 ⟨h1, h2, hb⟩
    obtain ⟨r0, r1, r2⟩ := keep3 hb (b := w.heap.size + 1 + 1) (x := .int .i64 0) (y := .int .i64 0) (z := .int .i64 0) (by go_simp)
    obtain ⟨f0, f1, f2⟩ := keepf3 hb (b := w.heap.size + 1 + 1) (by go_simp) (by go_simp)
    have haw2 : Acc w w2 := by
      refine Acc.call ?_ hb
      (repeat' (first | assumption | exact Acc.refl _ | refine Acc.drew ?_ | refine Acc.alloc ?_ _ | refine Acc.setCell ?_ (by omega) _))
    clear hb
    cases ho : timesF x y z p q r with
    | none =>
      obtain ⟨s, rfl⟩ := h2 ho
      have HO := Lib.hid ho
      clear h1 h2 ho
      go_wp2_with fail
      refine bodyPost_ret (v := .tuple #[.agg #[.int .i64 0, .int .i64 0, .int .i64 0], .iface 55 (.agg #[.string s])]) (by simp [results, Tryd.results50, go_sem, r0, r1, r2]) rfl ?_
      refine ⟨fun _ _ _ h => (by rw [HO.out] at h; cases h), fun _ => ⟨_, rfl⟩, ?_⟩
      show Acc w _
      (repeat' (first | assumption | exact Acc.refl _ | refine Acc.drew ?_ | refine Acc.alloc ?_ _ | refine Acc.setCell ?_ (by omega) _))
    | some v =>
      obtain ⟨p', q', r'⟩ := v
      obtain rfl := h1 _ _ _ ho
      have HO := Lib.hid ho
      clear h1 h2 ho
      go_wp2_with fail
      refine bodyPost_ret (v := .tuple #[.agg #[.int .i64 p', .int .i64 q', .int .i64 r'], .nilIface]) (by simp [results, Tryd.results50, go_sem, r0, r1, r2]) rfl ?_
      refine ⟨fun _ _ _ h => (by rw [HO.out] at h; cases h; rfl), fun h => (by rw [HO.out] at h; cases h), ?_⟩
      show Acc w _
      (repeat' (first | assumption | exact Acc.refl _ | refine Acc.drew ?_ | refine Acc.alloc ?_ _ | refine Acc.setCell ?_ (by omega) _))
/-- An order and no error, or 0 and an error. -/
def ErredI (o : Option Int) (w : World) (e : Ending) (w' : World) : Prop :=
  (∀ n, o = some n → e = .returned (.tuple #[.int .i64 n, .nilIface])) ∧ (o = none → ∃ s, e = .returned (.tuple #[.int .i64 0, .iface 55 (.agg #[.string s])])) ∧ Below w.heap.size w w'
/-- The wide number and no error, or 0 and an error. -/
def ErredW (x y z : Int) (w : World) (e : Ending) (w' : World) : Prop :=
  (okF x y z = true → ∃ p q, e = .returned (.tuple #[.complex .f64 p q, .nilIface]) ∧ Same p (fop .quo (floatOfInt .f64 x) (floatOfInt .f64 z)) ∧ Same q (fop .quo (floatOfInt .f64 y) (floatOfInt .f64 z))) ∧
  (okF x y z = false → ∃ s, e = .returned (.tuple #[.complex .f64 0 0, .iface 55 (.agg #[.string s])])) ∧ Below w.heap.size w w'
/-- The single number and no error, or 0 and an error. -/
def ErredS (x y z : Int) (w : World) (e : Ending) (w' : World) : Prop :=
  (okF x y z = true → e = .returned (.tuple #[.complex .f32 (singleOf x z) (singleOf y z), .nilIface])) ∧
  (okF x y z = false → ∃ s, e = .returned (.tuple #[.complex .f32 0 0, .iface 55 (.agg #[.string s])])) ∧ Below w.heap.size w w'
theorem makeF_eq (re im den : Int) : makeF re im den = if (re ≤ 1000000000000000000 ∧ im ≤ 1000000000000000000 ∧ den ≤ 1000000000000000000) ∧ (-1000000000000000000 ≤ re ∧ -1000000000000000000 ≤ im ∧ -1000000000000000000 ≤ den) then lowE re im den else none := by
  unfold makeF lowE inB
  by_cases h1 : den < 1
  · rw [if_pos h1, if_neg (by simp only [Bool.and_eq_true, decide_eq_true_eq]; omega)]
    split <;> rfl
  · rw [if_neg h1]
    by_cases h2 : (re ≤ 1000000000000000000 ∧ im ≤ 1000000000000000000 ∧ den ≤ 1000000000000000000) ∧ (-1000000000000000000 ≤ re ∧ -1000000000000000000 ≤ im ∧ -1000000000000000000 ≤ den)
    · rw [if_pos h2, if_pos (by simp only [Bool.and_eq_true, decide_eq_true_eq]; omega)]
    · rw [if_neg h2, if_neg (by simp only [Bool.and_eq_true, decide_eq_true_eq]; omega)]
theorem gave_some {o : Option (Int × Int × Int)} {p q r : Int} (h : o = some (p, q, r)) {P : Program} {f : FuncId} {ar : Array Value} {w : World} (c : Calls P f ar w (Gave o w)) :
    Calls P f ar w fun e w' => e = .returned (.tuple #[.agg #[.int .i64 p, .int .i64 q, .int .i64 r], .bool true]) ∧ Below w.heap.size w w' := by subst h; exact c
theorem gave_none {o : Option (Int × Int × Int)} (h : o = none) {P : Program} {f : FuncId} {ar : Array Value} {w : World} (c : Calls P f ar w (Gave o w)) :
    Calls P f ar w fun e w' => e = .returned (.tuple #[.agg #[.int .i64 0, .int .i64 0, .int .i64 0], .bool false]) ∧ Below w.heap.size w w' := by subst h; exact c
theorem gave_any {o : Option (Int × Int × Int)} {p q r : Int} {k : Bool} (hp : partsR o = (p, q, r)) (hk : okR o = k) {P : Program} {f : FuncId} {ar : Array Value} {w : World} (c : Calls P f ar w (Gave o w)) :
    Calls P f ar w fun e w' => e = .returned (.tuple #[.agg #[.int .i64 p, .int .i64 q, .int .i64 r], .bool k]) ∧ Below w.heap.size w w' := by
  unfold Gave at c
  rw [resV_eq, hp, hk] at c
  exact c
theorem parts_i64 {o : Option (Int × Int × Int)} (h : ∀ p q r, o = some (p, q, r) → okF p q r = true) {p q r : Int} (hp : partsR o = (p, q, r)) : i64B p ∧ i64B q ∧ i64B r := by
  cases o with
  | none =>
    simp only [partsR, Option.getD_none, Prod.mk.injEq] at hp
    obtain ⟨rfl, rfl, rfl⟩ := hp
    unfold i64B; omega
  | some v =>
    obtain ⟨a, b, c⟩ := v
    simp only [partsR, Option.getD_some, Prod.mk.injEq] at hp
    obtain ⟨rfl, rfl, rfl⟩ := hp
    exact okF_i64 (h _ _ _ rfl)
end Go.Proofs.YtkdkeacfifjjoabDoor
