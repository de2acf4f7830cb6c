/-
  The program's fractions.
-/
import Derived.Test.YtkdkeacfifjjoabGreatDoorBMem
import Derived.LaidEql
import Derived.Stop.Asserts
import Derived.RowKitTokens
import Derived.Test.YtkdkeacfifjjoabGreatDoorBSpecF
import Derived.Deep.RegionWith
namespace Go.Proofs.YtkdkeacfifjjoabGreatDoor
open Go.ChangeShapes Go.WideShapes Go.ChangeAt Go.RowKit
set_option linter.unusedVariables false
open Go.RowKit Go.Extern.Stop Go.Stop Go.Extern

/-- errors.As(nil, target). -/
theorem as_nil (t : Value) (w : World) :
    Calls Tryz.prog 98 #[.nilIface, t] w fun e w' => e = .returned (.bool false) ∧ w' = w := by
  go_enter Tryz.func98, Tryz.ntmps98
  go_wp2
  go_ret
  exact ⟨rfl, rfl⟩

theorem asv_valueP (t : Addr) (w : World) : (ReflectliteValue.unpack (.iface 144 (.pointer (some t)))).run Tryz.prog w
    = .ok (.agg #[.pointer (some ⟨1, 144, none⟩), .pointer (some ⟨w.heap.size, 0, none⟩), .int .u64 150]) (w.alloc (.cells #[.pointer (some t)] 144)) := by kernel_rfl
theorem asv_typeP (a : Addr) (w : World) : (ReflectliteValue.methodAny (ReflectliteValue.valueError "reflectlite.Value.Type" 0) (fun t _ _ _ => ReflectliteType.toType t) #[.agg #[.pointer (some ⟨1, 144, none⟩), .pointer (some a), .int .u64 150]]).run Tryz.prog w
    = .ok (.iface 188 (.agg #[.pointer (some ⟨1, 144, none⟩)])) w := by kernel_rfl
theorem asv_mKind (h : Value) (w : World) : (Go.method 336 188 (.agg #[h]) "Kind").run Tryz.prog w = .ok (172, h) w := by kernel_rfl
theorem asv_kindP (w : World) : ((ReflectliteType.abiMethod fun t => (fun a : Nat => Value.int IntKind.u8 (a : Int)) <$> Rtype.kind t) #[.pointer (some ⟨1, 144, none⟩)]).run Tryz.prog w = .ok (.int .u8 22) w := by kernel_rfl
theorem asv_kindN (w : World) : ((ReflectliteType.abiMethod fun t => (fun a : Nat => Value.int IntKind.u8 (a : Int)) <$> Rtype.kind t) #[.pointer (some ⟨1, 142, none⟩)]).run Tryz.prog w = .ok (.int .u8 25) w := by kernel_rfl
theorem rlm (z : Sem Value) (f : TypeId → Addr → Nat → Nat → Sem Value) (v : Value) :
    ReflectliteValue.method z f #[v] = (do match ← ReflectliteValue.parts v with | none => z | some (t, a, fl) => f t a fl (fl % 32)) := rfl
theorem asv_partsP (a : Addr) (w : World) : (ReflectliteValue.parts (.agg #[.pointer (some ⟨1, 144, none⟩), .pointer (some a), .int .u64 150])).run Tryz.prog w = .ok (some (144, a, 150)) w := by kernel_rfl
theorem asv_isNilP (a p : Addr) (W : World) (ha : W.cell? a = some (.pointer (some p))) :
    (ReflectliteValue.method (ReflectliteValue.valueError "reflectlite.Value.IsNil" 0) ReflectliteValue.isNil #[.agg #[.pointer (some ⟨1, 144, none⟩), .pointer (some a), .int .u64 150]]).run Tryz.prog W = .ok (.bool false) W := by
  rw [rlm]
  simp only [Sem.run_bind, asv_partsP, Result.andThen]
  simp [ReflectliteValue.isNil, loadVar, isAgg, underlying, Tryz.underlying144, ha, Result.andThen]
theorem asv_mElem (h : Value) (w : World) : (Go.method 336 188 (.agg #[h]) "Elem").run Tryz.prog w = .ok (186, .agg #[h]) w := by kernel_rfl
theorem asv_mImplements (h : Value) (w : World) : (Go.method 336 188 (.agg #[h]) "Implements").run Tryz.prog w = .ok (187, .agg #[h]) w := by kernel_rfl
theorem asv_mAssignable (h : Value) (w : World) : (Go.method 336 188 (.agg #[h]) "AssignableTo").run Tryz.prog w = .ok (184, .agg #[h]) w := by kernel_rfl
theorem asv_elemT (w : World) : (ReflectliteType.method ReflectliteType.elem #[.agg #[.pointer (some ⟨1, 144, none⟩)]]).run Tryz.prog w = .ok (.iface 188 (.agg #[.pointer (some ⟨1, 142, none⟩)])) w := by kernel_rfl
theorem asv_implements (w : World) : (ReflectliteType.relation "Implements" ReflectliteType.implements_ #[.agg #[.pointer (some ⟨1, 142, none⟩)], .iface 188 (.agg #[.pointer (some ⟨1, 57, none⟩)])]).run Tryz.prog w = .ok (.bool true) w := by kernel_rfl
theorem asv_typeOf (v : Value) (w : World) : (ReflectliteType.typeOf #[.iface 142 v]).run Tryz.prog w = .ok (.iface 188 (.agg #[.pointer (some ⟨1, 142, none⟩)])) w := by kernel_rfl
theorem asv_assignable (w : World) : (ReflectliteType.relation "AssignableTo" ReflectliteType.assignableTo #[.agg #[.pointer (some ⟨1, 142, none⟩)], .iface 188 (.agg #[.pointer (some ⟨1, 142, none⟩)])]).run Tryz.prog w = .ok (.bool true) w := by kernel_rfl
theorem asv_valueN (s : ByteArray) (w : World) : (ReflectliteValue.unpack (.iface 142 (.agg #[.string s]))).run Tryz.prog w
    = .ok (.agg #[.pointer (some ⟨1, 142, none⟩), .pointer (some ⟨w.heap.size, 0, none⟩), .int .u64 153]) (w.alloc (.cells #[.string s] 142)) := by kernel_rfl
theorem asv_elemOf (w : World) : (Rtype.elem? 144).run Tryz.prog w = .ok (some 142) w := by kernel_rfl
theorem asv_mk (p : Addr) (w : World) : (ReflectliteValue.mk 142 p ReflectliteValue.flagAddr).run Tryz.prog w = .ok (.agg #[.pointer (some ⟨1, 142, none⟩), .pointer (some p), .int .u64 409]) w := by kernel_rfl
theorem asv_elemV (a p : Addr) (W : World) (ha : W.cell? a = some (.pointer (some p))) :
    (ReflectliteValue.method (ReflectliteValue.valueError "reflectlite.Value.Elem" 0) ReflectliteValue.elem #[.agg #[.pointer (some ⟨1, 144, none⟩), .pointer (some a), .int .u64 150]]).run Tryz.prog W
      = .ok (.agg #[.pointer (some ⟨1, 142, none⟩), .pointer (some p), .int .u64 409]) W := by
  rw [rlm]
  simp only [Sem.run_bind, asv_partsP, Result.andThen]
  simp [ReflectliteValue.elem, loadVar, isAgg, underlying, Tryz.underlying144, ha, Result.andThen, asv_elemOf, asv_mk]
theorem rls (v x : Value) : ReflectliteValue.set #[v, x] = (do
    let (some (dst, a, fl), some (src, b, _)) := (← ReflectliteValue.parts v, ← ReflectliteValue.parts x)
      | unsupported (.noEntry "extern/(internal/reflectlite.Value).Set.zeroValue")
    if fl / ReflectliteValue.flagAddr % 2 == 0 then unsupported (.noEntry "extern/(internal/reflectlite.Value).Set.unaddressable")
    let val ← loadVar src b
    if ← Rtype.directlyAssignable dst src then storeVar dst a val
    else if ← Rtype.implements dst src then
      if (← Rtype.kind src) == 20 then
        match val with
        | .nilIface => unsupported (.noEntry "extern/reflectlite: a nil value of one interface type handed on as a value of another")
        | _ => storeVar dst a val
      else storeVar dst a (.iface src val)
    else panicString ("reflectlite.Set: value of type " ++ (← Rtype.spelt src) ++ " is not assignable to type " ++ (← Rtype.spelt dst))
    pure (.tuple #[])) := rfl
theorem asv_partsA (a : Addr) (w : World) : (ReflectliteValue.parts (.agg #[.pointer (some ⟨1, 142, none⟩), .pointer (some a), .int .u64 409])).run Tryz.prog w = .ok (some (142, a, 409)) w := by kernel_rfl
theorem asv_partsN (a : Addr) (w : World) : (ReflectliteValue.parts (.agg #[.pointer (some ⟨1, 142, none⟩), .pointer (some a), .int .u64 153])).run Tryz.prog w = .ok (some (142, a, 153)) w := by kernel_rfl
theorem asv_direct (w : World) : (Rtype.directlyAssignable 142 142).run Tryz.prog w = .ok true w := by kernel_rfl
theorem asv_set (ta b : Addr) (s : ByteArray) (old : Value) (W : World) (hb : W.cell? b = some (.string s)) (ht : W.cell? ta = some old) (hf : W.frozen? ta = false) :
    (ReflectliteValue.set #[.agg #[.pointer (some ⟨1, 142, none⟩), .pointer (some ta), .int .u64 409], .agg #[.pointer (some ⟨1, 142, none⟩), .pointer (some b), .int .u64 153]]).run Tryz.prog W
      = .ok (.tuple #[]) (W.setCell ta (.string s)) := by
  rw [rls]
  simp only [Sem.run_bind, asv_partsA, asv_partsN, Result.andThen]
  simp [ReflectliteValue.flagAddr, loadVar, loadCells, loadCellsFrom, hb, Result.andThen, asv_direct, storeVar, Value.cells, storeCells, Addr.add]
  rw [run_store Tryz.prog W ta _ _ (by rfl)]
  simp [ht, hf]

/-- The variable errors.errorType holds the handle of the type error. -/
def Laid (w : World) : Prop := w.cell? ⟨0, 0, none⟩ = some (.iface 188 (.agg #[.pointer (some ⟨1, 57, none⟩)]))

set_option maxRecDepth 20000 in
set_option maxHeartbeats 4000000 in
theorem as_hit (s : ByteArray) (t : Addr) (old : Value) (w : World) (hg : Laid w) (ht0 : w.cell? t = some old) (hf0 : w.frozen? t = false) :
    Calls Tryz.prog 98 #[.iface 142 (.agg #[.string s]), .iface 144 (.pointer (some t))] w fun ev w' => ev = .returned (.bool true) ∧ w' = ((((w.alloc (.cells #[.pointer (some t)] 144)).alloc (.cells #[.pointer (some ⟨1, 144, none⟩), .pointer (some ⟨w.heap.size, 0, none⟩), .int .u64 150] 168)).alloc (.cells #[.pointer (some ⟨1, 144, none⟩), .pointer (some ⟨w.heap.size, 0, none⟩), .int .u64 150] 168)).alloc (.cells #[.string s] 142)).setCell t (.string s) := by
  unfold Laid at hg
  have h6 := @run_callFunc_extern Tryz.prog 126 _ (fun args => ReflectliteValue.unpack (args.getD 0 (.tuple #[]))) Tryz.func126 (by kernel_rfl) (by kernel_rfl) (by kernel_rfl) (by kernel_rfl)
  have h7 := @run_callFunc_extern Tryz.prog 127 _ (ReflectliteValue.methodAny (ReflectliteValue.valueError "reflectlite.Value.Type" 0) (fun t _ _ _ => ReflectliteType.toType t)) Tryz.func127 (by kernel_rfl) (by kernel_rfl) (by kernel_rfl) (by kernel_rfl)
  have h8 := @run_callFunc_extern Tryz.prog 128 _ (ReflectliteValue.method (ReflectliteValue.valueError "reflectlite.Value.IsNil" 0) ReflectliteValue.isNil) Tryz.func128 (by kernel_rfl) (by kernel_rfl) (by kernel_rfl) (by kernel_rfl)
  have h27 := @run_callFunc_extern Tryz.prog 172 _ (ReflectliteType.abiMethod fun t => do pure (.int .u8 (← Rtype.kind t))) Tryz.func172 (by kernel_rfl) (by kernel_rfl) (by kernel_rfl) (by kernel_rfl)
  have h37 := @run_callFunc_extern Tryz.prog 186 _ (ReflectliteType.method ReflectliteType.elem) Tryz.func186 (by kernel_rfl) (by kernel_rfl) (by kernel_rfl) (by kernel_rfl)
  have h38 := @run_callFunc_extern Tryz.prog 187 _ (ReflectliteType.relation "Implements" ReflectliteType.implements_) Tryz.func187 (by kernel_rfl) (by kernel_rfl) (by kernel_rfl) (by kernel_rfl)
  have h10 := @run_callFunc_extern Tryz.prog 149 _ ReflectliteType.typeOf Tryz.func149 (by kernel_rfl) (by kernel_rfl) (by kernel_rfl) (by kernel_rfl)
  have h35 := @run_callFunc_extern Tryz.prog 184 _ (ReflectliteType.relation "AssignableTo" ReflectliteType.assignableTo) Tryz.func184 (by kernel_rfl) (by kernel_rfl) (by kernel_rfl) (by kernel_rfl)
  have h11 := @run_callFunc_extern Tryz.prog 150 _ (ReflectliteValue.method (ReflectliteValue.valueError "reflectlite.Value.Elem" 0) ReflectliteValue.elem) Tryz.func150 (by kernel_rfl) (by kernel_rfl) (by kernel_rfl) (by kernel_rfl)
  have h12 := @run_callFunc_extern Tryz.prog 151 _ ReflectliteValue.set Tryz.func151 (by kernel_rfl) (by kernel_rfl) (by kernel_rfl) (by kernel_rfl)
  have tO := asv_typeOf
  have mA := asv_mAssignable
  have a25 := asv_assignable
  have v25 := asv_valueN
  have f6 := asv_valueP
  have f7 := asv_typeP
  have mK := asv_mKind
  have mE := asv_mElem
  have mI := asv_mImplements
  have k27 := asv_kindP
  have k25 := asv_kindN
  have e27 := asv_elemT
  have i25 := asv_implements
  have n8 := asv_isNilP ⟨w.heap.size, 0, none⟩ t ((w.alloc (.cells #[.pointer (some t)] 144)).alloc (.cells #[.pointer (some ⟨1, 144, none⟩), .pointer (some ⟨w.heap.size, 0, none⟩), .int .u64 150] 168)) (by simp)
  have hlt : 0 < w.heap.size := by
    rcases Nat.eq_zero_or_pos w.heap.size with h0 | h
    · simp [World.cell?, h0] at hg
    · exact h
  have hgl : 0 < w.heap.size := World.block_lt_of_cell? w _ hg
  have hg2 : ((w.alloc (.cells #[.pointer (some t)] 144)).alloc (.cells #[.pointer (some ⟨1, 144, none⟩), .pointer (some ⟨w.heap.size, 0, none⟩), .int .u64 150] 168)).cell? ⟨0, 0, none⟩ = some (.iface 188 (.agg #[.pointer (some ⟨1, 57, none⟩)])) := by
    rw [World.cell?_alloc_lt _ _ ⟨0, 0, none⟩ (by first | (simp; done) | (simp; omega)), World.cell?_alloc_lt _ _ ⟨0, 0, none⟩ hgl]; exact hg
  have htl : t.block < w.heap.size := by
    rcases Nat.lt_or_ge t.block w.heap.size with h | h
    · exact h
    · simp [World.cell?, Array.getElem?_eq_none h] at ht0
  have el := asv_elemV ⟨w.heap.size, 0, none⟩ t (((w.alloc (.cells #[.pointer (some t)] 144)).alloc (.cells #[.pointer (some ⟨1, 144, none⟩), .pointer (some ⟨w.heap.size, 0, none⟩), .int .u64 150] 168)).alloc (.cells #[.pointer (some ⟨1, 144, none⟩), .pointer (some ⟨w.heap.size, 0, none⟩), .int .u64 150] 168)) (by rw [World.cell?_alloc_lt _ _ ⟨w.heap.size, 0, none⟩ (by simp; omega), World.cell?_alloc_lt _ _ ⟨w.heap.size, 0, none⟩ (by simp), World.cell?_alloc_at _ _ _ _ rfl]; simp)
  have st := asv_set t ⟨w.heap.size + 1 + 1 + 1, 0, none⟩ s old ((((w.alloc (.cells #[.pointer (some t)] 144)).alloc (.cells #[.pointer (some ⟨1, 144, none⟩), .pointer (some ⟨w.heap.size, 0, none⟩), .int .u64 150] 168)).alloc (.cells #[.pointer (some ⟨1, 144, none⟩), .pointer (some ⟨w.heap.size, 0, none⟩), .int .u64 150] 168)).alloc (.cells #[.string s] 142))
    (by rw [World.cell?_alloc_at _ _ _ _ (by simp)]; rfl)
    (by rw [World.cell?_alloc_lt _ _ t (by simp; omega), World.cell?_alloc_lt _ _ t (by simp; omega), World.cell?_alloc_lt _ _ t (by simp; omega), World.cell?_alloc_lt _ _ t htl]; exact ht0)
    (by rw [World.frozen?_alloc_old _ _ t (by simp; omega), World.frozen?_alloc_old _ _ t (by simp; omega), World.frozen?_alloc_old _ _ t (by simp; omega), World.frozen?_alloc_old _ _ t (Nat.ne_of_lt htl)]; exact hf0)
  go_enter Tryz.func98, Tryz.ntmps98
  go_wp2
  refine wp_loop_rounds 1 ?_
  rw [rounds_succ]
  go_wp2
  go_ret
  exact ⟨rfl, rfl⟩

theorem Laid.acc {w W : World} (h : Laid w) (a : Acc w W) : Laid W :=
  (Below.cell a (p := ⟨0, 0, none⟩) (World.block_lt_of_cell? w _ h)).trans h

theorem noFrac_any (w : World) : Calls Tryz.prog 115 #[] w fun e w' => ∃ s, e = .returned (.iface 142 (.agg #[.string s])) ∧ w = w' := by
  go_enter Tryz.func115, Tryz.ntmps115
  go_wp2
  go_ret
  exact ⟨_, rfl, rfl⟩
theorem isNone_nil (w : World) : Calls Tryz.prog 60 #[.nilIface] w fun e w' => e = .returned (.bool false) ∧ Below w.heap.size w w' := by
  go_enter Tryz.func60, Tryz.ntmps60
  go_wp2_with fail
  refine (as_nil _ _).mono ?_
  rintro e w1 ⟨rfl, rfl⟩
  go_wp2_with fail
  go_ret
  exact ⟨rfl, (Below.refl _ _).alloc (Nat.le_refl _) _⟩
theorem isNone_hit (s : ByteArray) (w : World) (hl : Laid w) : Calls Tryz.prog 60 #[.iface 142 (.agg #[.string s])] w fun e w' => e = .returned (.bool true) ∧ Below w.heap.size w w' := by
  have hA : ∀ o, Laid (w.alloc o) := fun o => hl.acc ((Acc.refl w).alloc o)
  go_enter Tryz.func60, Tryz.ntmps60
  go_wp2_with fail
  refine (as_hit s ⟨w.heap.size, 0, none⟩ _ _ (hA _) (by rw [World.cell?_alloc_at _ _ _ _ rfl]; rfl) (by simp)).mono ?_
  rintro e w1 ⟨rfl, rfl⟩
  go_wp2_with fail
  go_ret
  refine ⟨rfl, ?_⟩
  show Acc w _
  (repeat' (first | assumption | exact Acc.refl _ | refine Acc.drew ?_ | refine Acc.alloc ?_ _ | refine Acc.setCell ?_ (by omega) _))
set_option maxHeartbeats 1000000 in
theorem toldFrac_ok (x y z : Int) (w : World) : Calls Tryz.prog 39 #[.agg #[.int .i64 x, .int .i64 y, .int .i64 z], .nilIface] w (Gave (some (x, y, z)) w) := by
  go_enter Tryz.func39, Tryz.ntmps39
  go_wp2_with fail
  refine (isNone_nil _).mono ?_
  rintro e w1 ⟨rfl, hb⟩
  obtain ⟨q00, q01, q02⟩ := keep3 hb (b := w.heap.size) (x := .int .i64 x) (y := .int .i64 y) (z := .int .i64 z) (by go_simp)
  have kb0 : w.heap.size < w1.heap.size := World.block_lt_of_cell? _ _ q00
  obtain ⟨r0, r1, r2⟩ := keep3 hb (b := w.heap.size + 1) (x := .int .i64 0) (y := .int .i64 0) (z := .int .i64 0) (by go_simp)
  have kz : w.heap.size + 1 < w1.heap.size := World.block_lt_of_cell? _ _ r0
  obtain ⟨f0, f1, f2⟩ := keepf3 hb (b := w.heap.size + 1) (by go_simp) (by go_simp)
  have haw1 : Acc w w1 := by
    refine Acc.call ?_ hb
    (repeat' (first | assumption | exact Acc.refl _ | refine Acc.drew ?_ | refine Acc.alloc ?_ _ | refine Acc.setCell ?_ (by omega) _))
  clear hb
  go_wp2_with fail
  refine bodyPost_ret (v := .tuple #[.agg #[.int .i64 x, .int .i64 y, .int .i64 z], .bool true]) (by simp [results, Tryz.results39, go_sem, r0, r1, r2]) rfl ⟨rfl, ?_⟩
  show Acc w _
  (repeat' (first | assumption | exact Acc.refl _ | refine Acc.drew ?_ | refine Acc.alloc ?_ _ | refine Acc.setCell ?_ (by omega) _))

set_option maxHeartbeats 1000000 in
theorem toldFrac_err (x y z : Int) (s : ByteArray) (w : World) (hl : Laid w) : Calls Tryz.prog 39 #[.agg #[.int .i64 x, .int .i64 y, .int .i64 z], .iface 142 (.agg #[.string s])] w (Gave none w) := by
  have HL := Lib.hid fun W (a : Acc w W) => hl.acc a
  clear hl
  go_enter Tryz.func39, Tryz.ntmps39
  go_wp2_with fail
  refine (isNone_hit s _ (HL.out _ (by repeat' (first | assumption | exact Acc.refl _ | refine Acc.drew ?_ | refine Acc.alloc ?_ _ | refine Acc.setCell ?_ (by omega) _)))).mono ?_
  rintro e w1 ⟨rfl, hb⟩
  obtain ⟨q00, q01, q02⟩ := keep3 hb (b := w.heap.size) (x := .int .i64 x) (y := .int .i64 y) (z := .int .i64 z) (by go_simp)
  have kb0 : w.heap.size < w1.heap.size := World.block_lt_of_cell? _ _ q00
  obtain ⟨r0, r1, r2⟩ := keep3 hb (b := w.heap.size + 1) (x := .int .i64 0) (y := .int .i64 0) (z := .int .i64 0) (by go_simp)
  have kz : w.heap.size + 1 < w1.heap.size := World.block_lt_of_cell? _ _ r0
  obtain ⟨f0, f1, f2⟩ := keepf3 hb (b := w.heap.size + 1) (by go_simp) (by go_simp)
  have haw1 : Acc w w1 := by
    refine Acc.call ?_ hb
    (repeat' (first | assumption | exact Acc.refl _ | refine Acc.drew ?_ | refine Acc.alloc ?_ _ | refine Acc.setCell ?_ (by omega) _))
  clear hb
  go_wp2_with fail
  refine bodyPost_ret (v := .tuple #[.agg #[.int .i64 0, .int .i64 0, .int .i64 0], .bool false]) (by simp [results, Tryz.results39, go_sem, r0, r1, r2, kz]) rfl ⟨rfl, ?_⟩
  show Acc w _
  (repeat' (first | assumption | exact Acc.refl _ | refine Acc.drew ?_ | refine Acc.alloc ?_ _ | refine Acc.setCell ?_ (by omega) _))

theorem tmod_range {x y : Int} (h : y ≠ 0) (hy : -9223372036854775808 ≤ y ∧ y ≤ 9223372036854775807) : -9223372036854775807 ≤ x.tmod y ∧ x.tmod y ≤ 9223372036854775807 := by
  have := tmod_bound x y h
  omega
set_option maxHeartbeats 1000000 in
theorem divisor_any (a b : Int) (w : World) (ha : 1 ≤ a ∧ a ≤ 9223372036854775807) (hb : i64B b) :
    Calls Tryz.prog 116 #[.int .i64 a, .int .i64 b] w fun e w' => e = .returned (.int .i64 (Int.gcd a b)) ∧ Bare w w' := by
  obtain ⟨ha1, ha2⟩ := ha
  obtain ⟨hb1, hb2⟩ := hb
  have HL : Hid ((Int.gcd a b : Int) ≤ 9223372036854775807) := Lib.hid (by have := gcd_le_of (b := b) (m := 9223372036854775807) (show 0 < a by omega) (by omega); omega)
  go_enter Tryz.func116, Tryz.ntmps116
  go_wp2
  go_loopw [0, 1] (fun u v W => ∃ x y : Int, u = .int .i64 x ∧ v = .int .i64 y ∧ -9223372036854775808 ≤ x ∧ x ≤ 9223372036854775807 ∧ -9223372036854775808 ≤ y ∧ y ≤ 9223372036854775807 ∧ Hid (Int.gcd x y = Int.gcd a b) ∧ Bare w W) (fun _ v _ => (intOf v).natAbs)
  case atStart => exact ⟨a, b, rfl, rfl, by omega, ha2, hb1, hb2, Lib.hid rfl, fun _ => Below.refl _ _⟩
  case round =>
    obtain ⟨x, y, rfl, rfl, hx1, hx2, hy1, hy2, hg, hB⟩ := hrel
    have HBa := Lib.hid hB
    clear ha1 ha2 hb1 hb2 hB
    by_cases h0 : y = 0
    · subst h0
      have hg' := hg.out
      have hl := HL.out
      rw [Int.gcd_zero_right] at hg'
      have hx3 : -9223372036854775807 ≤ x := by omega
      have HG := Lib.hid hg'
      clear hg hg' hl
      go_wp2
      all_goals
        go_ret
        have hg := HG.out
        exact ⟨ret_int (by omega), HBa.out⟩
    · have hb := Lib.hid (tmod_bound x y h0)
      obtain ⟨hr1, hr2⟩ := tmod_range (x := x) h0 ⟨hy1, hy2⟩
      go_wp2
      go_quiet (fail)
      go_wp2
      go_roundw
      case rel =>
        have hb' := hb.out
        have h3 := gcd_step x y
        have hB' := HBa.out
        generalize x.tmod y = r at *
        exact ⟨y, r, rfl, rfl, hy1, hy2, by omega, by omega, Lib.hid (h3.trans hg.out), hB'.trans (bare_drewN _ _)⟩
      case measure => exact hb.out
theorem partFits_of (n : Int) (b : Bool) (h : partB n = b) (w : World) :
    Calls Tryz.prog 117 #[.int .i64 n] w fun e w' => e = .returned (.bool b) ∧ w' = w := by
  by_cases h1 : -2000000000 ≤ n
  · by_cases h2 : n ≤ 2000000000
    · obtain rfl : b = true := by rw [← h]; simp [partB, inB, h1, h2]
      clear h
      go_enter Tryz.func117, Tryz.ntmps117
      go_wp2
      go_ret
      exact ⟨rfl, rfl⟩
    · obtain rfl : b = false := by rw [← h]; simp [partB, inB, h1, h2]
      clear h
      go_enter Tryz.func117, Tryz.ntmps117
      go_wp2
      go_ret
      exact ⟨rfl, rfl⟩
  · obtain rfl : b = false := by rw [← h]; simp [partB, inB, h1]
    clear h
    go_enter Tryz.func117, Tryz.ntmps117
    go_wp2
    go_ret
    exact ⟨rfl, rfl⟩
/-- A fraction and no error, or the zero value and an error. -/
def Erred (o : Option (Int × Int × Int)) (w : World) (e : Ending) (w' : World) : Prop :=
  (∀ x y z, o = some (x, y, z) → e = .returned (.tuple #[.agg #[.int .i64 x, .int .i64 y, .int .i64 z], .nilIface])) ∧ (o = none → ∃ s, e = .returned (.tuple #[.agg #[.int .i64 0, .int .i64 0, .int .i64 0], .iface 142 (.agg #[.string s])])) ∧ Below w.heap.size w w'
set_option maxHeartbeats 2000000 in
theorem lowest_any (re im den : Int) (w : World) (h1 : i64B re) (h2 : i64B im) (h3 : i64B den) :
    Calls Tryz.prog 80 #[.int .i64 re, .int .i64 im, .int .i64 den] w (Erred (lowE re im den) w) := by
  obtain ⟨h1a, h1b⟩ := h1
  obtain ⟨h2a, h2b⟩ := h2
  obtain ⟨h3a, h3b⟩ := h3
  by_cases hd1 : den < 1
  · have e : lowE re im den = none := by unfold lowE; rw [if_pos hd1]
    rw [e]; clear e
    go_enter Tryz.func80, Tryz.ntmps80
    go_wp2_with fail
    refine (noFrac_any _).mono ?_
    rintro e w1 ⟨s, rfl, rfl⟩
    go_wp2_with fail
    refine bodyPost_ret (v := .tuple #[.agg #[.int .i64 0, .int .i64 0, .int .i64 0], .iface 142 (.agg #[.string s])]) (by simp [results, Tryz.results80, go_sem, World.cell?_alloc_at]) rfl ?_
    refine ⟨fun _ _ _ h => (by cases h), fun _ => ⟨_, rfl⟩, ?_⟩
    show Acc w _
    (repeat' (first | assumption | exact Acc.refl _ | refine Acc.drew ?_ | refine Acc.alloc ?_ _ | refine Acc.setCell ?_ (by omega) _))
  obtain ⟨g, hg⟩ : ∃ g : Nat, Int.gcd den re = g := ⟨_, rfl⟩
  obtain ⟨k, hk⟩ : ∃ k : Nat, Int.gcd g im = k := ⟨_, rfl⟩
  have e3 : gcd3 re im den = k := by unfold gcd3; rw [hg, hk]
  have k1 : 0 < k := e3 ▸ gcd3_pos (by omega)
  have g0 : 0 < g := hg ▸ Int.gcd_pos_of_ne_zero_left _ (by omega)
  have g1 : g ≤ 9223372036854775807 := hg ▸ gcd_le_of (by omega) (by omega)
  have C1 : ∀ w, _ := fun w => divisor_any den re w (by omega) ⟨h1a, h1b⟩
  have C2 : ∀ w, _ := fun w => divisor_any g im w (by omega) ⟨h2a, h2b⟩
  rw [hg] at C1
  rw [hk] at C2
  have e4 : lowE re im den = if (partB (re.tdiv k) && partB (im.tdiv k) && decide (den / (k : Int) ≤ 2000000000)) = true then some (re.tdiv k, im.tdiv k, den / (k : Int)) else none := by
    unfold lowE
    rw [if_neg hd1, lowF_eq (by omega), e3]
  obtain ⟨r, hr⟩ : ∃ r, re.tdiv (k : Int) = r := ⟨_, rfl⟩
  obtain ⟨i, hi⟩ : ∃ i, im.tdiv (k : Int) = i := ⟨_, rfl⟩
  obtain ⟨d, hd⟩ : ∃ d, den / (k : Int) = d := ⟨_, rfl⟩
  rw [hr, hi, hd] at e4
  rw [e4]
  have D1 := Lib.hid C1
  have D2 := Lib.hid C2
  have HR := Lib.hid hr
  have HI := Lib.hid hi
  have HD := Lib.hid hd
  clear hr hi hd
  clear C1 C2 e3 e4 hg hk
  have hk0 : ((k : Int) == 0) = false := by simp; omega
  cases p1 : partB r with
  | false =>
    have P1 := Lib.hid p1
    clear p1
    simp only [Bool.false_and, Bool.false_eq_true, if_false]
    go_enter Tryz.func80, Tryz.ntmps80
    go_wp2_with fail
    refine (D1.out _).mono ?_
    rintro e w1 ⟨rfl, hb⟩
    have haw1 : Acc w w1 := Acc.call ((Acc.refl w).alloc _) (hb _)
    obtain ⟨r0, r1, r2⟩ := keep3 (hb _) (b := w.heap.size) (x := .int .i64 0) (y := .int .i64 0) (z := .int .i64 0) (by go_simp)
    obtain ⟨f0, f1, f2⟩ := keepf3 (hb _) (b := w.heap.size) (by go_simp) (by go_simp)
    have k0 := r0
    clear hb
    go_wp2_with fail
    refine (D2.out _).mono ?_
    rintro e w2 ⟨rfl, hb⟩
    have haw2 : Acc w w2 := Acc.call haw1 (hb _)
    obtain ⟨r0, r1, r2⟩ := keep3 (hb _) (b := w.heap.size) (x := .int .i64 0) (y := .int .i64 0) (z := .int .i64 0) (by go_simp)
    obtain ⟨f0, f1, f2⟩ := keepf3 (hb _) (b := w.heap.size) (World.block_lt_of_cell? _ _ (show w1.cell? ⟨w.heap.size, 0, none⟩ = _ from k0)) ⟨f0, f1, f2⟩
    have kz : w.heap.size < w2.heap.size := World.block_lt_of_cell? _ _ r0
    clear hb haw1 k0
    go_wp2_with fail
    go_region
    go_wp2_with fail
    rw [HR.out, HI.out, HD.out]
    refine (partFits_of r false P1.out _).mono ?_
    rintro e w3 ⟨rfl, rfl⟩
    go_wp2_with fail
    refine (noFrac_any _).mono ?_
    rintro e w3 ⟨s, rfl, rfl⟩
    go_wp2_with fail
    refine bodyPost_ret (v := .tuple #[.agg #[.int .i64 0, .int .i64 0, .int .i64 0], .iface 142 (.agg #[.string s])]) (by simp [results, Tryz.results80, go_sem, r0, r1, r2, kz]) rfl ?_
    refine ⟨fun _ _ _ h => (by cases h), fun _ => ⟨_, rfl⟩, ?_⟩
    show Acc w _
    (repeat' (first | assumption | exact Acc.refl _ | refine Acc.drew ?_ | refine Acc.alloc ?_ _ | refine Acc.setCell ?_ (by omega) _))
  | true =>
  have P1 := Lib.hid p1
  clear p1
  cases p2 : partB i with
  | false =>
    have P2 := Lib.hid p2
    clear p2
    simp only [Bool.and_false, Bool.false_and, Bool.false_eq_true, if_false]
    go_enter Tryz.func80, Tryz.ntmps80
    go_wp2_with fail
    refine (D1.out _).mono ?_
    rintro e w1 ⟨rfl, hb⟩
    have haw1 : Acc w w1 := Acc.call ((Acc.refl w).alloc _) (hb _)
    obtain ⟨r0, r1, r2⟩ := keep3 (hb _) (b := w.heap.size) (x := .int .i64 0) (y := .int .i64 0) (z := .int .i64 0) (by go_simp)
    obtain ⟨f0, f1, f2⟩ := keepf3 (hb _) (b := w.heap.size) (by go_simp) (by go_simp)
    have k0 := r0
    clear hb
    go_wp2_with fail
    refine (D2.out _).mono ?_
    rintro e w2 ⟨rfl, hb⟩
    have haw2 : Acc w w2 := Acc.call haw1 (hb _)
    obtain ⟨r0, r1, r2⟩ := keep3 (hb _) (b := w.heap.size) (x := .int .i64 0) (y := .int .i64 0) (z := .int .i64 0) (by go_simp)
    obtain ⟨f0, f1, f2⟩ := keepf3 (hb _) (b := w.heap.size) (World.block_lt_of_cell? _ _ (show w1.cell? ⟨w.heap.size, 0, none⟩ = _ from k0)) ⟨f0, f1, f2⟩
    have kz : w.heap.size < w2.heap.size := World.block_lt_of_cell? _ _ r0
    clear hb haw1 k0
    go_wp2_with fail
    go_region
    go_wp2_with fail
    rw [HR.out, HI.out, HD.out]
    refine (partFits_of r true P1.out _).mono ?_
    rintro e w3 ⟨rfl, rfl⟩
    go_wp2_with fail
    refine (partFits_of i false P2.out _).mono ?_
    rintro e w3 ⟨rfl, rfl⟩
    go_wp2_with fail
    refine (noFrac_any _).mono ?_
    rintro e w3 ⟨s, rfl, rfl⟩
    go_wp2_with fail
    refine bodyPost_ret (v := .tuple #[.agg #[.int .i64 0, .int .i64 0, .int .i64 0], .iface 142 (.agg #[.string s])]) (by simp [results, Tryz.results80, go_sem, r0, r1, r2, kz]) rfl ?_
    refine ⟨fun _ _ _ h => (by cases h), fun _ => ⟨_, rfl⟩, ?_⟩
    show Acc w _
    (repeat' (first | assumption | exact Acc.refl _ | refine Acc.drew ?_ | refine Acc.alloc ?_ _ | refine Acc.setCell ?_ (by omega) _))
  | true =>
  have P2 := Lib.hid p2
  clear p2
  by_cases p3 : d ≤ 2000000000
  · rw [if_pos (by simp [p3])]
    go_enter Tryz.func80, Tryz.ntmps80
    go_wp2_with fail
    refine (D1.out _).mono ?_
    rintro e w1 ⟨rfl, hb⟩
    have haw1 : Acc w w1 := Acc.call ((Acc.refl w).alloc _) (hb _)
    obtain ⟨r0, r1, r2⟩ := keep3 (hb _) (b := w.heap.size) (x := .int .i64 0) (y := .int .i64 0) (z := .int .i64 0) (by go_simp)
    obtain ⟨f0, f1, f2⟩ := keepf3 (hb _) (b := w.heap.size) (by go_simp) (by go_simp)
    have k0 := r0
    clear hb
    go_wp2_with fail
    refine (D2.out _).mono ?_
    rintro e w2 ⟨rfl, hb⟩
    have haw2 : Acc w w2 := Acc.call haw1 (hb _)
    obtain ⟨r0, r1, r2⟩ := keep3 (hb _) (b := w.heap.size) (x := .int .i64 0) (y := .int .i64 0) (z := .int .i64 0) (by go_simp)
    obtain ⟨f0, f1, f2⟩ := keepf3 (hb _) (b := w.heap.size) (World.block_lt_of_cell? _ _ (show w1.cell? ⟨w.heap.size, 0, none⟩ = _ from k0)) ⟨f0, f1, f2⟩
    have kz : w.heap.size < w2.heap.size := World.block_lt_of_cell? _ _ r0
    clear hb haw1 k0
    go_wp2_with fail
    go_region
    go_wp2_with fail
    rw [HR.out, HI.out, HD.out]
    refine (partFits_of r true P1.out _).mono ?_
    rintro e w3 ⟨rfl, rfl⟩
    go_wp2_with fail
    refine (partFits_of i true P2.out _).mono ?_
    rintro e w3 ⟨rfl, rfl⟩
    go_wp2_with fail
    refine bodyPost_ret (v := .tuple #[.agg #[.int .i64 r, .int .i64 i, .int .i64 d], .nilIface]) (by simp [results, Tryz.results80, go_sem, r0, r1, r2, kz]) rfl ?_
    refine ⟨fun _ _ _ h => (by cases h; rfl), fun h => (by cases h), ?_⟩
    show Acc w _
    (repeat' (first | assumption | exact Acc.refl _ | refine Acc.drew ?_ | refine Acc.alloc ?_ _ | refine Acc.setCell ?_ (by omega) _))
  · rw [if_neg (by simp [p3])]
    go_enter Tryz.func80, Tryz.ntmps80
    go_wp2_with fail
    refine (D1.out _).mono ?_
    rintro e w1 ⟨rfl, hb⟩
    have haw1 : Acc w w1 := Acc.call ((Acc.refl w).alloc _) (hb _)
    obtain ⟨r0, r1, r2⟩ := keep3 (hb _) (b := w.heap.size) (x := .int .i64 0) (y := .int .i64 0) (z := .int .i64 0) (by go_simp)
    obtain ⟨f0, f1, f2⟩ := keepf3 (hb _) (b := w.heap.size) (by go_simp) (by go_simp)
    have k0 := r0
    clear hb
    go_wp2_with fail
    refine (D2.out _).mono ?_
    rintro e w2 ⟨rfl, hb⟩
    have haw2 : Acc w w2 := Acc.call haw1 (hb _)
    obtain ⟨r0, r1, r2⟩ := keep3 (hb _) (b := w.heap.size) (x := .int .i64 0) (y := .int .i64 0) (z := .int .i64 0) (by go_simp)
    obtain ⟨f0, f1, f2⟩ := keepf3 (hb _) (b := w.heap.size) (World.block_lt_of_cell? _ _ (show w1.cell? ⟨w.heap.size, 0, none⟩ = _ from k0)) ⟨f0, f1, f2⟩
    have kz : w.heap.size < w2.heap.size := World.block_lt_of_cell? _ _ r0
    clear hb haw1 k0
    go_wp2_with fail
    go_region
    go_wp2_with fail
    rw [HR.out, HI.out, HD.out]
    refine (partFits_of r true P1.out _).mono ?_
    rintro e w3 ⟨rfl, rfl⟩
    go_wp2_with fail
    refine (partFits_of i true P2.out _).mono ?_
    rintro e w3 ⟨rfl, rfl⟩
    go_wp2_with fail
    refine (noFrac_any _).mono ?_
    rintro e w3 ⟨s, rfl, rfl⟩
    go_wp2_with fail
    refine bodyPost_ret (v := .tuple #[.agg #[.int .i64 0, .int .i64 0, .int .i64 0], .iface 142 (.agg #[.string s])]) (by simp [results, Tryz.results80, go_sem, r0, r1, r2, kz]) rfl ?_
    refine ⟨fun _ _ _ h => (by cases h), fun _ => ⟨_, rfl⟩, ?_⟩
    show Acc w _
    (repeat' (first | assumption | exact Acc.refl _ | refine Acc.drew ?_ | refine Acc.alloc ?_ _ | refine Acc.setCell ?_ (by omega) _))

/-- No error if it is one, else an error. -/
def Checked (k : Bool) (w : World) (e : Ending) (w' : World) : Prop :=
  (k = true → e = .returned .nilIface) ∧ (k = false → ∃ s, e = .returned (.iface 142 (.agg #[.string s]))) ∧ Below w.heap.size w w'
set_option maxHeartbeats 2000000 in
theorem check_any (x y z : Int) (w : World) (hx : i64B x) (hy : i64B y) (hz : i64B z) :
    Calls Tryz.prog 114 #[.agg #[.int .i64 x, .int .i64 y, .int .i64 z]] w (Checked (okF x y z) w) := by
  cases ho : okF x y z with
  | true =>
    have hl := okF_low.1 ho
    have HL := Lib.hid hl
    clear ho hl
    go_enter Tryz.func114, Tryz.ntmps114
    go_wp2_with fail
    refine (lowest_any x y z _ hx hy hz).mono ?_
    rintro e w1 ⟨h1, -, hb⟩
    obtain rfl := h1 _ _ _ HL.out
    clear h1
    obtain ⟨q00, q01, q02⟩ := keep3 hb (b := w.heap.size) (x := .int .i64 x) (y := .int .i64 y) (z := .int .i64 z) (by go_simp)
    have kb0 : w.heap.size < w1.heap.size := World.block_lt_of_cell? _ _ q00
    have haw1 : Acc w w1 := by
      refine Acc.call ?_ hb
      (repeat' (first | assumption | exact Acc.refl _ | refine Acc.drew ?_ | refine Acc.alloc ?_ _ | refine Acc.setCell ?_ (by omega) _))
    clear hb
    go_wp2_with fail
    go_ret
    exact ⟨fun _ => rfl, fun h => (by cases h), haw1.alloc _⟩
  | false =>
    have HN : lowE x y z ≠ some (x, y, z) := fun h => (by rw [okF_low.2 h] at ho; cases ho)
    clear ho
    cases hl : lowE x y z with
    | none =>
      have HL := Lib.hid hl
      clear hl HN
      go_enter Tryz.func114, Tryz.ntmps114
      go_wp2_with fail
      refine (lowest_any x y z _ hx hy hz).mono ?_
      rintro e w1 ⟨-, h1, hb⟩
      obtain ⟨s, rfl⟩ := h1 HL.out
      clear h1
      obtain ⟨q00, q01, q02⟩ := keep3 hb (b := w.heap.size) (x := .int .i64 x) (y := .int .i64 y) (z := .int .i64 z) (by go_simp)
      have kb0 : w.heap.size < w1.heap.size := World.block_lt_of_cell? _ _ q00
      have haw1 : Acc w w1 := by
        refine Acc.call ?_ hb
        (repeat' (first | assumption | exact Acc.refl _ | refine Acc.drew ?_ | refine Acc.alloc ?_ _ | refine Acc.setCell ?_ (by omega) _))
      clear hb
      go_wp2_with fail
      refine (noFrac_any _).mono ?_
      rintro e w2 ⟨s, rfl, rfl⟩
      go_wp2_with fail
      go_ret
      exact ⟨fun h => (by cases h), fun _ => ⟨_, rfl⟩, haw1.alloc _⟩
    | some v =>
      obtain ⟨p, q, r⟩ := v
      have HL := Lib.hid hl
      have hne : (x == p && y == q && z == r) = false := by
        cases hh : (x == p && y == q && z == r) with
        | false => rfl
        | true =>
          simp only [Bool.and_eq_true, beq_iff_eq] at hh
          obtain ⟨⟨rfl, rfl⟩, rfl⟩ := hh
          exact absurd hl HN
      have NE := Lib.hid hne
      clear hl HN hne
      go_enter Tryz.func114, Tryz.ntmps114
      go_wp2_with fail
      refine (lowest_any x y z _ hx hy hz).mono ?_
      rintro e w1 ⟨h1, -, hb⟩
      obtain rfl := h1 _ _ _ HL.out
      clear h1
      obtain ⟨q00, q01, q02⟩ := keep3 hb (b := w.heap.size) (x := .int .i64 x) (y := .int .i64 y) (z := .int .i64 z) (by go_simp)
      have kb0 : w.heap.size < w1.heap.size := World.block_lt_of_cell? _ _ q00
      have haw1 : Acc w w1 := by
        refine Acc.call ?_ hb
        (repeat' (first | assumption | exact Acc.refl _ | refine Acc.drew ?_ | refine Acc.alloc ?_ _ | refine Acc.setCell ?_ (by omega) _))
      clear hb
      go_wp2_with fail
      all_goals
        first
          | (exfalso; have hne := NE.out; simp only [Bool.and_eq_false_iff, beq_eq_false_iff_ne] at hne; omega)
          | (refine (noFrac_any _).mono ?_
             rintro e w2 ⟨s, rfl, rfl⟩
             go_wp2_with fail
             go_ret
             exact ⟨fun h => (by cases h), fun _ => ⟨_, rfl⟩, haw1.alloc _⟩)
set_option maxHeartbeats 2000000 in
theorem checkBoth_any (x y z a b c : Int) (w : World) (hx : i64B x) (hy : i64B y) (hz : i64B z) (ha : i64B a) (hb : i64B b) (hc : i64B c) :
    Calls Tryz.prog 79 #[.agg #[.int .i64 x, .int .i64 y, .int .i64 z], .agg #[.int .i64 a, .int .i64 b, .int .i64 c]] w (Checked (okF x y z && okF a b c) w) := by
  have hb' := hb
  clear hb
  cases ho : okF x y z with
  | false =>
    have HO := Lib.hid ho
    clear ho
    simp only [Bool.false_and]
    go_enter Tryz.func79, Tryz.ntmps79
    go_wp2_with fail
    refine (check_any x y z _ hx hy hz).mono ?_
    rintro e w1 ⟨-, h1, hb⟩
    obtain ⟨s, rfl⟩ := h1 HO.out
    clear h1
    obtain ⟨q00, q01, q02⟩ := keep3 hb (b := w.heap.size) (x := .int .i64 x) (y := .int .i64 y) (z := .int .i64 z) (by go_simp)
    have kb0 : w.heap.size < w1.heap.size := World.block_lt_of_cell? _ _ q00
    obtain ⟨q10, q11, q12⟩ := keep3 hb (b := w.heap.size + 1) (x := .int .i64 a) (y := .int .i64 b) (z := .int .i64 c) (by go_simp)
    have kb1 : w.heap.size + 1 < w1.heap.size := World.block_lt_of_cell? _ _ q10
    have haw1 : Acc w w1 := by
      refine Acc.call ?_ hb
      (repeat' (first | assumption | exact Acc.refl _ | refine Acc.drew ?_ | refine Acc.alloc ?_ _ | refine Acc.setCell ?_ (by omega) _))
    clear hb
    go_wp2_with fail
    go_ret
    exact ⟨fun h => (by cases h), fun _ => ⟨_, rfl⟩, haw1⟩
  | true =>
    have HO := Lib.hid ho
    clear ho
    simp only [Bool.true_and]
    go_enter Tryz.func79, Tryz.ntmps79
    go_wp2_with fail
    refine (check_any x y z _ hx hy hz).mono ?_
    rintro e w1 ⟨h1, -, hb⟩
    obtain rfl := h1 HO.out
    clear h1
    obtain ⟨q00, q01, q02⟩ := keep3 hb (b := w.heap.size) (x := .int .i64 x) (y := .int .i64 y) (z := .int .i64 z) (by go_simp)
    have kb0 : w.heap.size < w1.heap.size := World.block_lt_of_cell? _ _ q00
    obtain ⟨q10, q11, q12⟩ := keep3 hb (b := w.heap.size + 1) (x := .int .i64 a) (y := .int .i64 b) (z := .int .i64 c) (by go_simp)
    have kb1 : w.heap.size + 1 < w1.heap.size := World.block_lt_of_cell? _ _ q10
    have haw1 : Acc w w1 := by
      refine Acc.call ?_ hb
      (repeat' (first | assumption | exact Acc.refl _ | refine Acc.drew ?_ | refine Acc.alloc ?_ _ | refine Acc.setCell ?_ (by omega) _))
    clear hb
    go_wp2_with fail
    refine (check_any a b c _ ha hb' hc).mono ?_
    rintro e w2 ⟨h1, h2, hb⟩
    have haw2 : Acc w w2 := by
      refine Acc.call ?_ hb
      (repeat' (first | assumption | exact Acc.refl _ | refine Acc.drew ?_ | refine Acc.alloc ?_ _ | refine Acc.setCell ?_ (by omega) _))
    clear hb
    cases ho2 : okF a b c with
    | true =>
      obtain rfl := h1 ho2
      clear h1 h2
      go_wp2_with fail
      go_ret
      exact ⟨fun _ => rfl, fun h => (by rw [ho2] at h; cases h), haw2⟩
    | false =>
      obtain ⟨s, rfl⟩ := h2 ho2
      clear h1 h2
      go_wp2_with fail
      go_ret
      exact ⟨fun h => (by rw [ho2] at h; cases h), fun _ => ⟨_, rfl⟩, haw2⟩
set_option maxHeartbeats 1000000 in
theorem opposite_any (a b c a' b' : Int) (w : World) (ha : RowKit.wrap64 (-a) = a') (hb : RowKit.wrap64 (-b) = b') :
    Calls Tryz.prog 124 #[.agg #[.int .i64 a, .int .i64 b, .int .i64 c]] w fun e w' => e = .returned (.agg #[.int .i64 a', .int .i64 b', .int .i64 c]) ∧ Below w.heap.size w w' := by
  have HA' := Lib.hid ha
  have HB' := Lib.hid hb
  clear ha hb
  go_enter Tryz.func124, Tryz.ntmps124
  go_wp2_with fail
  rw [HA'.out, HB'.out]
  refine bodyPost_ret (v := .agg #[.int .i64 a', .int .i64 b', .int .i64 c]) (by simp [results, Tryz.results124, go_sem]) rfl ⟨rfl, ?_⟩
  show Acc w _
  (repeat' (first | assumption | exact Acc.refl _ | refine Acc.drew ?_ | refine Acc.alloc ?_ _ | refine Acc.setCell ?_ (by omega) _))

set_option maxHeartbeats 2000000 in
theorem plus_any (x y z a b c : Int) (w : World) (hx : i64B x) (hy : i64B y) (hz : i64B z) (ha : i64B a) (hb : i64B b) (hc : i64B c) :
    Calls Tryz.prog 96 #[.agg #[.int .i64 x, .int .i64 y, .int .i64 z], .agg #[.int .i64 a, .int .i64 b, .int .i64 c]] w (Erred (sumF 1 x y z a b c) w) := by
  have hb' := hb
  clear hb
  cases hk : (okF x y z && okF a b c) with
  | false =>
    have e : sumF 1 x y z a b c = none := by unfold sumF; rw [hk]; rfl
    rw [e]
    have HK := Lib.hid hk
    clear hk e
    go_enter Tryz.func96, Tryz.ntmps96
    go_wp2_with fail
    refine (checkBoth_any x y z a b c _ hx hy hz ha hb' hc).mono ?_
    rintro e w1 ⟨-, h1, hb⟩
    obtain ⟨s, rfl⟩ := h1 HK.out
    clear h1
    obtain ⟨q00, q01, q02⟩ := keep3 hb (b := w.heap.size) (x := .int .i64 x) (y := .int .i64 y) (z := .int .i64 z) (by go_simp)
    have kb0 : w.heap.size < w1.heap.size := World.block_lt_of_cell? _ _ q00
    obtain ⟨q10, q11, q12⟩ := keep3 hb (b := w.heap.size + 1) (x := .int .i64 a) (y := .int .i64 b) (z := .int .i64 c) (by go_simp)
    have kb1 : w.heap.size + 1 < w1.heap.size := World.block_lt_of_cell? _ _ q10
    obtain ⟨r0, r1, r2⟩ := keep3 hb (b := w.heap.size + 1 + 1) (x := .int .i64 0) (y := .int .i64 0) (z := .int .i64 0) (by go_simp)
    have kz : w.heap.size + 1 + 1 < w1.heap.size := World.block_lt_of_cell? _ _ r0
    obtain ⟨f0, f1, f2⟩ := keepf3 hb (b := w.heap.size + 1 + 1) (by go_simp) (by go_simp)
    have haw1 : Acc w w1 := by
      refine Acc.call ?_ hb
      (repeat' (first | assumption | exact Acc.refl _ | refine Acc.drew ?_ | refine Acc.alloc ?_ _ | refine Acc.setCell ?_ (by omega) _))
    clear hb
    go_wp2_with fail
    refine bodyPost_ret (v := .tuple #[.agg #[.int .i64 0, .int .i64 0, .int .i64 0], .iface 142 (.agg #[.string s])]) (by simp [results, Tryz.results96, go_sem, r0, r1, r2]) rfl ?_
    refine ⟨fun _ _ _ h => (by cases h), fun _ => ⟨_, rfl⟩, ?_⟩
    show Acc w _
    (repeat' (first | assumption | exact Acc.refl _ | refine Acc.drew ?_ | refine Acc.alloc ?_ _ | refine Acc.setCell ?_ (by omega) _))
  | true =>
    obtain ⟨k1, k2⟩ : okF x y z = true ∧ okF a b c = true := by simpa using hk
    obtain ⟨⟨x0, x1⟩, ⟨y0, y1⟩, ⟨z0, z1⟩⟩ := okF_bd k1
    obtain ⟨⟨a0, a1⟩, ⟨b0, b1⟩, ⟨c0, c1⟩⟩ := okF_bd k2
    have m1 := mul_bd (a := x) (b := c) (m := 2000000000) (n := 2000000000) (by omega) (by omega) (by omega) (by omega)
    have m2 := mul_bd (a := a) (b := z) (m := 2000000000) (n := 2000000000) (by omega) (by omega) (by omega) (by omega)
    have m3 := mul_bd (a := y) (b := c) (m := 2000000000) (n := 2000000000) (by omega) (by omega) (by omega) (by omega)
    have m4 := mul_bd (a := b) (b := z) (m := 2000000000) (n := 2000000000) (by omega) (by omega) (by omega) (by omega)
    have m5 := mul_bd (a := z) (b := c) (m := 2000000000) (n := 2000000000) (by omega) (by omega) (by omega) (by omega)
    have m6 : 1 ≤ z * c := by have := Int.mul_le_mul (a := 1) (b := 1) (c := z) (d := c) (by omega) (by omega) (by omega) (by omega); omega
    have N1 : -4000000000000000000 ≤ x * c := by omega
    have N2 : x * c ≤ 4000000000000000000 := by omega
    have N3 : -4000000000000000000 ≤ a * z := by omega
    have N4 : a * z ≤ 4000000000000000000 := by omega
    have N5 : -4000000000000000000 ≤ y * c := by omega
    have N6 : y * c ≤ 4000000000000000000 := by omega
    have N7 : -4000000000000000000 ≤ b * z := by omega
    have N8 : b * z ≤ 4000000000000000000 := by omega
    have N9 : z * c ≤ 4000000000000000000 := by omega
    clear m1 m2 m3 m4 m5
    have e : sumF 1 x y z a b c = lowE (x * c + a * z) (y * c + b * z) (z * c) := by
      unfold sumF lowE
      rw [hk, if_neg (show ¬ z * c < 1 by omega)]
      simp only [if_true, Int.one_mul]
    rw [e]
    have HK := Lib.hid hk
    clear hk k1 k2 e
    go_enter Tryz.func96, Tryz.ntmps96
    go_wp2_with fail
    refine (checkBoth_any x y z a b c _ hx hy hz ha hb' hc).mono ?_
    rintro e w1 ⟨h1, -, hb⟩
    obtain rfl := h1 HK.out
    clear h1
    obtain ⟨q00, q01, q02⟩ := keep3 hb (b := w.heap.size) (x := .int .i64 x) (y := .int .i64 y) (z := .int .i64 z) (by go_simp)
    have kb0 : w.heap.size < w1.heap.size := World.block_lt_of_cell? _ _ q00
    obtain ⟨q10, q11, q12⟩ := keep3 hb (b := w.heap.size + 1) (x := .int .i64 a) (y := .int .i64 b) (z := .int .i64 c) (by go_simp)
    have kb1 : w.heap.size + 1 < w1.heap.size := World.block_lt_of_cell? _ _ q10
    obtain ⟨r0, r1, r2⟩ := keep3 hb (b := w.heap.size + 1 + 1) (x := .int .i64 0) (y := .int .i64 0) (z := .int .i64 0) (by go_simp)
    have kz : w.heap.size + 1 + 1 < w1.heap.size := World.block_lt_of_cell? _ _ r0
    obtain ⟨f0, f1, f2⟩ := keepf3 hb (b := w.heap.size + 1 + 1) (by go_simp) (by go_simp)
    have haw1 : Acc w w1 := by
      refine Acc.call ?_ hb
      (repeat' (first | assumption | exact Acc.refl _ | refine Acc.drew ?_ | refine Acc.alloc ?_ _ | refine Acc.setCell ?_ (by omega) _))
    clear hb
    go_wp2_with fail
    refine (lowest_any (x * c + a * z) (y * c + b * z) (z * c) _ (by unfold i64B; omega) (by unfold i64B; omega) (by unfold i64B; omega)).mono ?_
    rintro e w2 ⟨h1, h2, hb⟩
    obtain ⟨q00, q01, q02⟩ := keep3 hb (b := w.heap.size) (x := .int .i64 x) (y := .int .i64 y) (z := .int .i64 z) (by go_simp)
    have kb0 : w.heap.size < w2.heap.size := World.block_lt_of_cell? _ _ q00
    obtain ⟨q10, q11, q12⟩ := keep3 hb (b := w.heap.size + 1) (x := .int .i64 a) (y := .int .i64 b) (z := .int .i64 c) (by go_simp)
    have kb1 : w.heap.size + 1 < w2.heap.size := World.block_lt_of_cell? _ _ q10
    obtain ⟨r0, r1, r2⟩ := keep3 hb (b := w.heap.size + 1 + 1) (x := .int .i64 0) (y := .int .i64 0) (z := .int .i64 0) (by go_simp)
    have kz : w.heap.size + 1 + 1 < w2.heap.size := World.block_lt_of_cell? _ _ r0
    obtain ⟨f0, f1, f2⟩ := keepf3 hb (b := w.heap.size + 1 + 1) (by go_simp) (by go_simp)
    have haw2 : Acc w w2 := by
      refine Acc.call ?_ hb
      (repeat' (first | assumption | exact Acc.refl _ | refine Acc.drew ?_ | refine Acc.alloc ?_ _ | refine Acc.setCell ?_ (by omega) _))
    clear hb
    cases ho : lowE (x * c + a * z) (y * c + b * z) (z * c) with
    | none =>
      obtain ⟨s, rfl⟩ := h2 ho
      have HO := Lib.hid ho
      clear h1 h2 ho
      go_wp2_with fail
      refine bodyPost_ret (v := .tuple #[.agg #[.int .i64 0, .int .i64 0, .int .i64 0], .iface 142 (.agg #[.string s])]) (by simp [results, Tryz.results96, go_sem, r0, r1, r2]) rfl ?_
      refine ⟨fun _ _ _ h => (by rw [HO.out] at h; cases h), fun _ => ⟨_, rfl⟩, ?_⟩
      show Acc w _
      (repeat' (first | assumption | exact Acc.refl _ | refine Acc.drew ?_ | refine Acc.alloc ?_ _ | refine Acc.setCell ?_ (by omega) _))
    | some v =>
      obtain ⟨p, q, r⟩ := v
      obtain rfl := h1 _ _ _ ho
      have HO := Lib.hid ho
      clear h1 h2 ho
      go_wp2_with fail
      refine bodyPost_ret (v := .tuple #[.agg #[.int .i64 p, .int .i64 q, .int .i64 r], .nilIface]) (by simp [results, Tryz.results96, go_sem, r0, r1, r2]) rfl ?_
      refine ⟨fun _ _ _ h => (by rw [HO.out] at h; cases h; rfl), fun h => (by rw [HO.out] at h; cases h), ?_⟩
      show Acc w _
      (repeat' (first | assumption | exact Acc.refl _ | refine Acc.drew ?_ | refine Acc.alloc ?_ _ | refine Acc.setCell ?_ (by omega) _))
set_option maxHeartbeats 2000000 in
theorem mtimes_any (x y z a b c : Int) (w : World) (hx : i64B x) (hy : i64B y) (hz : i64B z) (ha : i64B a) (hb : i64B b) (hc : i64B c) :
    Calls Tryz.prog 40 #[.agg #[.int .i64 x, .int .i64 y, .int .i64 z], .agg #[.int .i64 a, .int .i64 b, .int .i64 c]] w (Erred (timesF x y z a b c) w) := by
  have hb' := hb
  clear hb
  cases hk : (okF x y z && okF a b c) with
  | false =>
    have e : timesF x y z a b c = none := by unfold timesF; rw [hk]; rfl
    rw [e]
    have HK := Lib.hid hk
    clear hk e
    go_enter Tryz.func40, Tryz.ntmps40
    go_wp2_with fail
    refine (checkBoth_any x y z a b c _ hx hy hz ha hb' hc).mono ?_
    rintro e w1 ⟨-, h1, hb⟩
    obtain ⟨s, rfl⟩ := h1 HK.out
    clear h1
    obtain ⟨q00, q01, q02⟩ := keep3 hb (b := w.heap.size) (x := .int .i64 x) (y := .int .i64 y) (z := .int .i64 z) (by go_simp)
    have kb0 : w.heap.size < w1.heap.size := World.block_lt_of_cell? _ _ q00
    obtain ⟨q10, q11, q12⟩ := keep3 hb (b := w.heap.size + 1) (x := .int .i64 a) (y := .int .i64 b) (z := .int .i64 c) (by go_simp)
    have kb1 : w.heap.size + 1 < w1.heap.size := World.block_lt_of_cell? _ _ q10
    obtain ⟨r0, r1, r2⟩ := keep3 hb (b := w.heap.size + 1 + 1) (x := .int .i64 0) (y := .int .i64 0) (z := .int .i64 0) (by go_simp)
    have kz : w.heap.size + 1 + 1 < w1.heap.size := World.block_lt_of_cell? _ _ r0
    obtain ⟨f0, f1, f2⟩ := keepf3 hb (b := w.heap.size + 1 + 1) (by go_simp) (by go_simp)
    have haw1 : Acc w w1 := by
      refine Acc.call ?_ hb
      (repeat' (first | assumption | exact Acc.refl _ | refine Acc.drew ?_ | refine Acc.alloc ?_ _ | refine Acc.setCell ?_ (by omega) _))
    clear hb
    go_wp2_with fail
    refine bodyPost_ret (v := .tuple #[.agg #[.int .i64 0, .int .i64 0, .int .i64 0], .iface 142 (.agg #[.string s])]) (by simp [results, Tryz.results40, go_sem, r0, r1, r2]) rfl ?_
    refine ⟨fun _ _ _ h => (by cases h), fun _ => ⟨_, rfl⟩, ?_⟩
    show Acc w _
    (repeat' (first | assumption | exact Acc.refl _ | refine Acc.drew ?_ | refine Acc.alloc ?_ _ | refine Acc.setCell ?_ (by omega) _))
  | true =>
    obtain ⟨k1, k2⟩ : okF x y z = true ∧ okF a b c = true := by simpa using hk
    obtain ⟨⟨x0, x1⟩, ⟨y0, y1⟩, ⟨z0, z1⟩⟩ := okF_bd k1
    obtain ⟨⟨a0, a1⟩, ⟨b0, b1⟩, ⟨c0, c1⟩⟩ := okF_bd k2
    have m1 := mul_bd (a := x) (b := a) (m := 2000000000) (n := 2000000000) (by omega) (by omega) (by omega) (by omega)
    have m2 := mul_bd (a := y) (b := b) (m := 2000000000) (n := 2000000000) (by omega) (by omega) (by omega) (by omega)
    have m3 := mul_bd (a := x) (b := b) (m := 2000000000) (n := 2000000000) (by omega) (by omega) (by omega) (by omega)
    have m4 := mul_bd (a := y) (b := a) (m := 2000000000) (n := 2000000000) (by omega) (by omega) (by omega) (by omega)
    have m5 := mul_bd (a := z) (b := c) (m := 2000000000) (n := 2000000000) (by omega) (by omega) (by omega) (by omega)
    have m6 : 1 ≤ z * c := by have := Int.mul_le_mul (a := 1) (b := 1) (c := z) (d := c) (by omega) (by omega) (by omega) (by omega); omega
    have N1 : -4000000000000000000 ≤ x * a := by omega
    have N2 : x * a ≤ 4000000000000000000 := by omega
    have N3 : -4000000000000000000 ≤ y * b := by omega
    have N4 : y * b ≤ 4000000000000000000 := by omega
    have N5 : -4000000000000000000 ≤ x * b := by omega
    have N6 : x * b ≤ 4000000000000000000 := by omega
    have N7 : -4000000000000000000 ≤ y * a := by omega
    have N8 : y * a ≤ 4000000000000000000 := by omega
    have N9 : z * c ≤ 4000000000000000000 := by omega
    clear m1 m2 m3 m4 m5
    have e : timesF x y z a b c = lowE (x * a - y * b) (x * b + y * a) (z * c) := by
      unfold timesF lowE
      rw [hk, if_neg (show ¬ z * c < 1 by omega)]
      simp only [if_true]
    rw [e]
    have HK := Lib.hid hk
    clear hk k1 k2 e
    go_enter Tryz.func40, Tryz.ntmps40
    go_wp2_with fail
    refine (checkBoth_any x y z a b c _ hx hy hz ha hb' hc).mono ?_
    rintro e w1 ⟨h1, -, hb⟩
    obtain rfl := h1 HK.out
    clear h1
    obtain ⟨q00, q01, q02⟩ := keep3 hb (b := w.heap.size) (x := .int .i64 x) (y := .int .i64 y) (z := .int .i64 z) (by go_simp)
    have kb0 : w.heap.size < w1.heap.size := World.block_lt_of_cell? _ _ q00
    obtain ⟨q10, q11, q12⟩ := keep3 hb (b := w.heap.size + 1) (x := .int .i64 a) (y := .int .i64 b) (z := .int .i64 c) (by go_simp)
    have kb1 : w.heap.size + 1 < w1.heap.size := World.block_lt_of_cell? _ _ q10
    obtain ⟨r0, r1, r2⟩ := keep3 hb (b := w.heap.size + 1 + 1) (x := .int .i64 0) (y := .int .i64 0) (z := .int .i64 0) (by go_simp)
    have kz : w.heap.size + 1 + 1 < w1.heap.size := World.block_lt_of_cell? _ _ r0
    obtain ⟨f0, f1, f2⟩ := keepf3 hb (b := w.heap.size + 1 + 1) (by go_simp) (by go_simp)
    have haw1 : Acc w w1 := by
      refine Acc.call ?_ hb
      (repeat' (first | assumption | exact Acc.refl _ | refine Acc.drew ?_ | refine Acc.alloc ?_ _ | refine Acc.setCell ?_ (by omega) _))
    clear hb
    go_wp2_with fail
    refine (lowest_any (x * a - y * b) (x * b + y * a) (z * c) _ (by unfold i64B; omega) (by unfold i64B; omega) (by unfold i64B; omega)).mono ?_
    rintro e w2 ⟨h1, h2, hb⟩
    obtain ⟨q00, q01, q02⟩ := keep3 hb (b := w.heap.size) (x := .int .i64 x) (y := .int .i64 y) (z := .int .i64 z) (by go_simp)
    have kb0 : w.heap.size < w2.heap.size := World.block_lt_of_cell? _ _ q00
    obtain ⟨q10, q11, q12⟩ := keep3 hb (b := w.heap.size + 1) (x := .int .i64 a) (y := .int .i64 b) (z := .int .i64 c) (by go_simp)
    have kb1 : w.heap.size + 1 < w2.heap.size := World.block_lt_of_cell? _ _ q10
    obtain ⟨r0, r1, r2⟩ := keep3 hb (b := w.heap.size + 1 + 1) (x := .int .i64 0) (y := .int .i64 0) (z := .int .i64 0) (by go_simp)
    have kz : w.heap.size + 1 + 1 < w2.heap.size := World.block_lt_of_cell? _ _ r0
    obtain ⟨f0, f1, f2⟩ := keepf3 hb (b := w.heap.size + 1 + 1) (by go_simp) (by go_simp)
    have haw2 : Acc w w2 := by
      refine Acc.call ?_ hb
      (repeat' (first | assumption | exact Acc.refl _ | refine Acc.drew ?_ | refine Acc.alloc ?_ _ | refine Acc.setCell ?_ (by omega) _))
    clear hb
    cases ho : lowE (x * a - y * b) (x * b + y * a) (z * c) with
    | none =>
      obtain ⟨s, rfl⟩ := h2 ho
      have HO := Lib.hid ho
      clear h1 h2 ho
      go_wp2_with fail
      refine bodyPost_ret (v := .tuple #[.agg #[.int .i64 0, .int .i64 0, .int .i64 0], .iface 142 (.agg #[.string s])]) (by simp [results, Tryz.results40, go_sem, r0, r1, r2]) rfl ?_
      refine ⟨fun _ _ _ h => (by rw [HO.out] at h; cases h), fun _ => ⟨_, rfl⟩, ?_⟩
      show Acc w _
      (repeat' (first | assumption | exact Acc.refl _ | refine Acc.drew ?_ | refine Acc.alloc ?_ _ | refine Acc.setCell ?_ (by omega) _))
    | some v =>
      obtain ⟨p, q, r⟩ := v
      obtain rfl := h1 _ _ _ ho
      have HO := Lib.hid ho
      clear h1 h2 ho
      go_wp2_with fail
      refine bodyPost_ret (v := .tuple #[.agg #[.int .i64 p, .int .i64 q, .int .i64 r], .nilIface]) (by simp [results, Tryz.results40, go_sem, r0, r1, r2]) rfl ?_
      refine ⟨fun _ _ _ h => (by rw [HO.out] at h; cases h; rfl), fun h => (by rw [HO.out] at h; cases h), ?_⟩
      show Acc w _
      (repeat' (first | assumption | exact Acc.refl _ | refine Acc.drew ?_ | refine Acc.alloc ?_ _ | refine Acc.setCell ?_ (by omega) _))
set_option maxHeartbeats 2000000 in
theorem mirror_any (x y z : Int) (w : World) (hx : i64B x) (hy : i64B y) (hz : i64B z) :
    Calls Tryz.prog 155 #[.agg #[.int .i64 x, .int .i64 y, .int .i64 z]] w (Erred (mirrorF x y z) w) := by
  unfold mirrorF
  cases hk : okF x y z with
  | false =>
    rw [if_neg (by simp)]
    have HK := Lib.hid hk
    clear hk
    go_enter Tryz.func155, Tryz.ntmps155
    go_wp2_with fail
    refine (check_any x y z _ hx hy hz).mono ?_
    rintro e w1 ⟨-, h1, hb⟩
    obtain ⟨s, rfl⟩ := h1 HK.out
    clear h1
    obtain ⟨q00, q01, q02⟩ := keep3 hb (b := w.heap.size) (x := .int .i64 x) (y := .int .i64 y) (z := .int .i64 z) (by go_simp)
    have kb0 : w.heap.size < w1.heap.size := World.block_lt_of_cell? _ _ q00
    obtain ⟨r0, r1, r2⟩ := keep3 hb (b := w.heap.size + 1) (x := .int .i64 0) (y := .int .i64 0) (z := .int .i64 0) (by go_simp)
    have kz : w.heap.size + 1 < w1.heap.size := World.block_lt_of_cell? _ _ r0
    obtain ⟨f0, f1, f2⟩ := keepf3 hb (b := w.heap.size + 1) (by go_simp) (by go_simp)
    have haw1 : Acc w w1 := by
      refine Acc.call ?_ hb
      (repeat' (first | assumption | exact Acc.refl _ | refine Acc.drew ?_ | refine Acc.alloc ?_ _ | refine Acc.setCell ?_ (by omega) _))
    clear hb
    go_wp2_with fail
    refine bodyPost_ret (v := .tuple #[.agg #[.int .i64 0, .int .i64 0, .int .i64 0], .iface 142 (.agg #[.string s])]) (by simp [results, Tryz.results155, go_sem, r0, r1, r2]) rfl ?_
    refine ⟨fun _ _ _ h => (by cases h), fun _ => ⟨_, rfl⟩, ?_⟩
    show Acc w _
    (repeat' (first | assumption | exact Acc.refl _ | refine Acc.drew ?_ | refine Acc.alloc ?_ _ | refine Acc.setCell ?_ (by omega) _))
  | true =>
    rw [if_pos rfl]
    obtain ⟨⟨x0, x1⟩, ⟨y0, y1⟩, ⟨z0, z1⟩⟩ := okF_bd hk
    have HK := Lib.hid hk
    clear hk
    go_enter Tryz.func155, Tryz.ntmps155
    go_wp2_with fail
    refine (check_any x y z _ hx hy hz).mono ?_
    rintro e w1 ⟨h1, -, hb⟩
    obtain rfl := h1 HK.out
    clear h1
    obtain ⟨q00, q01, q02⟩ := keep3 hb (b := w.heap.size) (x := .int .i64 x) (y := .int .i64 y) (z := .int .i64 z) (by go_simp)
    have kb0 : w.heap.size < w1.heap.size := World.block_lt_of_cell? _ _ q00
    obtain ⟨r0, r1, r2⟩ := keep3 hb (b := w.heap.size + 1) (x := .int .i64 0) (y := .int .i64 0) (z := .int .i64 0) (by go_simp)
    have kz : w.heap.size + 1 < w1.heap.size := World.block_lt_of_cell? _ _ r0
    obtain ⟨f0, f1, f2⟩ := keepf3 hb (b := w.heap.size + 1) (by go_simp) (by go_simp)
    have haw1 : Acc w w1 := by
      refine Acc.call ?_ hb
      (repeat' (first | assumption | exact Acc.refl _ | refine Acc.drew ?_ | refine Acc.alloc ?_ _ | refine Acc.setCell ?_ (by omega) _))
    clear hb
    go_wp2_with fail
    refine bodyPost_ret (v := .tuple #[.agg #[.int .i64 x, .int .i64 (-y), .int .i64 z], .nilIface]) (by simp [results, Tryz.results155, go_sem, r0, r1, r2]) rfl ?_
    refine ⟨fun _ _ _ h => (by cases h; rfl), fun h => (by cases h), ?_⟩
    show Acc w _
    (repeat' (first | assumption | exact Acc.refl _ | refine Acc.drew ?_ | refine Acc.alloc ?_ _ | refine Acc.setCell ?_ (by omega) _))
theorem okF_i64 {p q r : Int} (h : okF p q r = true) : i64B p ∧ i64B q ∧ i64B r := by
  have := okF_bd h
  unfold i64B
  omega
set_option maxHeartbeats 2000000 in
theorem implTimes_any (x y z a b c : Int) (hx : i64B x) (hy : i64B y) (hz : i64B z) (ha : i64B a) (hb : i64B b) (hc : i64B c) (w : World) (hl : Laid w) :
    Calls Tryz.prog 11 #[.agg #[.int .i64 x, .int .i64 y, .int .i64 z], .agg #[.int .i64 a, .int .i64 b, .int .i64 c]] w (Gave (timesF x y z a b c) w) := by
  have HL := Lib.hid fun W (k : Acc w W) => hl.acc k
  have C := Lib.hid fun w => mtimes_any x y z a b c w hx hy hz ha hb hc
  clear hl
  cases ho : timesF x y z a b c with
  | none =>
    have D := Lib.hid fun w => (C.out w).mono fun e w' h => (⟨h.2.1 ho, h.2.2⟩ : _ ∧ _)
    clear C ho
    go_enter Tryz.func11, Tryz.ntmps11
    go_wp2_with fail
    refine (D.out _).mono ?_
    rintro e w1 ⟨⟨s, rfl⟩, hb⟩
    obtain ⟨q00, q01, q02⟩ := keep3 hb (b := w.heap.size) (x := .int .i64 x) (y := .int .i64 y) (z := .int .i64 z) (by go_simp)
    have kb0 : w.heap.size < w1.heap.size := World.block_lt_of_cell? _ _ q00
    obtain ⟨q10, q11, q12⟩ := keep3 hb (b := w.heap.size + 1) (x := .int .i64 a) (y := .int .i64 b) (z := .int .i64 c) (by go_simp)
    have kb1 : w.heap.size + 1 < w1.heap.size := World.block_lt_of_cell? _ _ q10
    obtain ⟨r0, r1, r2⟩ := keep3 hb (b := w.heap.size + 1 + 1) (x := .int .i64 0) (y := .int .i64 0) (z := .int .i64 0) (by go_simp)
    have kz : w.heap.size + 1 + 1 < w1.heap.size := World.block_lt_of_cell? _ _ r0
    obtain ⟨f0, f1, f2⟩ := keepf3 hb (b := w.heap.size + 1 + 1) (by go_simp) (by go_simp)
    have haw1 : Acc w w1 := by
      refine Acc.call ?_ hb
      (repeat' (first | assumption | exact Acc.refl _ | refine Acc.drew ?_ | refine Acc.alloc ?_ _ | refine Acc.setCell ?_ (by omega) _))
    clear hb
    go_wp2_with fail
    refine (toldFrac_err _ _ _ s _ (HL.out _ (by repeat' (first | assumption | exact Acc.refl _ | refine Acc.drew ?_ | refine Acc.alloc ?_ _ | refine Acc.setCell ?_ (by omega) _)))).mono ?_
    rintro e w2 ⟨rfl, hb⟩
    obtain ⟨r0, r1, r2⟩ := keep3 hb (b := w.heap.size + 1 + 1) (x := .int .i64 0) (y := .int .i64 0) (z := .int .i64 0) (by go_simp)
    have kz : w.heap.size + 1 + 1 < w2.heap.size := World.block_lt_of_cell? _ _ r0
    obtain ⟨f0, f1, f2⟩ := keepf3 hb (b := w.heap.size + 1 + 1) (by go_simp) (by go_simp)
    have haw2 : Acc w w2 := by
      refine Acc.call ?_ hb
      (repeat' (first | assumption | exact Acc.refl _ | refine Acc.drew ?_ | refine Acc.alloc ?_ _ | refine Acc.setCell ?_ (by omega) _))
    clear hb
    simp only [resV]
    go_wp2_with fail
    refine bodyPost_ret (v := .tuple #[.agg #[.int .i64 0, .int .i64 0, .int .i64 0], .bool false]) (by simp [results, Tryz.results11, go_sem, r0, r1, r2]) rfl ⟨rfl, ?_⟩
    show Acc w _
    (repeat' (first | assumption | exact Acc.refl _ | refine Acc.drew ?_ | refine Acc.alloc ?_ _ | refine Acc.setCell ?_ (by omega) _))
  | some v =>
    obtain ⟨p, q, r⟩ := v
    have D := Lib.hid fun w => (C.out w).mono fun e w' h => (⟨h.1 _ _ _ ho, h.2.2⟩ : _ ∧ _)
    clear C ho
    go_enter Tryz.func11, Tryz.ntmps11
    go_wp2_with fail
    refine (D.out _).mono ?_
    rintro e w1 ⟨rfl, hb⟩
    obtain ⟨q00, q01, q02⟩ := keep3 hb (b := w.heap.size) (x := .int .i64 x) (y := .int .i64 y) (z := .int .i64 z) (by go_simp)
    have kb0 : w.heap.size < w1.heap.size := World.block_lt_of_cell? _ _ q00
    obtain ⟨q10, q11, q12⟩ := keep3 hb (b := w.heap.size + 1) (x := .int .i64 a) (y := .int .i64 b) (z := .int .i64 c) (by go_simp)
    have kb1 : w.heap.size + 1 < w1.heap.size := World.block_lt_of_cell? _ _ q10
    obtain ⟨r0, r1, r2⟩ := keep3 hb (b := w.heap.size + 1 + 1) (x := .int .i64 0) (y := .int .i64 0) (z := .int .i64 0) (by go_simp)
    have kz : w.heap.size + 1 + 1 < w1.heap.size := World.block_lt_of_cell? _ _ r0
    obtain ⟨f0, f1, f2⟩ := keepf3 hb (b := w.heap.size + 1 + 1) (by go_simp) (by go_simp)
    have haw1 : Acc w w1 := by
      refine Acc.call ?_ hb
      (repeat' (first | assumption | exact Acc.refl _ | refine Acc.drew ?_ | refine Acc.alloc ?_ _ | refine Acc.setCell ?_ (by omega) _))
    clear hb
    go_wp2_with fail
    refine (toldFrac_ok p q r _).mono ?_
    rintro e w2 ⟨rfl, hb⟩
    obtain ⟨r0, r1, r2⟩ := keep3 hb (b := w.heap.size + 1 + 1) (x := .int .i64 0) (y := .int .i64 0) (z := .int .i64 0) (by go_simp)
    have kz : w.heap.size + 1 + 1 < w2.heap.size := World.block_lt_of_cell? _ _ r0
    obtain ⟨f0, f1, f2⟩ := keepf3 hb (b := w.heap.size + 1 + 1) (by go_simp) (by go_simp)
    have haw2 : Acc w w2 := by
      refine Acc.call ?_ hb
      (repeat' (first | assumption | exact Acc.refl _ | refine Acc.drew ?_ | refine Acc.alloc ?_ _ | refine Acc.setCell ?_ (by omega) _))
    clear hb
    simp only [resV]
    go_wp2_with fail
    refine bodyPost_ret (v := .tuple #[.agg #[.int .i64 p, .int .i64 q, .int .i64 r], .bool true]) (by simp [results, Tryz.results11, go_sem, r0, r1, r2]) rfl ⟨rfl, ?_⟩
    show Acc w _
    (repeat' (first | assumption | exact Acc.refl _ | refine Acc.drew ?_ | refine Acc.alloc ?_ _ | refine Acc.setCell ?_ (by omega) _))

theorem gave_some {o : Option (Int × Int × Int)} {p q r : Int} (h : o = some (p, q, r)) {P : Program} {f : FuncId} {ar : Array Value} {w : World} (c : Calls P f ar w (Gave o w)) :
    Calls P f ar w fun e w' => e = .returned (.tuple #[.agg #[.int .i64 p, .int .i64 q, .int .i64 r], .bool true]) ∧ Below w.heap.size w w' := by subst h; exact c
theorem gave_none {o : Option (Int × Int × Int)} (h : o = none) {P : Program} {f : FuncId} {ar : Array Value} {w : World} (c : Calls P f ar w (Gave o w)) :
    Calls P f ar w fun e w' => e = .returned (.tuple #[.agg #[.int .i64 0, .int .i64 0, .int .i64 0], .bool false]) ∧ Below w.heap.size w w' := by subst h; exact c
theorem gave_any {o : Option (Int × Int × Int)} {p q r : Int} {k : Bool} (hp : partsR o = (p, q, r)) (hk : okR o = k) {P : Program} {f : FuncId} {ar : Array Value} {w : World} (c : Calls P f ar w (Gave o w)) :
    Calls P f ar w fun e w' => e = .returned (.tuple #[.agg #[.int .i64 p, .int .i64 q, .int .i64 r], .bool k]) ∧ Below w.heap.size w w' := by
  unfold Gave at c
  rw [resV_eq, hp, hk] at c
  exact c
end Go.Proofs.YtkdkeacfifjjoabGreatDoor
