/-
  The program's table: the four numbers that it makes.
-/
import Derived.Test.YtgmpbdndkjnbfaaDoorImplT4
import Derived.Test.YtgmpbdndkjnbfaaDoorImplT2
import Derived.Test.YtgmpbdndkjnbfaaDoorImplN3
import Derived.Test.YtgmpbdndkjnbfaaDoorImplN2
namespace Go.Proofs.YtgmpbdndkjnbfaaDoor
open Go.ChangeShapes Go.WideShapes Go.ChangeAt Go.RowKit
set_option linter.unusedVariables false

set_option maxRecDepth 100000 in
set_option maxHeartbeats 8000000 in
theorem tapply_any (m0a m0b m0c m1a m1b m1c m2a m2b m2c m3a m3b m3c m4a m4b m4c m5a m5b m5c m6a m6b m6c m7a m7b m7c m8a m8b m8c m9a m9b m9c m10a m10b m10c m11a m11b m11c m12a m12b m12c m13a m13b m13c m14a m14b m14c m15a m15b m15c a1 a2 a3 b1 b2 b3 c1 c2 c3 d1 d2 d3 : Int) (hm0a : i64B m0a) (hm0b : i64B m0b) (hm0c : i64B m0c) (hm1a : i64B m1a) (hm1b : i64B m1b) (hm1c : i64B m1c) (hm2a : i64B m2a) (hm2b : i64B m2b) (hm2c : i64B m2c) (hm3a : i64B m3a) (hm3b : i64B m3b) (hm3c : i64B m3c) (hm4a : i64B m4a) (hm4b : i64B m4b) (hm4c : i64B m4c) (hm5a : i64B m5a) (hm5b : i64B m5b) (hm5c : i64B m5c) (hm6a : i64B m6a) (hm6b : i64B m6b) (hm6c : i64B m6c) (hm7a : i64B m7a) (hm7b : i64B m7b) (hm7c : i64B m7c) (hm8a : i64B m8a) (hm8b : i64B m8b) (hm8c : i64B m8c) (hm9a : i64B m9a) (hm9b : i64B m9b) (hm9c : i64B m9c) (hm10a : i64B m10a) (hm10b : i64B m10b) (hm10c : i64B m10c) (hm11a : i64B m11a) (hm11b : i64B m11b) (hm11c : i64B m11c) (hm12a : i64B m12a) (hm12b : i64B m12b) (hm12c : i64B m12c) (hm13a : i64B m13a) (hm13b : i64B m13b) (hm13c : i64B m13c) (hm14a : i64B m14a) (hm14b : i64B m14b) (hm14c : i64B m14c) (hm15a : i64B m15a) (hm15b : i64B m15b) (hm15c : i64B m15c) (ha1 : i64B a1) (ha2 : i64B a2) (ha3 : i64B a3) (hb1 : i64B b1) (hb2 : i64B b2) (hb3 : i64B b3) (hc1 : i64B c1) (hc2 : i64B c2) (hc3 : i64B c3) (hd1 : i64B d1) (hd2 : i64B d2) (hd3 : i64B d3) (B : Nat) (w : World) (Ma : Mp w B [.agg #[.int .i64 a1, .int .i64 a2, .int .i64 a3], .agg #[.int .i64 b1, .int .i64 b2, .int .i64 b3], .agg #[.int .i64 c1, .int .i64 c2, .int .i64 c3], .agg #[.int .i64 d1, .int .i64 d2, .int .i64 d3]]) :
    Calls Tryd.prog 24 #[.agg #[.int .i64 m0a, .int .i64 m0b, .int .i64 m0c, .int .i64 m1a, .int .i64 m1b, .int .i64 m1c, .int .i64 m2a, .int .i64 m2b, .int .i64 m2c, .int .i64 m3a, .int .i64 m3b, .int .i64 m3c, .int .i64 m4a, .int .i64 m4b, .int .i64 m4c, .int .i64 m5a, .int .i64 m5b, .int .i64 m5c, .int .i64 m6a, .int .i64 m6b, .int .i64 m6c, .int .i64 m7a, .int .i64 m7b, .int .i64 m7c, .int .i64 m8a, .int .i64 m8b, .int .i64 m8c, .int .i64 m9a, .int .i64 m9b, .int .i64 m9c, .int .i64 m10a, .int .i64 m10b, .int .i64 m10c, .int .i64 m11a, .int .i64 m11b, .int .i64 m11c, .int .i64 m12a, .int .i64 m12b, .int .i64 m12c, .int .i64 m13a, .int .i64 m13b, .int .i64 m13c, .int .i64 m14a, .int .i64 m14b, .int .i64 m14c, .int .i64 m15a, .int .i64 m15b, .int .i64 m15c], .map (some B)] w (ErredM (appTb (((m0a, m0b, m0c), (m1a, m1b, m1c), (m2a, m2b, m2c), (m3a, m3b, m3c)), ((m4a, m4b, m4c), (m5a, m5b, m5c), (m6a, m6b, m6c), (m7a, m7b, m7c)), ((m8a, m8b, m8c), (m9a, m9b, m9c), (m10a, m10b, m10c), (m11a, m11b, m11c)), ((m12a, m12b, m12c), (m13a, m13b, m13c), (m14a, m14b, m14c), (m15a, m15b, m15c))) ((a1, a2, a3), (b1, b2, b3), (c1, c2, c3), (d1, d2, d3))) w) := by
  have HT := Lib.hid fun w => tcheck_any m0a m0b m0c m1a m1b m1c m2a m2b m2c m3a m3b m3c m4a m4b m4c m5a m5b m5c m6a m6b m6c m7a m7b m7c m8a m8b m8c m9a m9b m9c m10a m10b m10c m11a m11b m11c m12a m12b m12c m13a m13b m13c m14a m14b m14c m15a m15b m15c hm0a hm0b hm0c hm1a hm1b hm1c hm2a hm2b hm2c hm3a hm3b hm3c hm4a hm4b hm4c hm5a hm5b hm5c hm6a hm6b hm6c hm7a hm7b hm7c hm8a hm8b hm8c hm9a hm9b hm9c hm10a hm10b hm10c hm11a hm11b hm11c hm12a hm12b hm12c hm13a hm13b hm13c hm14a hm14b hm14c hm15a hm15b hm15c w
  have HN := Lib.hid fun W M => ncheck_any a1 a2 a3 b1 b2 b3 c1 c2 c3 d1 d2 d3 ha1 ha2 ha3 hb1 hb2 hb3 hc1 hc2 hc3 hd1 hd2 hd3 B W M
  have K0 := Lib.hid fun bt bo W Bt Bo => tapplyClo_0 bt bo [.int .i64 m0a, .int .i64 m0b, .int .i64 m0c, .int .i64 m1a, .int .i64 m1b, .int .i64 m1c, .int .i64 m2a, .int .i64 m2b, .int .i64 m2c, .int .i64 m3a, .int .i64 m3b, .int .i64 m3c, .int .i64 m4a, .int .i64 m4b, .int .i64 m4c, .int .i64 m5a, .int .i64 m5b, .int .i64 m5c, .int .i64 m6a, .int .i64 m6b, .int .i64 m6c, .int .i64 m7a, .int .i64 m7b, .int .i64 m7c, .int .i64 m8a, .int .i64 m8b, .int .i64 m8c, .int .i64 m9a, .int .i64 m9b, .int .i64 m9c, .int .i64 m10a, .int .i64 m10b, .int .i64 m10c, .int .i64 m11a, .int .i64 m11b, .int .i64 m11c, .int .i64 m12a, .int .i64 m12b, .int .i64 m12c, .int .i64 m13a, .int .i64 m13b, .int .i64 m13c, .int .i64 m14a, .int .i64 m14b, .int .i64 m14c, .int .i64 m15a, .int .i64 m15b, .int .i64 m15c] m0a m0b m0c m1a m1b m1c m2a m2b m2c m3a m3b m3c a1 a2 a3 b1 b2 b3 c1 c2 c3 d1 d2 d3 hm0a hm0b hm0c hm1a hm1b hm1c hm2a hm2b hm2c hm3a hm3b hm3c ha1 ha2 ha3 hb1 hb2 hb3 hc1 hc2 hc3 hd1 hd2 hd3 rfl rfl rfl rfl rfl rfl rfl rfl rfl rfl rfl rfl W Bt Bo
  have K1 := Lib.hid fun bt bo W Bt Bo => tapplyClo_1 bt bo [.int .i64 m0a, .int .i64 m0b, .int .i64 m0c, .int .i64 m1a, .int .i64 m1b, .int .i64 m1c, .int .i64 m2a, .int .i64 m2b, .int .i64 m2c, .int .i64 m3a, .int .i64 m3b, .int .i64 m3c, .int .i64 m4a, .int .i64 m4b, .int .i64 m4c, .int .i64 m5a, .int .i64 m5b, .int .i64 m5c, .int .i64 m6a, .int .i64 m6b, .int .i64 m6c, .int .i64 m7a, .int .i64 m7b, .int .i64 m7c, .int .i64 m8a, .int .i64 m8b, .int .i64 m8c, .int .i64 m9a, .int .i64 m9b, .int .i64 m9c, .int .i64 m10a, .int .i64 m10b, .int .i64 m10c, .int .i64 m11a, .int .i64 m11b, .int .i64 m11c, .int .i64 m12a, .int .i64 m12b, .int .i64 m12c, .int .i64 m13a, .int .i64 m13b, .int .i64 m13c, .int .i64 m14a, .int .i64 m14b, .int .i64 m14c, .int .i64 m15a, .int .i64 m15b, .int .i64 m15c] m4a m4b m4c m5a m5b m5c m6a m6b m6c m7a m7b m7c a1 a2 a3 b1 b2 b3 c1 c2 c3 d1 d2 d3 hm4a hm4b hm4c hm5a hm5b hm5c hm6a hm6b hm6c hm7a hm7b hm7c ha1 ha2 ha3 hb1 hb2 hb3 hc1 hc2 hc3 hd1 hd2 hd3 rfl rfl rfl rfl rfl rfl rfl rfl rfl rfl rfl rfl W Bt Bo
  have K2 := Lib.hid fun bt bo W Bt Bo => tapplyClo_2 bt bo [.int .i64 m0a, .int .i64 m0b, .int .i64 m0c, .int .i64 m1a, .int .i64 m1b, .int .i64 m1c, .int .i64 m2a, .int .i64 m2b, .int .i64 m2c, .int .i64 m3a, .int .i64 m3b, .int .i64 m3c, .int .i64 m4a, .int .i64 m4b, .int .i64 m4c, .int .i64 m5a, .int .i64 m5b, .int .i64 m5c, .int .i64 m6a, .int .i64 m6b, .int .i64 m6c, .int .i64 m7a, .int .i64 m7b, .int .i64 m7c, .int .i64 m8a, .int .i64 m8b, .int .i64 m8c, .int .i64 m9a, .int .i64 m9b, .int .i64 m9c, .int .i64 m10a, .int .i64 m10b, .int .i64 m10c, .int .i64 m11a, .int .i64 m11b, .int .i64 m11c, .int .i64 m12a, .int .i64 m12b, .int .i64 m12c, .int .i64 m13a, .int .i64 m13b, .int .i64 m13c, .int .i64 m14a, .int .i64 m14b, .int .i64 m14c, .int .i64 m15a, .int .i64 m15b, .int .i64 m15c] m8a m8b m8c m9a m9b m9c m10a m10b m10c m11a m11b m11c a1 a2 a3 b1 b2 b3 c1 c2 c3 d1 d2 d3 hm8a hm8b hm8c hm9a hm9b hm9c hm10a hm10b hm10c hm11a hm11b hm11c ha1 ha2 ha3 hb1 hb2 hb3 hc1 hc2 hc3 hd1 hd2 hd3 rfl rfl rfl rfl rfl rfl rfl rfl rfl rfl rfl rfl W Bt Bo
  have K3 := Lib.hid fun bt bo W Bt Bo => tapplyClo_3 bt bo [.int .i64 m0a, .int .i64 m0b, .int .i64 m0c, .int .i64 m1a, .int .i64 m1b, .int .i64 m1c, .int .i64 m2a, .int .i64 m2b, .int .i64 m2c, .int .i64 m3a, .int .i64 m3b, .int .i64 m3c, .int .i64 m4a, .int .i64 m4b, .int .i64 m4c, .int .i64 m5a, .int .i64 m5b, .int .i64 m5c, .int .i64 m6a, .int .i64 m6b, .int .i64 m6c, .int .i64 m7a, .int .i64 m7b, .int .i64 m7c, .int .i64 m8a, .int .i64 m8b, .int .i64 m8c, .int .i64 m9a, .int .i64 m9b, .int .i64 m9c, .int .i64 m10a, .int .i64 m10b, .int .i64 m10c, .int .i64 m11a, .int .i64 m11b, .int .i64 m11c, .int .i64 m12a, .int .i64 m12b, .int .i64 m12c, .int .i64 m13a, .int .i64 m13b, .int .i64 m13c, .int .i64 m14a, .int .i64 m14b, .int .i64 m14c, .int .i64 m15a, .int .i64 m15b, .int .i64 m15c] m12a m12b m12c m13a m13b m13c m14a m14b m14c m15a m15b m15c a1 a2 a3 b1 b2 b3 c1 c2 c3 d1 d2 d3 hm12a hm12b hm12c hm13a hm13b hm13c hm14a hm14b hm14c hm15a hm15b hm15c ha1 ha2 ha3 hb1 hb2 hb3 hc1 hc2 hc3 hd1 hd2 hd3 rfl rfl rfl rfl rfl rfl rfl rfl rfl rfl rfl rfl W Bt Bo
  clear hm0a hm0b hm0c hm1a hm1b hm1c hm2a hm2b hm2c hm3a hm3b hm3c hm4a hm4b hm4c hm5a hm5b hm5c hm6a hm6b hm6c hm7a hm7b hm7c hm8a hm8b hm8c hm9a hm9b hm9c hm10a hm10b hm10c hm11a hm11b hm11c hm12a hm12b hm12c hm13a hm13b hm13c hm14a hm14b hm14c hm15a hm15b hm15c ha1 ha2 ha3 hb1 hb2 hb3 hc1 hc2 hc3 hd1 hd2 hd3
  obtain ⟨v0, hv⟩ : ∃ k, okTb (((m0a, m0b, m0c), (m1a, m1b, m1c), (m2a, m2b, m2c), (m3a, m3b, m3c)), ((m4a, m4b, m4c), (m5a, m5b, m5c), (m6a, m6b, m6c), (m7a, m7b, m7c)), ((m8a, m8b, m8c), (m9a, m9b, m9c), (m10a, m10b, m10c), (m11a, m11b, m11c)), ((m12a, m12b, m12c), (m13a, m13b, m13c), (m14a, m14b, m14c), (m15a, m15b, m15c))) = k := ⟨_, rfl⟩
  have V0 := Lib.hid hv
  rw [hv] at HT
  clear hv
  obtain ⟨v1, hv⟩ : ∃ k, sValid a1 a2 a3 b1 b2 b3 c1 c2 c3 d1 d2 d3 = k := ⟨_, rfl⟩
  have V1 := Lib.hid hv
  rw [hv] at HN
  clear hv
  obtain ⟨oq, E⟩ : ∃ o, appTb (((m0a, m0b, m0c), (m1a, m1b, m1c), (m2a, m2b, m2c), (m3a, m3b, m3c)), ((m4a, m4b, m4c), (m5a, m5b, m5c), (m6a, m6b, m6c), (m7a, m7b, m7c)), ((m8a, m8b, m8c), (m9a, m9b, m9c), (m10a, m10b, m10c), (m11a, m11b, m11c)), ((m12a, m12b, m12c), (m13a, m13b, m13c), (m14a, m14b, m14c), (m15a, m15b, m15c))) ((a1, a2, a3), (b1, b2, b3), (c1, c2, c3), (d1, d2, d3)) = o := ⟨_, rfl⟩
  rw [E]
  have HE := Lib.hid E
  clear E
  have hmf : ∀ (fn : Fn) (first cap : Array Value) (w : World), (Instr.makeFunc fn first cap).run Tryd.prog w = .ok (.func fn first cap) w := fun _ _ _ _ => rfl
  have HI2 : RowKit.Hid ((Tryd.prog.info? 63).map (·.size) = some 48) := Lib.hid (by kernel_rfl)
  have ma := Ma.out
  have na_w := Ma.lt
  go_enter Tryd.func24, Tryd.ntmps24
  go_wp2_with (refine wpList_load_mid rfl 63 _ rfl (w.heap.size) 0 rfl [.int .i64 m0a, .int .i64 m0b, .int .i64 m0c, .int .i64 m1a, .int .i64 m1b, .int .i64 m1c, .int .i64 m2a, .int .i64 m2b, .int .i64 m2c, .int .i64 m3a, .int .i64 m3b, .int .i64 m3c, .int .i64 m4a, .int .i64 m4b, .int .i64 m4c, .int .i64 m5a, .int .i64 m5b, .int .i64 m5c, .int .i64 m6a, .int .i64 m6b, .int .i64 m6c, .int .i64 m7a, .int .i64 m7b, .int .i64 m7c, .int .i64 m8a, .int .i64 m8b, .int .i64 m8c, .int .i64 m9a, .int .i64 m9b, .int .i64 m9c, .int .i64 m10a, .int .i64 m10b, .int .i64 m10c, .int .i64 m11a, .int .i64 m11b, .int .i64 m11c, .int .i64 m12a, .int .i64 m12b, .int .i64 m12c, .int .i64 m13a, .int .i64 m13b, .int .i64 m13c, .int .i64 m14a, .int .i64 m14b, .int .i64 m14c, .int .i64 m15a, .int .i64 m15b, .int .i64 m15c] _ ?hc Tryd.underlying63 rfl HI2.out ?_)
  case hc =>
    refine range_of (Blk.cell ?_)
    (repeat' (first | (with_reducible first | assumption | refine Blk.drew ?_ | refine Blk.drewN ?_ _ | refine Blk.mapPut ?_ _ _ | apply Blk.set | (refine Blk.new ?_; focus (first | rfl | (simp; done))) | refine Blk.alloc ?_ _ | refine Blk.other ?_ ?_ _) | exact eqL rfl | (refine neB ?_; omega)))
  refine (HT.out _).mono ?_
  rintro e W1 ⟨h1, h2, hb⟩
  have Bt : Blk W1 (w.heap.size) [.int .i64 m0a, .int .i64 m0b, .int .i64 m0c, .int .i64 m1a, .int .i64 m1b, .int .i64 m1c, .int .i64 m2a, .int .i64 m2b, .int .i64 m2c, .int .i64 m3a, .int .i64 m3b, .int .i64 m3c, .int .i64 m4a, .int .i64 m4b, .int .i64 m4c, .int .i64 m5a, .int .i64 m5b, .int .i64 m5c, .int .i64 m6a, .int .i64 m6b, .int .i64 m6c, .int .i64 m7a, .int .i64 m7b, .int .i64 m7c, .int .i64 m8a, .int .i64 m8b, .int .i64 m8c, .int .i64 m9a, .int .i64 m9b, .int .i64 m9c, .int .i64 m10a, .int .i64 m10b, .int .i64 m10c, .int .i64 m11a, .int .i64 m11b, .int .i64 m11c, .int .i64 m12a, .int .i64 m12b, .int .i64 m12c, .int .i64 m13a, .int .i64 m13b, .int .i64 m13c, .int .i64 m14a, .int .i64 m14b, .int .i64 m14c, .int .i64 m15a, .int .i64 m15b, .int .i64 m15c] := Blk.keep hb (by repeat' (first | (with_reducible first | assumption | refine Blk.drew ?_ | refine Blk.drewN ?_ _ | refine Blk.mapPut ?_ _ _ | apply Blk.set | (refine Blk.new ?_; focus (first | rfl | (simp; done))) | refine Blk.alloc ?_ _ | refine Blk.other ?_ ?_ _) | exact eqL rfl | (refine neB ?_; omega)))
  have Ma : Mp W1 (B) [.agg #[.int .i64 a1, .int .i64 a2, .int .i64 a3], .agg #[.int .i64 b1, .int .i64 b2, .int .i64 b3], .agg #[.int .i64 c1, .int .i64 c2, .int .i64 c3], .agg #[.int .i64 d1, .int .i64 d2, .int .i64 d3]] := Mp.keep hb (by repeat' (first | (with_reducible first | assumption | refine Mp.drew ?_ | refine Mp.drewN ?_ _ | refine Mp.set ?_ _ _ | (refine Mp.new ?_; focus (first | rfl | (simp; done)))) | (refine Mp.put (vs := []) ?_ rfl rfl) | (refine Mp.put (vs := [.agg #[.int .i64 a1, .int .i64 a2, .int .i64 a3]]) ?_ rfl rfl) | (refine Mp.put (vs := [.agg #[.int .i64 a1, .int .i64 a2, .int .i64 a3], .agg #[.int .i64 b1, .int .i64 b2, .int .i64 b3]]) ?_ rfl rfl) | (refine Mp.put (vs := [.agg #[.int .i64 a1, .int .i64 a2, .int .i64 a3], .agg #[.int .i64 b1, .int .i64 b2, .int .i64 b3], .agg #[.int .i64 c1, .int .i64 c2, .int .i64 c3]]) ?_ rfl rfl) | (with_reducible first | refine Mp.putOther ?_ ?_ _ _ | refine Mp.alloc ?_ _) | (refine neB ?_; omega)))
  have ct := Bt.cell
  have ft := Bt.free
  have lt_W1 := Bt.lt
  have ma := Ma.out
  have na_W1 := Ma.lt
  have kaW1 : Acc w W1 := by
    refine Acc.call ?_ hb
    (repeat' (first | (with_reducible first | assumption | exact Acc.refl _ | refine Acc.drew ?_ | refine Acc.drewN ?_ _ | refine Acc.alloc ?_ _ | refine Acc.setCell ?_ ?_ _ | refine Acc.mapPut ?_ ?_ _ _) | (refine leB ?_; omega)))
  clear hb
  clear ct ft
  cases v0 with
  | false =>
    obtain rfl : oq = none := HE.out.symm.trans (appTb_not1 V0.out)
    obtain ⟨s, rfl⟩ := h2 rfl
    clear h1 h2
    go_wp2_with fail
    go_ret2
    refine ⟨fun _ _ _ _ _ _ _ _ _ _ _ _ h => (by cases h), fun _ => ⟨_, rfl⟩, ?_⟩
    show Acc w _
    (repeat' (first | (with_reducible first | assumption | exact Acc.refl _ | refine Acc.drew ?_ | refine Acc.drewN ?_ _ | refine Acc.alloc ?_ _ | refine Acc.setCell ?_ ?_ _ | refine Acc.mapPut ?_ ?_ _ _) | (refine leB ?_; omega)))
  | true =>
    obtain rfl := h1 rfl
    clear h1 h2
    go_wp2_with fail
    refine (HN.out _ (by repeat' (first | (with_reducible first | assumption | refine Mp.drew ?_ | refine Mp.drewN ?_ _ | refine Mp.set ?_ _ _ | (refine Mp.new ?_; focus (first | rfl | (simp; done)))) | (refine Mp.put (vs := []) ?_ rfl rfl) | (refine Mp.put (vs := [.agg #[.int .i64 a1, .int .i64 a2, .int .i64 a3]]) ?_ rfl rfl) | (refine Mp.put (vs := [.agg #[.int .i64 a1, .int .i64 a2, .int .i64 a3], .agg #[.int .i64 b1, .int .i64 b2, .int .i64 b3]]) ?_ rfl rfl) | (refine Mp.put (vs := [.agg #[.int .i64 a1, .int .i64 a2, .int .i64 a3], .agg #[.int .i64 b1, .int .i64 b2, .int .i64 b3], .agg #[.int .i64 c1, .int .i64 c2, .int .i64 c3]]) ?_ rfl rfl) | (with_reducible first | refine Mp.putOther ?_ ?_ _ _ | refine Mp.alloc ?_ _) | (refine neB ?_; omega)))).mono ?_
    rintro e W2 ⟨h1, h2, hb⟩
    have Bt : Blk W2 (w.heap.size) [.int .i64 m0a, .int .i64 m0b, .int .i64 m0c, .int .i64 m1a, .int .i64 m1b, .int .i64 m1c, .int .i64 m2a, .int .i64 m2b, .int .i64 m2c, .int .i64 m3a, .int .i64 m3b, .int .i64 m3c, .int .i64 m4a, .int .i64 m4b, .int .i64 m4c, .int .i64 m5a, .int .i64 m5b, .int .i64 m5c, .int .i64 m6a, .int .i64 m6b, .int .i64 m6c, .int .i64 m7a, .int .i64 m7b, .int .i64 m7c, .int .i64 m8a, .int .i64 m8b, .int .i64 m8c, .int .i64 m9a, .int .i64 m9b, .int .i64 m9c, .int .i64 m10a, .int .i64 m10b, .int .i64 m10c, .int .i64 m11a, .int .i64 m11b, .int .i64 m11c, .int .i64 m12a, .int .i64 m12b, .int .i64 m12c, .int .i64 m13a, .int .i64 m13b, .int .i64 m13c, .int .i64 m14a, .int .i64 m14b, .int .i64 m14c, .int .i64 m15a, .int .i64 m15b, .int .i64 m15c] := Blk.keep hb (by repeat' (first | (with_reducible first | assumption | refine Blk.drew ?_ | refine Blk.drewN ?_ _ | refine Blk.mapPut ?_ _ _ | apply Blk.set | (refine Blk.new ?_; focus (first | rfl | (simp; done))) | refine Blk.alloc ?_ _ | refine Blk.other ?_ ?_ _) | exact eqL rfl | (refine neB ?_; omega)))
    have Ma : Mp W2 (B) [.agg #[.int .i64 a1, .int .i64 a2, .int .i64 a3], .agg #[.int .i64 b1, .int .i64 b2, .int .i64 b3], .agg #[.int .i64 c1, .int .i64 c2, .int .i64 c3], .agg #[.int .i64 d1, .int .i64 d2, .int .i64 d3]] := Mp.keep hb (by repeat' (first | (with_reducible first | assumption | refine Mp.drew ?_ | refine Mp.drewN ?_ _ | refine Mp.set ?_ _ _ | (refine Mp.new ?_; focus (first | rfl | (simp; done)))) | (refine Mp.put (vs := []) ?_ rfl rfl) | (refine Mp.put (vs := [.agg #[.int .i64 a1, .int .i64 a2, .int .i64 a3]]) ?_ rfl rfl) | (refine Mp.put (vs := [.agg #[.int .i64 a1, .int .i64 a2, .int .i64 a3], .agg #[.int .i64 b1, .int .i64 b2, .int .i64 b3]]) ?_ rfl rfl) | (refine Mp.put (vs := [.agg #[.int .i64 a1, .int .i64 a2, .int .i64 a3], .agg #[.int .i64 b1, .int .i64 b2, .int .i64 b3], .agg #[.int .i64 c1, .int .i64 c2, .int .i64 c3]]) ?_ rfl rfl) | (with_reducible first | refine Mp.putOther ?_ ?_ _ _ | refine Mp.alloc ?_ _) | (refine neB ?_; omega)))
    have ct := Bt.cell
    have ft := Bt.free
    have lt_W2 := Bt.lt
    have ma := Ma.out
    have na_W2 := Ma.lt
    have kaW2 : Acc w W2 := by
      refine Acc.call ?_ hb
      (repeat' (first | (with_reducible first | assumption | exact Acc.refl _ | refine Acc.drew ?_ | refine Acc.drewN ?_ _ | refine Acc.alloc ?_ _ | refine Acc.setCell ?_ ?_ _ | refine Acc.mapPut ?_ ?_ _ _) | (refine leB ?_; omega)))
    clear hb
    clear ct ft
    cases v1 with
    | false =>
      obtain rfl : oq = none := HE.out.symm.trans (appTb_not2 (show rl4 _ = false from V1.out))
      obtain ⟨s, rfl⟩ := h2 rfl
      clear h1 h2
      go_wp2_with fail
      go_ret2
      refine ⟨fun _ _ _ _ _ _ _ _ _ _ _ _ h => (by cases h), fun _ => ⟨_, rfl⟩, ?_⟩
      show Acc w _
      (repeat' (first | (with_reducible first | assumption | exact Acc.refl _ | refine Acc.drew ?_ | refine Acc.drewN ?_ _ | refine Acc.alloc ?_ _ | refine Acc.setCell ?_ ?_ _ | refine Acc.mapPut ?_ ?_ _ _) | (refine leB ?_; omega)))
    | true =>
      obtain rfl := h1 rfl
      clear h1 h2
      go_wp2_with fail
      have hfd : ∀ w, (Instr.field 33 (.agg #[.int .i64 a1, .int .i64 a2, .int .i64 a3, .int .i64 b1, .int .i64 b2, .int .i64 b3, .int .i64 c1, .int .i64 c2, .int .i64 c3, .int .i64 d1, .int .i64 d2, .int .i64 d3]) 0).run Tryd.prog w = .ok (.agg #[.int .i64 a1, .int .i64 a2, .int .i64 a3, .int .i64 b1, .int .i64 b2, .int .i64 b3, .int .i64 c1, .int .i64 c2, .int .i64 c3, .int .i64 d1, .int .i64 d2, .int .i64 d3]) w := by
        intro w
        kernel_rfl
      refine (inOrder_any a1 a2 a3 b1 b2 b3 c1 c2 c3 d1 d2 d3 B _ (by repeat' (first | (with_reducible first | assumption | refine Mp.drew ?_ | refine Mp.drewN ?_ _ | refine Mp.set ?_ _ _ | (refine Mp.new ?_; focus (first | rfl | (simp; done)))) | (refine Mp.put (vs := []) ?_ rfl rfl) | (refine Mp.put (vs := [.agg #[.int .i64 a1, .int .i64 a2, .int .i64 a3]]) ?_ rfl rfl) | (refine Mp.put (vs := [.agg #[.int .i64 a1, .int .i64 a2, .int .i64 a3], .agg #[.int .i64 b1, .int .i64 b2, .int .i64 b3]]) ?_ rfl rfl) | (refine Mp.put (vs := [.agg #[.int .i64 a1, .int .i64 a2, .int .i64 a3], .agg #[.int .i64 b1, .int .i64 b2, .int .i64 b3], .agg #[.int .i64 c1, .int .i64 c2, .int .i64 c3]]) ?_ rfl rfl) | (with_reducible first | refine Mp.putOther ?_ ?_ _ _ | refine Mp.alloc ?_ _) | (refine neB ?_; omega)))).mono ?_
      rintro e W3 ⟨rfl, hb⟩
      have Bt : Blk W3 (w.heap.size) [.int .i64 m0a, .int .i64 m0b, .int .i64 m0c, .int .i64 m1a, .int .i64 m1b, .int .i64 m1c, .int .i64 m2a, .int .i64 m2b, .int .i64 m2c, .int .i64 m3a, .int .i64 m3b, .int .i64 m3c, .int .i64 m4a, .int .i64 m4b, .int .i64 m4c, .int .i64 m5a, .int .i64 m5b, .int .i64 m5c, .int .i64 m6a, .int .i64 m6b, .int .i64 m6c, .int .i64 m7a, .int .i64 m7b, .int .i64 m7c, .int .i64 m8a, .int .i64 m8b, .int .i64 m8c, .int .i64 m9a, .int .i64 m9b, .int .i64 m9c, .int .i64 m10a, .int .i64 m10b, .int .i64 m10c, .int .i64 m11a, .int .i64 m11b, .int .i64 m11c, .int .i64 m12a, .int .i64 m12b, .int .i64 m12c, .int .i64 m13a, .int .i64 m13b, .int .i64 m13c, .int .i64 m14a, .int .i64 m14b, .int .i64 m14c, .int .i64 m15a, .int .i64 m15b, .int .i64 m15c] := Blk.keep hb (by repeat' (first | (with_reducible first | assumption | refine Blk.drew ?_ | refine Blk.drewN ?_ _ | refine Blk.mapPut ?_ _ _ | apply Blk.set | (refine Blk.new ?_; focus (first | rfl | (simp; done))) | refine Blk.alloc ?_ _ | refine Blk.other ?_ ?_ _) | exact eqL rfl | (refine neB ?_; omega)))
      have Ma : Mp W3 (B) [.agg #[.int .i64 a1, .int .i64 a2, .int .i64 a3], .agg #[.int .i64 b1, .int .i64 b2, .int .i64 b3], .agg #[.int .i64 c1, .int .i64 c2, .int .i64 c3], .agg #[.int .i64 d1, .int .i64 d2, .int .i64 d3]] := Mp.keep hb (by repeat' (first | (with_reducible first | assumption | refine Mp.drew ?_ | refine Mp.drewN ?_ _ | refine Mp.set ?_ _ _ | (refine Mp.new ?_; focus (first | rfl | (simp; done)))) | (refine Mp.put (vs := []) ?_ rfl rfl) | (refine Mp.put (vs := [.agg #[.int .i64 a1, .int .i64 a2, .int .i64 a3]]) ?_ rfl rfl) | (refine Mp.put (vs := [.agg #[.int .i64 a1, .int .i64 a2, .int .i64 a3], .agg #[.int .i64 b1, .int .i64 b2, .int .i64 b3]]) ?_ rfl rfl) | (refine Mp.put (vs := [.agg #[.int .i64 a1, .int .i64 a2, .int .i64 a3], .agg #[.int .i64 b1, .int .i64 b2, .int .i64 b3], .agg #[.int .i64 c1, .int .i64 c2, .int .i64 c3]]) ?_ rfl rfl) | (with_reducible first | refine Mp.putOther ?_ ?_ _ _ | refine Mp.alloc ?_ _) | (refine neB ?_; omega)))
      have ct := Bt.cell
      have ft := Bt.free
      have lt_W3 := Bt.lt
      have ma := Ma.out
      have na_W3 := Ma.lt
      have kaW3 : Acc w W3 := by
        refine Acc.call ?_ hb
        (repeat' (first | (with_reducible first | assumption | exact Acc.refl _ | refine Acc.drew ?_ | refine Acc.drewN ?_ _ | refine Acc.alloc ?_ _ | refine Acc.setCell ?_ ?_ _ | refine Acc.mapPut ?_ ?_ _ _) | (refine leB ?_; omega)))
      clear hb
      clear ct ft
      go_wp2_with fail
      clear hfd
      have HQ := Lib.hid ((appTb_at V0.out (show rl4 ((a1, a2, a3), (b1, b2, b3), (c1, c2, c3), (d1, d2, d3)) = true from V1.out)).symm.trans HE.out)
      clear HE
      have HE : RowKit.Hid (quadO (rowT ((m0a, m0b, m0c), (m1a, m1b, m1c), (m2a, m2b, m2c), (m3a, m3b, m3c)) ((a1, a2, a3), (b1, b2, b3), (c1, c2, c3), (d1, d2, d3))) (rowT ((m4a, m4b, m4c), (m5a, m5b, m5c), (m6a, m6b, m6c), (m7a, m7b, m7c)) ((a1, a2, a3), (b1, b2, b3), (c1, c2, c3), (d1, d2, d3))) (rowT ((m8a, m8b, m8c), (m9a, m9b, m9c), (m10a, m10b, m10c), (m11a, m11b, m11c)) ((a1, a2, a3), (b1, b2, b3), (c1, c2, c3), (d1, d2, d3))) (rowT ((m12a, m12b, m12c), (m13a, m13b, m13c), (m14a, m14b, m14c), (m15a, m15b, m15c)) ((a1, a2, a3), (b1, b2, b3), (c1, c2, c3), (d1, d2, d3))) = oq) := HQ
      clear HQ
      refine (eachKind_tapply (.pointer (some ⟨w.heap.size, 0, none⟩)) (.pointer (some ⟨W3.heap.size, 0, none⟩)) _ _ _ _ _ (fun W k => K0.out _ _ W (Blk.keep k (by repeat' (first | (with_reducible first | assumption | refine Blk.drew ?_ | refine Blk.drewN ?_ _ | refine Blk.mapPut ?_ _ _ | apply Blk.set | (refine Blk.new ?_; focus (first | rfl | (simp; done))) | refine Blk.alloc ?_ _ | refine Blk.other ?_ ?_ _) | exact eqL rfl | (refine neB ?_; omega)))) (Blk.keep k (by repeat' (first | (with_reducible first | assumption | refine Blk.drew ?_ | refine Blk.drewN ?_ _ | refine Blk.mapPut ?_ _ _ | apply Blk.set | (refine Blk.new ?_; focus (first | rfl | (simp; done))) | refine Blk.alloc ?_ _ | refine Blk.other ?_ ?_ _) | exact eqL rfl | (refine neB ?_; omega))))) (fun W k => K1.out _ _ W (Blk.keep k (by repeat' (first | (with_reducible first | assumption | refine Blk.drew ?_ | refine Blk.drewN ?_ _ | refine Blk.mapPut ?_ _ _ | apply Blk.set | (refine Blk.new ?_; focus (first | rfl | (simp; done))) | refine Blk.alloc ?_ _ | refine Blk.other ?_ ?_ _) | exact eqL rfl | (refine neB ?_; omega)))) (Blk.keep k (by repeat' (first | (with_reducible first | assumption | refine Blk.drew ?_ | refine Blk.drewN ?_ _ | refine Blk.mapPut ?_ _ _ | apply Blk.set | (refine Blk.new ?_; focus (first | rfl | (simp; done))) | refine Blk.alloc ?_ _ | refine Blk.other ?_ ?_ _) | exact eqL rfl | (refine neB ?_; omega))))) (fun W k => K2.out _ _ W (Blk.keep k (by repeat' (first | (with_reducible first | assumption | refine Blk.drew ?_ | refine Blk.drewN ?_ _ | refine Blk.mapPut ?_ _ _ | apply Blk.set | (refine Blk.new ?_; focus (first | rfl | (simp; done))) | refine Blk.alloc ?_ _ | refine Blk.other ?_ ?_ _) | exact eqL rfl | (refine neB ?_; omega)))) (Blk.keep k (by repeat' (first | (with_reducible first | assumption | refine Blk.drew ?_ | refine Blk.drewN ?_ _ | refine Blk.mapPut ?_ _ _ | apply Blk.set | (refine Blk.new ?_; focus (first | rfl | (simp; done))) | refine Blk.alloc ?_ _ | refine Blk.other ?_ ?_ _) | exact eqL rfl | (refine neB ?_; omega))))) (fun W k => K3.out _ _ W (Blk.keep k (by repeat' (first | (with_reducible first | assumption | refine Blk.drew ?_ | refine Blk.drewN ?_ _ | refine Blk.mapPut ?_ _ _ | apply Blk.set | (refine Blk.new ?_; focus (first | rfl | (simp; done))) | refine Blk.alloc ?_ _ | refine Blk.other ?_ ?_ _) | exact eqL rfl | (refine neB ?_; omega)))) (Blk.keep k (by repeat' (first | (with_reducible first | assumption | refine Blk.drew ?_ | refine Blk.drewN ?_ _ | refine Blk.mapPut ?_ _ _ | apply Blk.set | (refine Blk.new ?_; focus (first | rfl | (simp; done))) | refine Blk.alloc ?_ _ | refine Blk.other ?_ ?_ _) | exact eqL rfl | (refine neB ?_; omega)))))).mono ?_
      rintro e W4 ⟨h1, h2, hb⟩
      have Bt : Blk W4 (w.heap.size) [.int .i64 m0a, .int .i64 m0b, .int .i64 m0c, .int .i64 m1a, .int .i64 m1b, .int .i64 m1c, .int .i64 m2a, .int .i64 m2b, .int .i64 m2c, .int .i64 m3a, .int .i64 m3b, .int .i64 m3c, .int .i64 m4a, .int .i64 m4b, .int .i64 m4c, .int .i64 m5a, .int .i64 m5b, .int .i64 m5c, .int .i64 m6a, .int .i64 m6b, .int .i64 m6c, .int .i64 m7a, .int .i64 m7b, .int .i64 m7c, .int .i64 m8a, .int .i64 m8b, .int .i64 m8c, .int .i64 m9a, .int .i64 m9b, .int .i64 m9c, .int .i64 m10a, .int .i64 m10b, .int .i64 m10c, .int .i64 m11a, .int .i64 m11b, .int .i64 m11c, .int .i64 m12a, .int .i64 m12b, .int .i64 m12c, .int .i64 m13a, .int .i64 m13b, .int .i64 m13c, .int .i64 m14a, .int .i64 m14b, .int .i64 m14c, .int .i64 m15a, .int .i64 m15b, .int .i64 m15c] := Blk.keep hb (by repeat' (first | (with_reducible first | assumption | refine Blk.drew ?_ | refine Blk.drewN ?_ _ | refine Blk.mapPut ?_ _ _ | apply Blk.set | (refine Blk.new ?_; focus (first | rfl | (simp; done))) | refine Blk.alloc ?_ _ | refine Blk.other ?_ ?_ _) | exact eqL rfl | (refine neB ?_; omega)))
      have Bo : Blk W4 (W3.heap.size) [.int .i64 a1, .int .i64 a2, .int .i64 a3, .int .i64 b1, .int .i64 b2, .int .i64 b3, .int .i64 c1, .int .i64 c2, .int .i64 c3, .int .i64 d1, .int .i64 d2, .int .i64 d3] := Blk.keep hb (by repeat' (first | (with_reducible first | assumption | refine Blk.drew ?_ | refine Blk.drewN ?_ _ | refine Blk.mapPut ?_ _ _ | apply Blk.set | (refine Blk.new ?_; focus (first | rfl | (simp; done))) | refine Blk.alloc ?_ _ | refine Blk.other ?_ ?_ _) | exact eqL rfl | (refine neB ?_; omega)))
      have Ma : Mp W4 (B) [.agg #[.int .i64 a1, .int .i64 a2, .int .i64 a3], .agg #[.int .i64 b1, .int .i64 b2, .int .i64 b3], .agg #[.int .i64 c1, .int .i64 c2, .int .i64 c3], .agg #[.int .i64 d1, .int .i64 d2, .int .i64 d3]] := Mp.keep hb (by repeat' (first | (with_reducible first | assumption | refine Mp.drew ?_ | refine Mp.drewN ?_ _ | refine Mp.set ?_ _ _ | (refine Mp.new ?_; focus (first | rfl | (simp; done)))) | (refine Mp.put (vs := []) ?_ rfl rfl) | (refine Mp.put (vs := [.agg #[.int .i64 a1, .int .i64 a2, .int .i64 a3]]) ?_ rfl rfl) | (refine Mp.put (vs := [.agg #[.int .i64 a1, .int .i64 a2, .int .i64 a3], .agg #[.int .i64 b1, .int .i64 b2, .int .i64 b3]]) ?_ rfl rfl) | (refine Mp.put (vs := [.agg #[.int .i64 a1, .int .i64 a2, .int .i64 a3], .agg #[.int .i64 b1, .int .i64 b2, .int .i64 b3], .agg #[.int .i64 c1, .int .i64 c2, .int .i64 c3]]) ?_ rfl rfl) | (with_reducible first | refine Mp.putOther ?_ ?_ _ _ | refine Mp.alloc ?_ _) | (refine neB ?_; omega)))
      have ct := Bt.cell
      have ft := Bt.free
      have lt_W4 := Bt.lt
      have co := Bo.cell
      have fo := Bo.free
      have lo_W4 := Bo.lt
      have ma := Ma.out
      have na_W4 := Ma.lt
      have kaW4 : Acc w W4 := by
        refine Acc.call ?_ hb
        (repeat' (first | (with_reducible first | assumption | exact Acc.refl _ | refine Acc.drew ?_ | refine Acc.drewN ?_ _ | refine Acc.alloc ?_ _ | refine Acc.setCell ?_ ?_ _ | refine Acc.mapPut ?_ ?_ _ _) | (refine leB ?_; omega)))
      clear hb
      clear ct ft co fo
      rw [HE.out] at h1 h2
      clear HE
      cases oq with
      | none =>
        obtain ⟨s, rfl⟩ := h2 rfl
        clear h1 h2
        go_wp2_with fail
        go_ret2
        refine ⟨fun _ _ _ _ _ _ _ _ _ _ _ _ h => (by cases h), fun _ => ⟨_, rfl⟩, ?_⟩
        show Acc w _
        (repeat' (first | (with_reducible first | assumption | exact Acc.refl _ | refine Acc.drew ?_ | refine Acc.drewN ?_ _ | refine Acc.alloc ?_ _ | refine Acc.setCell ?_ ?_ _ | refine Acc.mapPut ?_ ?_ _ _) | (refine leB ?_; omega)))
      | some v =>
        obtain ⟨⟨u1, u2, u3⟩, ⟨v1, v2, v3⟩, ⟨x1, x2, x3⟩, y1, y2, y3⟩ := v
        obtain ⟨D, hD, rfl, MD⟩ := h1 _ _ _ _ _ _ _ _ _ _ _ _ rfl
        clear h1 h2
        go_wp2_with fail
        go_ret2
        have hD' : w.heap.size ≤ D := Nat.le_trans (Below.size (show Acc w _ from (by repeat' (first | (with_reducible first | assumption | exact Acc.refl _ | refine Acc.drew ?_ | refine Acc.drewN ?_ _ | refine Acc.alloc ?_ _ | refine Acc.setCell ?_ ?_ _ | refine Acc.mapPut ?_ ?_ _ _) | (refine leB ?_; omega))))) hD
        refine ⟨fun _ _ _ _ _ _ _ _ _ _ _ _ h => ⟨D, hD', rfl, ?_⟩, fun h => (by cases h), ?_⟩
        · obtain ⟨⟩ := h
          exact MD
        show Acc w _
        (repeat' (first | (with_reducible first | assumption | exact Acc.refl _ | refine Acc.drew ?_ | refine Acc.drewN ?_ _ | refine Acc.alloc ?_ _ | refine Acc.setCell ?_ ?_ _ | refine Acc.mapPut ?_ ?_ _ _) | (refine leB ?_; omega)))
end Go.Proofs.YtgmpbdndkjnbfaaDoor
