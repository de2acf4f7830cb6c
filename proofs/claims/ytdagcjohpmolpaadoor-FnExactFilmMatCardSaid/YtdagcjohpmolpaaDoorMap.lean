/-
  Maps keyed by whole numbers from 0 on, filled in order: what a map's block holds, as a list of values; looking up, filling.
-/
import Derived.Test.YtdagcjohpmolpaaDoorBMem
import Derived.Maps.OwnOps
namespace Go.Proofs.YtdagcjohpmolpaaDoor
open Go.ChangeShapes Go.WideShapes Go.ChangeAt Go.RowKit
set_option linter.unusedVariables false

/-- The keys are the numbers from i on, in order. -/
def keysOk : List MapEntry → Nat → Bool
  | [], _ => true
  | e :: es, i => (match e.key with | .int .i64 n => n == (i : Int) | _ => false) && keysOk es (i + 1)
/-- The values of a map whose keys are 0, 1 and so on, in order. -/
def mapOf (w : World) (b : Nat) : Option (List Value) :=
  match w.heap[b]? with
  | some (.map es _) => if keysOk es.toList 0 = true then some (es.toList.map (·.val)) else none
  | _ => none
/-- A new entry behind the others. -/
def mapPut (w : World) (b : Nat) (n : Int) (v : Value) : World :=
  match w.heap[b]? with
  | some (.map es c) => { w with heap := w.heap.setIfInBounds b (.map (es.push ⟨.int .i64 n, v, c⟩) (c + 1)) }
  | _ => w
theorem keysOk_push : ∀ (es : List MapEntry) (i : Nat) (e : MapEntry), keysOk (es ++ [e]) i = (keysOk es i && keysOk [e] (i + es.length))
  | [], i, e => by simp [keysOk]
  | x :: es, i, e => by
    simp only [List.cons_append, keysOk, keysOk_push es (i + 1) e, List.length_cons]
    rw [show i + 1 + es.length = i + (es.length + 1) by omega, Bool.and_assoc]
theorem mapOf_inv {w : World} {b : Nat} {vs : List Value} (h : mapOf w b = some vs) : ∃ es c, w.heap[b]? = some (.map es c) ∧ keysOk es.toList 0 = true ∧ es.toList.map (·.val) = vs := by
  unfold mapOf at h
  split at h
  · rename_i es c hb
    split at h
    · rename_i hk
      exact ⟨es, c, hb, hk, Option.some.inj h⟩
    · cases h
  · cases h
theorem mapOf_lt {w : World} {b : Nat} {vs : List Value} (h : mapOf w b = some vs) : b < w.heap.size := by
  obtain ⟨es, c, hb, _⟩ := mapOf_inv h
  exact (Array.getElem?_eq_some_iff.1 hb).1
theorem find_keys {q : IntKind} : ∀ (es : List MapEntry) (i j : Nat), keysOk es i = true → Instr.findNow (.int q) (.int .i64 (j : Int)) es i = some (if i ≤ j then es[j - i]?.map (fun e => (j, e.val)) else none)
  | [], i, j, _ => by simp [Instr.findNow]
  | e :: es, i, j, h => by
    simp only [keysOk, Bool.and_eq_true] at h
    obtain ⟨h1, h2⟩ := h
    have ih := find_keys (q := q) es (i + 1) j h2
    have hk : e.key = .int .i64 (i : Int) := by
      split at h1
      · rename_i n hn
        rw [hn, beq_iff_eq.1 h1]
      · cases h1
    simp only [Instr.findNow, hk, Instr.sameNow, if_true]
    by_cases hij : i = j
    · subst hij
      simp
    · have hb : ((j : Int) == (i : Int)) = false := by
        rw [beq_eq_false_iff_ne]
        intro e
        exact hij (by exact_mod_cast e.symm)
      rw [hb]
      simp only
      rw [ih]
      by_cases hle : i ≤ j
      · rw [if_pos (by omega), if_pos hle]
        obtain ⟨d, rfl⟩ : ∃ d, j = i + 1 + d := ⟨j - (i + 1), by omega⟩
        rw [show i + 1 + d - (i + 1) = d by omega, show i + 1 + d - i = d + 1 by omega, List.getElem?_cons_succ]
      · rw [if_neg (by omega), if_neg hle]
theorem check_int' {P : Program} {k : TypeId} {q : IntKind} (hk : P.underlying k = some (.int q)) (em : Bool) (n : Int) (w : World) (d : Nat) : (Instr.checkKey em (d + 1) k (.int .i64 n)).run P w = .ok () w := by
  simp [Instr.checkKey, run_underlying hk, Result.andThen]
theorem check_int {P : Program} {k : TypeId} {q : IntKind} (hk : P.underlying k = some (.int q)) (em : Bool) (n : Int) (w : World) : (Instr.checkKey em 10000 k (.int .i64 n)).run P w = .ok () w := check_int' hk em n w 9999
theorem lookup_map {P : Program} {t k e : TypeId} {q : IntKind} (ht : P.underlying t = some (.map k e)) (hk : P.underlying k = some (.int q)) (j : Nat) {b : Nat} {vs : List Value} {v : Value} (hv : vs[j]? = some v) (w : World) (h : mapOf w b = some vs) :
    (Instr.lookup t (.map (some b)) (.int .i64 (j : Int)) false).run P w = .ok v w := by
  obtain ⟨es, c, hb, hks, rfl⟩ := mapOf_inv h
  have hf := find_keys (q := q) es.toList 0 j hks
  simp only [Nat.zero_le, if_true, Nat.sub_zero] at hf
  obtain ⟨e0, he, rfl⟩ : ∃ e0, es.toList[j]? = some e0 ∧ e0.val = v := by
    rw [List.getElem?_map] at hv
    cases hh : es.toList[j]? with
    | none => rw [hh] at hv; cases hv
    | some e0 => rw [hh] at hv; exact ⟨e0, rfl, Option.some.inj hv⟩
  rw [he] at hf
  simp [Instr.lookup, run_underlying ht, MapKept.run_getObj_map hb, check_int hk, Instr.findKey, run_underlying hk, hf, Result.andThen]
theorem lookup_nil {P : Program} {t k e : TypeId} {q : IntKind} {z : Value} (ht : P.underlying t = some (.map k e)) (hk : P.underlying k = some (.int q)) (hz : ∀ w, (zeroValue e).run P w = .ok z w) (n : Int) (w : World) :
    (Instr.lookup t (.map none) (.int .i64 n) false).run P w = .ok z w := by
  simp [Instr.lookup, run_underlying ht, check_int hk, Instr.findKey, run_underlying hk, Instr.findNow, hz, Result.andThen]
theorem update_map {P : Program} {t k e : TypeId} {q : IntKind} (ht : P.underlying t = some (.map k e)) (hk : P.underlying k = some (.int q)) (j : Nat) (b : Nat) (v : Value) (w : World) (h : (mapOf w b).map List.length = some j) :
    (Instr.mapUpdate t (.map (some b)) (.int .i64 (j : Int)) v).run P w = .ok () (mapPut w b (j : Int) v) := by
  cases hm : mapOf w b with
  | none => rw [hm] at h; cases h
  | some vs =>
    rw [hm] at h
    obtain ⟨es, c, hb, hks, rfl⟩ := mapOf_inv hm
    have hl : es.toList.length = j := by simpa using Option.some.inj h
    have hf := find_keys (q := q) es.toList 0 j hks
    rw [List.getElem?_eq_none (by omega)] at hf
    simp only [Option.map_none, ite_self] at hf
    simp [Instr.mapUpdate, run_underlying ht, MapKept.run_getObj_map hb, check_int hk, Instr.findKey, run_underlying hk, hf, MapKept.run_setObj_map _ hb, Result.andThen, mapPut, hb]
/-! What stands and turns. -/
theorem mapOf_drew (w : World) (b : Nat) : mapOf w.drew b = mapOf w b := rfl
theorem mapOf_drewN (w : World) (n b : Nat) : mapOf (w.drewN n) b = mapOf w b := rfl
theorem mapOf_cells (w : World) (c : Array Value) (t : TypeId) (f : Nat × Nat) (b : Nat) : mapOf (w.alloc (.cells c t f)) b = mapOf w b := by
  unfold mapOf World.alloc
  simp only [Array.getElem?_push]
  by_cases h : b = w.heap.size
  · subst h
    simp
  · simp [h]
theorem mapOf_made (w : World) (k b : Nat) : mapOf (w.alloc (.map #[] k)) b = if b = w.heap.size then some [] else mapOf w b := by
  unfold mapOf World.alloc
  simp only [Array.getElem?_push]
  by_cases h : b = w.heap.size
  · subst h
    simp [keysOk]
  · simp [h]
theorem mapOf_setCell (w : World) (a : Addr) (v : Value) (b : Nat) : mapOf (w.setCell a v) b = mapOf w b := by
  unfold mapOf World.setCell
  simp only [Array.getElem?_modify]
  by_cases h : a.block = b
  · rw [if_pos h]
    cases hh : w.heap[b]? with
    | none => rfl
    | some o => cases o <;> rfl
  · rw [if_neg h]
theorem heap_mapPut (w : World) (b : Nat) (n : Int) (v : Value) {k : Nat} (h : k ≠ b) : (mapPut w b n v).heap[k]? = w.heap[k]? := by
  unfold mapPut
  split
  · simp only [Array.getElem?_setIfInBounds]
    rw [if_neg (Ne.symm h)]
  · rfl
theorem mapOf_putOther (w : World) (b : Nat) (n : Int) (v : Value) {k : Nat} (h : k ≠ b) : mapOf (mapPut w b n v) k = mapOf w k := by
  unfold mapOf
  rw [heap_mapPut w b n v h]
theorem mapOf_put (w : World) (b : Nat) (n : Int) (v : Value) : mapOf (mapPut w b n v) b = (mapOf w b).bind fun vs => if (vs.length : Int) = n then some (vs ++ [v]) else none := by
  cases hh : w.heap[b]? with
  | none => simp [mapOf, mapPut, hh]
  | some o =>
    cases o with
    | map es c =>
      have hlt : b < w.heap.size := (Array.getElem?_eq_some_iff.1 hh).1
      simp only [mapOf, mapPut, hh, Array.getElem?_setIfInBounds, if_true, hlt, Array.toList_push, keysOk_push, List.map_append, List.map_cons, List.map_nil]
      by_cases hk : keysOk es.toList 0 = true
      · simp only [hk, Bool.true_and, if_true, Option.bind_some, keysOk, Bool.and_true, Nat.zero_add, beq_iff_eq, List.length_map]
        by_cases hn : n = (es.toList.length : Int)
        · rw [if_pos hn, if_pos hn.symm]
        · rw [if_neg hn, if_neg (fun e => hn e.symm)]
      · simp [hk]
    | _ => simp [mapOf, mapPut, hh]
theorem cell_mapPut (w : World) (b : Nat) (n : Int) (v : Value) (a : Addr) : (mapPut w b n v).cell? a = w.cell? a := by
  by_cases h : a.block = b
  · unfold mapPut
    split
    · rename_i es c hb
      have hlt : b < w.heap.size := (Array.getElem?_eq_some_iff.1 hb).1
      simp only [World.cell?, h, Array.getElem?_setIfInBounds, if_true, hlt, hb]
    · rfl
  · simp only [World.cell?, heap_mapPut w b n v h]
theorem frozen_mapPut (w : World) (b : Nat) (n : Int) (v : Value) (a : Addr) : (mapPut w b n v).frozen? a = w.frozen? a := by
  by_cases h : a.block = b
  · unfold mapPut
    split
    · rename_i es c hb
      have hlt : b < w.heap.size := (Array.getElem?_eq_some_iff.1 hb).1
      simp only [World.frozen?, h, Array.getElem?_setIfInBounds, if_true, hlt, hb]
    · rfl
  · simp only [World.frozen?, heap_mapPut w b n v h]
theorem size_mapPut (w : World) (b : Nat) (n : Int) (v : Value) : (mapPut w b n v).heap.size = w.heap.size := by
  unfold mapPut
  split <;> simp
theorem tape_mapPut (w : World) (b : Nat) (n : Int) (v : Value) : (mapPut w b n v).tape = w.tape := by
  unfold mapPut
  split <;> rfl
theorem cell_made (w : World) (es : Array MapEntry) (c : Nat) (a : Addr) : (w.alloc (.map es c)).cell? a = w.cell? a := by
  unfold World.cell? World.alloc
  simp only [Array.getElem?_push]
  by_cases h : a.block = w.heap.size
  · rw [h]
    simp
  · simp [h]
theorem frozen_made (w : World) (es : Array MapEntry) (c : Nat) (a : Addr) : (w.alloc (.map es c)).frozen? a = w.frozen? a := by
  unfold World.frozen? World.alloc
  simp only [Array.getElem?_push]
  by_cases h : a.block = w.heap.size
  · rw [h]
    simp
  · simp [h]
theorem below_mapPut {B : Nat} {w w' : World} (h : Below B w w') {b : Nat} (hb : B ≤ b) (n : Int) (v : Value) : Below B w (mapPut w' b n v) := by
  refine ⟨?_, ?_, ?_, ?_, ?_⟩
  · rw [← h.os]; unfold mapPut; split <;> rfl
  · rw [← h.tape]; unfold mapPut; split <;> rfl
  · rw [← h.output]; unfold mapPut; split <;> rfl
  · rw [size_mapPut]; exact h.size
  · intro k hk
    rw [heap_mapPut w' b n v (by omega)]
    exact h.block k hk
theorem Acc.mapPut {w W : World} {b : Nat} (h : Acc w W) (hp : w.heap.size ≤ b) (n : Int) (v : Value) : Acc w (mapPut W b n v) := below_mapPut h hp n v
theorem Blk.mapPut {w : World} {b k : Nat} {vs : List Value} (h : Blk w k vs) (n : Int) (v : Value) : Blk (mapPut w b n v) k vs := by
  obtain ⟨T, h⟩ := h
  refine ⟨T, ?_⟩
  by_cases e : k = b
  · subst e
    unfold Proofs.YtdagcjohpmolpaaDoor.mapPut
    rw [h]
    exact h
  · rw [heap_mapPut w b n v e]; exact h
/-- Block b is a map that holds these values at 0, 1 and so on. -/
def Mp (w : World) (b : Nat) (vs : List Value) : Prop := mapOf w b = some vs
theorem Mp.out {w : World} {b : Nat} {vs : List Value} (h : Mp w b vs) : mapOf w b = some vs := h
theorem Mp.lt {w : World} {b : Nat} {vs : List Value} (h : Mp w b vs) : b < w.heap.size := mapOf_lt h
theorem Mp.keep {w w' : World} {b : Nat} {vs : List Value} (hb : Below w.heap.size w w') (h : Mp w b vs) : Mp w' b vs := by
  have l := h.lt
  unfold Mp mapOf at h ⊢
  rw [hb.block b l]
  exact h
theorem Mp.drew {w : World} {b : Nat} {vs : List Value} (h : Mp w b vs) : Mp w.drew b vs := h
theorem Mp.drewN {w : World} {b : Nat} {vs : List Value} (h : Mp w b vs) (n : Nat) : Mp (w.drewN n) b vs := h
theorem Mp.alloc {w : World} {b : Nat} {vs : List Value} (h : Mp w b vs) (o : Obj) : Mp (w.alloc o) b vs := by
  have l := h.lt
  unfold Mp mapOf at h ⊢
  rw [Below.heap_alloc _ _ _ l]
  exact h
theorem Mp.new {w : World} {b k : Nat} (e : b = w.heap.size) : Mp (w.alloc (.map #[] k)) b [] := by
  subst e
  unfold Mp
  rw [mapOf_made, if_pos rfl]
theorem Mp.set {w : World} {b : Nat} {vs : List Value} (h : Mp w b vs) (a : Addr) (v : Value) : Mp (w.setCell a v) b vs := by
  unfold Mp
  rw [mapOf_setCell]; exact h
theorem Mp.put {w : World} {b : Nat} {vs vs' : List Value} {n : Int} {v : Value} (h : Mp w b vs) (e : vs' = vs ++ [v]) (hn : (vs.length : Int) = n) : Mp (mapPut w b n v) b vs' := by
  unfold Mp
  rw [mapOf_put, h.out, e]
  simp [hn]
theorem Mp.putOther {w : World} {b k : Nat} {vs : List Value} (h : Mp w k vs) (e : k ≠ b) (n : Int) (v : Value) : Mp (mapPut w b n v) k vs := by
  unfold Mp
  rw [mapOf_putOther w b n v e]; exact h
end Go.Proofs.YtdagcjohpmolpaaDoor
