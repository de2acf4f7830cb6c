/-
  Lists of four ints; fibres as plain mathematics; links.
-/
import Derived.Test.YtkdkeacfifjjoabDoorBMathA
import Derived.Test.YtkdkeacfifjjoabDoorBMem
import Derived.Deep.Slices
import Derived.WalkKit
namespace Go.Proofs.YtkdkeacfifjjoabDoor
open Go.ChangeShapes Go.WideShapes Go.ChangeAt Go.RowKit
set_option linter.unusedVariables false

abbrev L4 := F3 × Int
def oT (u v : F3) : Option F3 := overF u.1 u.2.1 u.2.2 v.1 v.2.1 v.2.2
def invT (v : F3) : Option F3 := lowE (v.1 * v.2.2) (-v.2.1 * v.2.2) (v.1 * v.1 + v.2.1 * v.2.1)
def negF (u : F3) : F3 := (-u.1, -u.2.1, u.2.2)
/-- An index: a fraction that is not 0. -/
def okX (n : F3) : Bool := okT n && !(n.1 == 0 && n.2.1 == 0)
def okL (l : L4) : Bool := okX l.1 && inB l.2 0 3
def okFl (ls : List L4) : Bool := ls.all okL && decide (ls.length ≤ 8)
/-- The matrix of one quarter, i or its opposite given. -/
def quaM (i n : F3) : Option F4 := quadO (some (0, 0, 1)) (oT i n) (tT i n) (some (0, 0, 1))
def mOneM : F4 := ((-1, 0, 1), (0, 0, 1), (0, 0, 1), (-1, 0, 1))
def layM (l : L4) : Option F4 := if l.2 = 0 then some oneM else if l.2 = 2 then some mOneM else if l.2 = 1 then quaM (0, 1, 1) l.1 else quaM (0, -1, 1) l.1
def mulsM : F4 → List L4 → Option F4
  | A, [] => some A
  | A, l :: r => (layM l).bind fun m => (mulM A m).bind fun B => mulsM B r
def flmM (ls : List L4) : Option F4 := if okFl ls = true then mulsM oneM ls else none
/-- a times B, and C. -/
def sidM (ls : List L4) (a b : F3) : Option (F3 × F3) :=
  if (okX a && okX b) = true then (flmM ls).bind fun m => (appM m ((1, 0, 1), b)).bind fun v => (tT a v.1).bind fun x => some (x, v.2) else none
def refM (ls : List L4) (a b : F3) : Option F3 := (sidM ls a b).bind fun s => (lT s.1 s.2).bind fun t => (sT s.1 s.2).bind fun u => oT t u
def pasM (ls : List L4) (a b : F3) : Option F3 := (sidM ls a b).bind fun s => (sT a a).bind fun t => (sT s.1 s.2).bind fun u => oT t u
def powT (u : F3) : Option F3 := powerF u.1 u.2.1 u.2.2
def makeT (x : Int) (z : Int) : Option F3 := makeF x 0 z
def powM (ls : List L4) (a b : F3) : Option (F3 × F3) :=
  (refM ls a b).bind fun r => (pasM ls a b).bind fun t => (powT r).bind fun p => (powT t).bind fun q => (makeT a.1 a.2.2).bind fun x => (makeT b.1 b.2.2).bind fun y => (tT q y).bind fun z => (oT z x).bind fun s => some (p, s)
def samM (a b : List L4) : Bool := match flmM a, flmM b with
  | some m, some n => alkM m n
  | _, _ => false
theorem reT_negF (u : F3) : reT (negF u) = -reT u := rv_neg _ _
theorem imT_negF (u : F3) : imT (negF u) = -imT u := rv_neg _ _
theorem okT_negF (u : F3) : okT (negF u) = okT u := okF_neg2 _ _ _
theorem okX_ok {n : F3} (h : okX n = true) : okT n = true := by
  unfold okX at h
  simp only [Bool.and_eq_true] at h
  exact h.1
theorem oT_eq (u v : F3) : oT u v = if okT v = true then (invT v).bind (tT u) else none := by
  obtain ⟨a, b, c⟩ := u
  obtain ⟨x, y, z⟩ := v
  exact over_eq a b c x y z
theorem okT_i : okT (0, 1, 1) = true := by decide
theorem okT_j : okT (0, -1, 1) = true := by decide
theorem okT_m : okT (-1, 0, 1) = true := by decide
theorem reT_i : reT (0, 1, 1) = 0 := rv_zero 1
theorem imT_i : imT (0, 1, 1) = 1 := rv_one 1
theorem reT_j : reT (0, -1, 1) = 0 := rv_zero 1
theorem imT_j : imT (0, -1, 1) = -1 := rv_one (-1)
theorem reT_m : reT (-1, 0, 1) = -1 := rv_one (-1)
theorem imT_m : imT (-1, 0, 1) = 0 := rv_zero 1
/-- Times -1. -/
theorem tT_m {u : F3} (h : okT u = true) : tT u (-1, 0, 1) = some (negF u) :=
  tT_of h okT_m (by rw [okT_negF]; exact h) (by rw [reT_negF, reT_m, imT_m]; grind) (by rw [imT_negF, reT_m, imT_m]; grind)
theorem tT_j (u : F3) : tT (0, -1, 1) u = (tT (0, 1, 1) u).bind fun x => tT x (-1, 0, 1) := by
  cases h : tT (0, 1, 1) u with
  | some x =>
    obtain ⟨h1, h2, h3, h4, h5⟩ := tT_val h
    rw [Option.bind_some, tT_m h3]
    exact tT_of okT_j h2 (by rw [okT_negF]; exact h3) (by rw [reT_negF, h4, reT_i, imT_i, reT_j, imT_j]; grind) (by rw [imT_negF, h5, reT_i, imT_i, reT_j, imT_j]; grind)
  | none =>
    cases k : tT (0, -1, 1) u with
    | none => rfl
    | some x =>
      obtain ⟨h1, h2, h3, h4, h5⟩ := tT_val k
      rw [tT_of (w := negF x) okT_i h2 (by rw [okT_negF]; exact h3) (by rw [reT_negF, h4, reT_i, imT_i, reT_j, imT_j]; grind) (by rw [imT_negF, h5, reT_i, imT_i, reT_j, imT_j]; grind)] at h
      cases h
theorem oT_j (u : F3) : oT (0, -1, 1) u = (oT (0, 1, 1) u).bind fun x => tT x (-1, 0, 1) := by
  rw [oT_eq, oT_eq]
  split
  · cases invT u with
    | none => rfl
    | some c => exact tT_j c
  · rfl
/-- Three quarters: one, and then half a wave. -/
theorem quaM_3 (n : F3) : quaM (0, -1, 1) n = (quaM (0, 1, 1) n).bind fun m => sclM m (-1, 0, 1) := by
  unfold quaM
  rw [oT_j, tT_j]
  cases h1 : oT (0, 1, 1) n with
  | none => rfl
  | some a =>
    cases h2 : tT (0, 1, 1) n with
    | none => simp only [Option.bind_none, quad_n3]
    | some b =>
      have hz : tT (0, 0, 1) (-1, 0, 1) = some (0, 0, 1) := tT_m (u := (0, 0, 1)) okT_zero
      simp only [quadO, sclM, Option.bind_some, hz]
theorem sclM_m1 : sclM oneM (-1, 0, 1) = some mOneM := by
  show quadO (tT (1, 0, 1) (-1, 0, 1)) (tT (0, 0, 1) (-1, 0, 1)) (tT (0, 0, 1) (-1, 0, 1)) (tT (1, 0, 1) (-1, 0, 1)) = _
  rw [show tT (0, 0, 1) (-1, 0, 1) = some (0, 0, 1) from tT_m (u := (0, 0, 1)) okT_zero, show tT (1, 0, 1) (-1, 0, 1) = some (-1, 0, 1) from tT_m (u := (1, 0, 1)) okT_one]
  rfl
theorem quaM_some {i n : F3} {A : F4} (h : quaM i n = some A) : ∃ a b, oT i n = some a ∧ tT i n = some b ∧ A = ((0, 0, 1), a, b, (0, 0, 1)) := by
  obtain ⟨w, x, y, z⟩ := A
  obtain ⟨e1, e2, e3, e4⟩ := quad_some h
  cases e1
  cases e4
  exact ⟨x, y, e2, e3, rfl⟩
/-- Twice, as a sum and as a product. -/
theorem twice_eq {a : F3} (h : okT a = true) : tT a (2, 0, 1) = sT a a := by
  have h2 : okT (2, 0, 1) = true := by decide
  have r2 : reT (2, 0, 1) = 2 := rv_one 2
  have i2 : imT (2, 0, 1) = 0 := rv_zero 1
  cases e : sT a a with
  | some w =>
    obtain ⟨k1, k2, k3, k4, k5⟩ := sT_val e
    exact tT_of h h2 k3 (by rw [k4, r2, i2]; grind) (by rw [k5, r2, i2]; grind)
  | none =>
    cases k : tT a (2, 0, 1) with
    | none => rfl
    | some w =>
      obtain ⟨k1, k2, k3, k4, k5⟩ := tT_val k
      rw [sT_of h h k3 (by rw [k4, r2, i2]; grind) (by rw [k5, r2, i2]; grind)] at e
      cases e

def okS (s : L4) : Bool := dirB s.1.1 s.1.2.1 && inB s.1.2.2 0 3 && inB s.2 0 50
def okFb (ls : List L4) : Bool := ls.all okS && decide (ls.length ≤ 8)
def pwM (m : F4) : Nat → F4 → Option F4
  | 0, A => some A
  | n + 1, A => (pwM m n A).bind (mulM m)
def secM (s : L4) (A : F4) : Option F4 := (plaM s.1.1 s.1.2.1 s.1.2.2).bind fun m => pwM m s.2.toNat A
def fbF (ls : List L4) (o : Option F4) : Option F4 := ls.foldl (fun o s => o.bind (secM s)) o
def fbM (ls : List L4) : Option F4 := if okFb ls = true then fbF ls (some oneM) else none
def runM (ls : List L4) (v : F3 × F3) : Option (F3 × F3) := (fbM ls).bind fun m => appM m v
/-- The order, k products being left. -/
def ordG (m : F4) : Nat → F4 → Int
  | 0, _ => 0
  | k + 1, X => if alkM X oneM = true then 24 - (k : Int) else match mulM m X with
    | some Y => ordG m k Y
    | none => 0
def ordM (ls : List L4) : Option Int := (fbM ls).bind fun m => some (ordG m 24 m)
def beatI (k : Int) : Int := if k = 0 then 1 else if k = 2 then 2 else 4
def undo (s : L4) : L4 := ((s.1.1, s.1.2.1, -s.1.2.2 % 4), s.2)
def backM (ls : List L4) : List L4 := (ls.map undo).reverse
/-- A section put behind others, the last one first. -/
def putS (rs : List L4) (s : L4) : List L4 :=
  match rs with
  | [] => if (s.2).tmod (beatI s.1.2.2) = 0 then [] else [((s.1), (s.2).tmod (beatI s.1.2.2))]
  | r :: rest =>
    if r.1 = s.1 then (if (s.2 + r.2).tmod (beatI s.1.2.2) = 0 then rest else (s.1, (s.2 + r.2).tmod (beatI s.1.2.2)) :: rest)
    else (if (s.2).tmod (beatI s.1.2.2) = 0 then r :: rest else (s.1, (s.2).tmod (beatI s.1.2.2)) :: r :: rest)
/-- The short fibre, the last one first. -/
def shoR (ls : List L4) : List L4 := ls.foldl putS []
theorem fbF_none (ls : List L4) : fbF ls none = none := by
  induction ls with
  | nil => rfl
  | cons s r ih => exact ih
theorem fbF_snoc (ls : List L4) (s : L4) (o : Option F4) : fbF (ls ++ [s]) o = (fbF ls o).bind (secM s) := by
  unfold fbF; rw [List.foldl_append]; rfl
theorem fbF_cons (ls : List L4) (s : L4) (o : Option F4) : fbF (s :: ls) o = fbF ls (o.bind (secM s)) := rfl
theorem pwM_none {m A : F4} {n : Nat} (h : pwM m n A = none) : ∀ k, pwM m (n + k) A = none
  | 0 => h
  | k + 1 => by rw [← Nat.add_assoc]; unfold pwM; rw [pwM_none h k]; rfl
theorem pwM_none' {m A : F4} {n k : Nat} (h : pwM m n A = none) (hk : n ≤ k) : pwM m k A = none := by
  obtain ⟨j, rfl⟩ := Nat.exists_eq_add_of_le hk
  exact pwM_none h j
theorem pwM_succ {m A : F4} {n : Nat} {B : F4} (h : pwM m n A = some B) : pwM m (n + 1) A = mulM m B := by
  show (pwM m n A).bind (mulM m) = _
  rw [h]; rfl
theorem okS_out {p q k t : Int} (h : okS ((p, q, k), t) = true) : dirB p q = true ∧ inB k 0 3 = true ∧ (0 ≤ t ∧ t ≤ 50) := by
  unfold okS at h
  simp only [Bool.and_eq_true] at h
  exact ⟨h.1.1, h.1.2, inB_bd h.2⟩
theorem okS_no1 {p q k t : Int} (h : dirB p q = false) : okS ((p, q, k), t) = false := by unfold okS; simp [h]
theorem okS_no2 {p q k t : Int} (h : inB k 0 3 = false) : okS ((p, q, k), t) = false := by unfold okS; simp [h]
theorem okS_no3 {p q k t : Int} (h : inB t 0 50 = false) : okS ((p, q, k), t) = false := by unfold okS; simp [h]
theorem okS_mk {p q k t : Int} (h1 : dirB p q = true) (h2 : inB k 0 3 = true) (h3 : inB t 0 50 = true) : okS ((p, q, k), t) = true := by unfold okS; simp [h1, h2, h3]
theorem allS_no {ls : List L4} {k : Nat} {x : L4} (e : ls.take (k + 1) = ls.take k ++ [x]) (h : okS x = false) : okFb ls = false := by
  have e2 := List.take_append_drop (k + 1) ls
  unfold okFb
  rw [show ls.all okS = false by rw [← e2, e, List.all_append, List.all_append]; simp [h], Bool.false_and]
theorem allS_yes {ls : List L4} {k : Nat} {x : L4} (e : ls.take (k + 1) = ls.take k ++ [x]) (h : okS x = true) (H : (ls.take k).all okS = true) : (ls.take (k + 1)).all okS = true := by
  rw [e, List.all_append, H]
  simp [h]
theorem okFb_mem {ls : List L4} (h : okFb ls = true) {x : L4} (hx : x ∈ ls) : okS x = true := by
  unfold okFb at h
  simp only [Bool.and_eq_true] at h
  exact List.all_eq_true.1 h.1 x hx
theorem okFb_all {ls : List L4} (h : okFb ls = true) : ls.all okS = true ∧ ls.length ≤ 8 := by
  unfold okFb at h
  simp only [Bool.and_eq_true, decide_eq_true_eq] at h
  exact h
theorem fbM_yes {ls : List L4} (h : okFb ls = true) : fbM ls = fbF ls (some oneM) := by unfold fbM; rw [if_pos h]
theorem fbM_no {ls : List L4} (h : okFb ls = false) : fbM ls = none := by unfold fbM; rw [h]; rfl
theorem fbF_take_none {ls : List L4} {k : Nat} {o : Option F4} (h : fbF (ls.take k) o = none) : fbF ls o = none := by
  rw [← List.take_append_drop k ls]
  unfold fbF at h ⊢
  rw [List.foldl_append, h]
  exact fbF_none _

def i64L (l : L4) : Prop := i64B l.1.1 ∧ i64B l.1.2.1 ∧ i64B l.1.2.2 ∧ i64B l.2
/-- A slice that holds layers. -/
def Lys (w : World) (a : Option Addr) (ls : List L4) : Prop :=
  (∀ l ∈ ls, i64L l) ∧ (ls = [] ∨ ∃ c off : Nat, a = some ⟨c, off, none⟩ ∧ c < w.heap.size ∧ ∀ (i : Nat) (l : L4), ls[i]? = some l →
    w.cell? ⟨c, off + i * 4, none⟩ = some (.int .i64 l.1.1) ∧ w.cell? ⟨c, off + i * 4 + 1, none⟩ = some (.int .i64 l.1.2.1) ∧ w.cell? ⟨c, off + i * 4 + 2, none⟩ = some (.int .i64 l.1.2.2) ∧ w.cell? ⟨c, off + i * 4 + 3, none⟩ = some (.int .i64 l.2))
theorem Lys.keep {w w' : World} {a : Option Addr} {ls : List L4} (h : Lys w a ls) (hb : Below w.heap.size w w') : Lys w' a ls := by
  refine ⟨h.1, ?_⟩
  rcases h.2 with h | ⟨c, off, e, hc, h⟩
  · exact .inl h
  · refine .inr ⟨c, off, e, Nat.lt_of_lt_of_le hc hb.size, fun i l hi => ?_⟩
    have key : ∀ k, w'.cell? ⟨c, k, none⟩ = w.cell? ⟨c, k, none⟩ := fun k => hb.cell hc
    simp only [key]
    exact h i l hi
theorem Lys.at {w : World} {a : Option Addr} {ls : List L4} (h : Lys w a ls) {k : Nat} (hk : k < ls.length) : ∃ c off : Nat, a = some ⟨c, off, none⟩ ∧ c < w.heap.size ∧ i64L ls[k] ∧
    w.cell? ⟨c, off + k * 4, none⟩ = some (.int .i64 ls[k].1.1) ∧ w.cell? ⟨c, off + k * 4 + 1, none⟩ = some (.int .i64 ls[k].1.2.1) ∧ w.cell? ⟨c, off + k * 4 + 2, none⟩ = some (.int .i64 ls[k].1.2.2) ∧ w.cell? ⟨c, off + k * 4 + 3, none⟩ = some (.int .i64 ls[k].2) := by
  rcases h.2 with h0 | ⟨c, off, e, hc, hx⟩
  · rw [h0] at hk; exact absurd hk (Nat.not_lt_zero _)
  · exact ⟨c, off, e, hc, h.1 _ (List.getElem_mem hk), hx k _ (List.getElem?_eq_getElem hk)⟩
section
variable {H : Type} {enc : TypeId × Value → H} {P : Program} {w : World} {base : Nat} {spare : Nat → Bool} {held : Bool}
theorem open_one {t : TypeId} {fuel : Nat} {cs : List Value} {x : DataW H × List MemPlace} (ht : P.underlying t = some (.int .i64)) (h : DataW.trod enc P w base spare held fuel t cs = some x) : ∃ n, cs = [.int .i64 n] ∧ i64B n := by
  obtain ⟨n, rfl, _, hw⟩ := DataW.trod_int ht h
  refine ⟨n, rfl, ?_⟩
  simpa [Lit.wf, IntKind.has, IntKind.min, IntKind.max, IntKind.bits, IntKind.signed, i64B] using hw
theorem open_layer {e : TypeId} {g0 g1 h0 h1 h2 : Field} {fuel : Nat} {cs : List Value} {x : DataW H × List MemPlace} (he : P.underlying e = some (.struct #[g0, g1])) (ce : P.cellsOf e = 4) (hf : P.underlying g0.type = some (.struct #[h0, h1, h2]))
    (c0 : P.cellsOf g0.type = 3) (c1 : P.cellsOf g1.type = 1) (o0 : g0.offset = 0) (o1 : g1.offset = 3) (p0 : h0.offset = 0) (p1 : h1.offset = 1) (p2 : h2.offset = 2) (d0 : P.cellsOf h0.type = 1) (d1 : P.cellsOf h1.type = 1) (d2 : P.cellsOf h2.type = 1)
    (u0 : P.underlying h0.type = some (.int .i64)) (u1 : P.underlying h1.type = some (.int .i64)) (u2 : P.underlying h2.type = some (.int .i64)) (u3 : P.underlying g1.type = some (.int .i64))
    (h : DataW.trod enc P w base spare held fuel e cs = some x) : ∃ l : L4, i64L l ∧ cs = [.int .i64 l.1.1, .int .i64 l.1.2.1, .int .i64 l.1.2.2, .int .i64 l.2] := by
  obtain ⟨xs, n, _, _, hl, hxl, hg⟩ := DataW.trod_struct he h
  rw [ce] at hl
  match cs, hl with
  | [v0, v1, v2, v3], _ =>
    match xs, hxl with
    | [y0, y1], _ =>
      have g0' := hg 0 g0 rfl
      have g1' := hg 1 g1 rfl
      rw [o0, c0] at g0'
      rw [o1, c1] at g1'
      obtain ⟨q, e3, b3⟩ := open_one u3 (show DataW.trod enc P w base spare held n g1.type [v3] = some y1 from g1')
      obtain ⟨zs, m, _, _, _, hzl, hh⟩ := DataW.trod_struct hf (show DataW.trod enc P w base spare held n g0.type [v0, v1, v2] = some y0 from g0')
      match zs, hzl with
      | [z0, z1, z2], _ =>
        have k0 := hh 0 h0 rfl
        have k1 := hh 1 h1 rfl
        have k2 := hh 2 h2 rfl
        rw [p0, d0] at k0
        rw [p1, d1] at k1
        rw [p2, d2] at k2
        obtain ⟨a, e0, b0⟩ := open_one u0 (show DataW.trod enc P w base spare held m h0.type [v0] = some z0 from k0)
        obtain ⟨b, e1, b1⟩ := open_one u1 (show DataW.trod enc P w base spare held m h1.type [v1] = some z1 from k1)
        obtain ⟨c, e2, b2⟩ := open_one u2 (show DataW.trod enc P w base spare held m h2.type [v2] = some z2 from k2)
        injection e0 with e0 _
        injection e1 with e1 _
        injection e2 with e2 _
        injection e3 with e3 _
        subst e0 e1 e2 e3
        exact ⟨((a, b, c), q), ⟨b0, b1, b2, b3⟩, rfl⟩
instance : Inhabited L4 := ⟨((0, 0, 0), 0)⟩
theorem open_layers {t e : TypeId} {g0 g1 h0 h1 h2 : Field} {fuel : Nat} {cs : List Value} {x : DataW H × List MemPlace} (ht : P.underlying t = some (.slice e)) (he : P.underlying e = some (.struct #[g0, g1])) (ce : P.cellsOf e = 4) (hf : P.underlying g0.type = some (.struct #[h0, h1, h2]))
    (c0 : P.cellsOf g0.type = 3) (c1 : P.cellsOf g1.type = 1) (o0 : g0.offset = 0) (o1 : g1.offset = 3) (p0 : h0.offset = 0) (p1 : h1.offset = 1) (p2 : h2.offset = 2) (d0 : P.cellsOf h0.type = 1) (d1 : P.cellsOf h1.type = 1) (d2 : P.cellsOf h2.type = 1)
    (u0 : P.underlying h0.type = some (.int .i64)) (u1 : P.underlying h1.type = some (.int .i64)) (u2 : P.underlying h2.type = some (.int .i64)) (u3 : P.underlying g1.type = some (.int .i64))
    (h : DataW.trod enc P w base spare held fuel t cs = some x) :
    ∃ (a : Option Addr) (ls : List L4) (cap : Nat), cs = [.slice a ls.length cap] ∧ ls.length ≤ cap ∧ cap ≤ maxLen ∧ Lys w a ls := by
  rcases Go.Deep.open_slice ht h with ⟨rfl, _⟩ | ⟨a, len, cap, m, n, D, Pl, rfl, hb, hl, hm, hmm, _, hx⟩
  · refine ⟨none, [], 0, rfl, Nat.le_refl _, by unfold maxLen; omega, ?_, Or.inl rfl⟩
    intro l h
    cases h
  · have hlm : len ≤ m := by rw [hmm]; split <;> omega
    obtain ⟨f, hf'⟩ := Go.Deep.choose_lt (α := L4) (n := len) (p := fun i l => i64L l ∧ w.cell? (a.add (i * 4)) = some (.int .i64 l.1.1) ∧ w.cell? (a.add (i * 4 + 1)) = some (.int .i64 l.1.2.1) ∧ w.cell? (a.add (i * 4 + 2)) = some (.int .i64 l.1.2.2) ∧ w.cell? (a.add (i * 4 + 3)) = some (.int .i64 l.2)) (fun i hi => by
      obtain ⟨cs', g1', g2'⟩ := hx i (by omega)
      rw [ce] at g1'
      obtain ⟨_, hlen, hcell⟩ := World.cells?_some g1'
      obtain ⟨l, hi64, rfl⟩ := open_layer he ce hf c0 c1 o0 o1 p0 p1 p2 d0 d1 d2 u0 u1 u2 u3 g2'
      have e0 := hcell 0 (by omega)
      have e1 := hcell 1 (by omega)
      have e2 := hcell 2 (by omega)
      have e3 := hcell 3 (by omega)
      rw [Go.Deep.add_add] at e0 e1 e2 e3
      exact ⟨l, hi64, by simpa using e0, by simpa using e1, by simpa using e2, by simpa using e3⟩)
    refine ⟨some a, (List.range len).map f, cap, by simp, by simpa using hl, hm, ?_, ?_⟩
    · intro l hl'
      obtain ⟨i, hi, rfl⟩ := List.mem_map.1 hl'
      exact (hf' i (List.mem_range.1 hi)).1
    · by_cases h0 : len = 0
      · subst h0; exact Or.inl rfl
      · right
        obtain ⟨b, off, spot⟩ := a
        have hc := (hf' 0 (by omega)).2.1
        have hspot : spot = none := by simpa [Addr.add] using World.cell?_spot hc
        subst hspot
        refine ⟨b, off, rfl, by simpa [Addr.add] using World.block_lt_of_cell? w _ hc, fun i l h => ?_⟩
        rw [List.getElem?_map] at h
        by_cases hi : i < len
        · rw [List.getElem?_range hi] at h
          obtain rfl := Option.some.inj h
          obtain ⟨k0, k1, k2, k3, k4⟩ := hf' i hi
          have add0 : ∀ k, (⟨b, off, none⟩ : Addr).add k = ⟨b, off + k, none⟩ := fun k => by
            unfold Addr.add
            split
            · rename_i e; rw [e]; rfl
            · rfl
          rw [add0] at k1 k2 k3 k4
          exact ⟨k1, by simpa [Nat.add_assoc] using k2, by simpa [Nat.add_assoc] using k3, by simpa [Nat.add_assoc] using k4⟩
        · rw [List.getElem?_eq_none (by simpa using hi)] at h
          cases h
end

section
variable {H : Type} {enc : TypeId × Value → H} {P : Program} {w : World} {base : Nat} {spare : Nat → Bool} {held : Bool}
theorem open_section {e : TypeId} {g0 g1 g2 g3 : Field} {fuel : Nat} {cs : List Value} {x : DataW H × List MemPlace} (he : P.underlying e = some (.struct #[g0, g1, g2, g3])) (ce : P.cellsOf e = 4)
    (c0 : P.cellsOf g0.type = 1) (c1 : P.cellsOf g1.type = 1) (c2 : P.cellsOf g2.type = 1) (c3 : P.cellsOf g3.type = 1) (o0 : g0.offset = 0) (o1 : g1.offset = 1) (o2 : g2.offset = 2) (o3 : g3.offset = 3)
    (u0 : P.underlying g0.type = some (.int .i64)) (u1 : P.underlying g1.type = some (.int .i64)) (u2 : P.underlying g2.type = some (.int .i64)) (u3 : P.underlying g3.type = some (.int .i64))
    (h : DataW.trod enc P w base spare held fuel e cs = some x) : ∃ l : L4, i64L l ∧ cs = [.int .i64 l.1.1, .int .i64 l.1.2.1, .int .i64 l.1.2.2, .int .i64 l.2] := by
  obtain ⟨xs, n, _, _, hl, hxl, hg⟩ := DataW.trod_struct he h
  rw [ce] at hl
  match cs, hl with
  | [v0, v1, v2, v3], _ =>
    match xs, hxl with
    | [y0, y1, y2, y3], _ =>
      have k0 := hg 0 g0 rfl
      have k1 := hg 1 g1 rfl
      have k2 := hg 2 g2 rfl
      have k3 := hg 3 g3 rfl
      rw [o0, c0] at k0
      rw [o1, c1] at k1
      rw [o2, c2] at k2
      rw [o3, c3] at k3
      obtain ⟨a, e0, b0⟩ := open_one u0 (show DataW.trod enc P w base spare held n g0.type [v0] = some y0 from k0)
      obtain ⟨b, e1, b1⟩ := open_one u1 (show DataW.trod enc P w base spare held n g1.type [v1] = some y1 from k1)
      obtain ⟨c, e2, b2⟩ := open_one u2 (show DataW.trod enc P w base spare held n g2.type [v2] = some y2 from k2)
      obtain ⟨q, e3, b3⟩ := open_one u3 (show DataW.trod enc P w base spare held n g3.type [v3] = some y3 from k3)
      injection e0 with e0 _
      injection e1 with e1 _
      injection e2 with e2 _
      injection e3 with e3 _
      subst e0 e1 e2 e3
      exact ⟨((a, b, c), q), ⟨b0, b1, b2, b3⟩, rfl⟩
theorem open_sections {t e : TypeId} {g0 g1 g2 g3 : Field} {fuel : Nat} {cs : List Value} {x : DataW H × List MemPlace} (ht : P.underlying t = some (.slice e)) (he : P.underlying e = some (.struct #[g0, g1, g2, g3])) (ce : P.cellsOf e = 4)
    (c0 : P.cellsOf g0.type = 1) (c1 : P.cellsOf g1.type = 1) (c2 : P.cellsOf g2.type = 1) (c3 : P.cellsOf g3.type = 1) (o0 : g0.offset = 0) (o1 : g1.offset = 1) (o2 : g2.offset = 2) (o3 : g3.offset = 3)
    (u0 : P.underlying g0.type = some (.int .i64)) (u1 : P.underlying g1.type = some (.int .i64)) (u2 : P.underlying g2.type = some (.int .i64)) (u3 : P.underlying g3.type = some (.int .i64))
    (h : DataW.trod enc P w base spare held fuel t cs = some x) :
    ∃ (a : Option Addr) (ls : List L4) (cap : Nat), cs = [.slice a ls.length cap] ∧ ls.length ≤ cap ∧ cap ≤ maxLen ∧ Lys w a ls := by
  rcases Go.Deep.open_slice ht h with ⟨rfl, _⟩ | ⟨a, len, cap, m, n, D, Pl, rfl, hb, hl, hm, hmm, _, hx⟩
  · refine ⟨none, [], 0, rfl, Nat.le_refl _, by unfold maxLen; omega, ?_, Or.inl rfl⟩
    intro l h
    cases h
  · have hlm : len ≤ m := by rw [hmm]; split <;> omega
    obtain ⟨f, hf'⟩ := Go.Deep.choose_lt (α := L4) (n := len) (p := fun i l => i64L l ∧ w.cell? (a.add (i * 4)) = some (.int .i64 l.1.1) ∧ w.cell? (a.add (i * 4 + 1)) = some (.int .i64 l.1.2.1) ∧ w.cell? (a.add (i * 4 + 2)) = some (.int .i64 l.1.2.2) ∧ w.cell? (a.add (i * 4 + 3)) = some (.int .i64 l.2)) (fun i hi => by
      obtain ⟨cs', g1', g2'⟩ := hx i (by omega)
      rw [ce] at g1'
      obtain ⟨_, hlen, hcell⟩ := World.cells?_some g1'
      obtain ⟨l, hi64, rfl⟩ := open_section he ce c0 c1 c2 c3 o0 o1 o2 o3 u0 u1 u2 u3 g2'
      have e0 := hcell 0 (by omega)
      have e1 := hcell 1 (by omega)
      have e2 := hcell 2 (by omega)
      have e3 := hcell 3 (by omega)
      rw [Go.Deep.add_add] at e0 e1 e2 e3
      exact ⟨l, hi64, by simpa using e0, by simpa using e1, by simpa using e2, by simpa using e3⟩)
    refine ⟨some a, (List.range len).map f, cap, by simp, by simpa using hl, hm, ?_, ?_⟩
    · intro l hl'
      obtain ⟨i, hi, rfl⟩ := List.mem_map.1 hl'
      exact (hf' i (List.mem_range.1 hi)).1
    · by_cases h0 : len = 0
      · subst h0; exact Or.inl rfl
      · right
        obtain ⟨b, off, spot⟩ := a
        have hc := (hf' 0 (by omega)).2.1
        have hspot : spot = none := by simpa [Addr.add] using World.cell?_spot hc
        subst hspot
        refine ⟨b, off, rfl, by simpa [Addr.add] using World.block_lt_of_cell? w _ hc, fun i l h => ?_⟩
        rw [List.getElem?_map] at h
        by_cases hi : i < len
        · rw [List.getElem?_range hi] at h
          obtain rfl := Option.some.inj h
          obtain ⟨k0, k1, k2, k3, k4⟩ := hf' i hi
          have add0 : ∀ k, (⟨b, off, none⟩ : Addr).add k = ⟨b, off + k, none⟩ := fun k => by
            unfold Addr.add
            split
            · rename_i e; rw [e]; rfl
            · rfl
          rw [add0] at k1 k2 k3 k4
          exact ⟨k1, by simpa [Nat.add_assoc] using k2, by simpa [Nat.add_assoc] using k3, by simpa [Nat.add_assoc] using k4⟩
        · rw [List.getElem?_eq_none (by simpa using hi)] at h
          cases h
end

section
variable {w w' : World} {B sz : Nat} {e : TypeId} {v : Value} {n : Nat} {xs : List Value}
theorem own_len (h : w.ownsRow B e 1 v n xs) : xs.length = n := by have := h.1; omega
theorem own_val (h : w.ownsRow B e 1 v n xs) (hn : 0 < n) : ∃ g cap, v = .slice (some ⟨g, 0, none⟩) n cap ∧ B ≤ g ∧ g < w.heap.size ∧ n ≤ cap ∧ cap ≤ maxLen ∧ ∀ (j : Nat) (u : Value), xs[j]? = some u → w.cell? ⟨g, j, none⟩ = some u := by
  have hc := fun g (hg : v.ownBlock = some g) => h.cells hg
  rcases h.2 with ⟨_, h0⟩ | ⟨g, cap, cur, rfl, hb, hg, h1, h2, _, _⟩
  · omega
  · refine ⟨g, cap, rfl, hb, (Array.getElem?_eq_some_iff.1 hg).1, h1, h2, fun j u hu => ?_⟩
    have := hc g rfl j u hu
    by_cases hj : j = 0
    · subst hj; simpa [Addr.add] using this
    · simpa [Addr.add, hj] using this
theorem own_blk (h : w.ownsRow B e 1 v n xs) (hn : 0 < n) : ∃ g cap LV, v = .slice (some ⟨g, 0, none⟩) n cap ∧ B ≤ g ∧ w.heap[g]? = some (.cells (List.toArray LV) e (0, 0)) ∧ ∀ (j : Nat) (u : Value), xs[j]? = some u → LV[j]? = some u := by
  rcases h.2 with ⟨_, h0⟩ | ⟨g, cap, cur, rfl, hb, hg, h1, h2, _, h4⟩
  · omega
  · refine ⟨g, cap, cur.toList, rfl, hb, by simpa using hg, fun j u hu => ?_⟩
    rw [← h4, List.getElem?_take] at hu
    split at hu
    · exact hu
    · cases hu
theorem own_move {g cap : Nat} (h : w.ownsRow B e sz (.slice (some ⟨g, 0, none⟩) n cap) n xs) (hw : w'.heap[g]? = w.heap[g]?) : w'.ownsRow B e sz (.slice (some ⟨g, 0, none⟩) n cap) n xs := by
  refine ⟨h.1, ?_⟩
  rcases h.2 with ⟨h0, _⟩ | ⟨g', cap', cur, hv, hb, hg, rest⟩
  · cases h0
  · injection hv with hv1 hv2 hv3
    injection hv1 with hv1
    injection hv1 with hv1
    subst hv1
    subst hv3
    exact .inr ⟨g, cap, cur, rfl, hb, hw.trans hg, rest⟩
theorem own_any (h : w.ownsRow B e 1 v n xs) : ∃ a cap, v = .slice a n cap := by
  rcases h.2 with ⟨rfl, rfl⟩ | ⟨g, cap, cur, rfl, _⟩
  · exact ⟨_, _, rfl⟩
  · exact ⟨_, _, rfl⟩
theorem own_ne {b : Nat} {T : TypeId} {cs : Array Value} {f : Nat × Nat} (h : w.ownsRow B e sz v n xs) (hb : w.heap[b]? = some (.cells cs T f)) (hT : T ≠ e) : ∀ g, v.ownBlock = some g → g ≠ b := by
  intro g hg hgb
  subst hgb
  rcases h.2 with ⟨rfl, _⟩ | ⟨g', cap, cur, rfl, _, hg', _⟩
  · cases hg
  · simp only [Value.ownBlock, Option.some.injEq] at hg
    subst hg
    rw [hb] at hg'
    injection hg' with hg'
    injection hg' with _ hg'
    exact hT hg'
theorem own_keep (h : w.ownsRow B e sz v n xs) (hb : Below w.heap.size w w') : w'.ownsRow B e sz v n xs := by
  refine ⟨h.1, ?_⟩
  rcases h.2 with hn | ⟨g, cap, cur, rfl, hB, hg, rest⟩
  · exact .inl hn
  · exact .inr ⟨g, cap, cur, rfl, hB, (hb.block g (Array.getElem?_eq_some_iff.1 hg).1).trans hg, rest⟩
theorem own_set {b k : Nat} {x : Value} (h : w.ownsRow B e sz v n xs) (hne : ∀ g, v.ownBlock = some g → g ≠ b) : (w.setCell ⟨b, k, none⟩ x).ownsRow B e sz v n xs := by
  refine ⟨h.1, ?_⟩
  rcases h.2 with hn | ⟨g, cap, cur, rfl, hB, hg, rest⟩
  · exact .inl hn
  · have hgb : b ≠ g := fun q => hne g rfl q.symm
    exact .inr ⟨g, cap, cur, rfl, hB, by simp [World.setCell, Array.getElem?_modify, hgb, hg], rest⟩
theorem own_drew (h : w.ownsRow B e sz v n xs) : w.drew.ownsRow B e sz v n xs := h
theorem own_any2 (h : w.ownsRow B e sz v n xs) : ∃ a cap, v = .slice a n cap := by
  rcases h.2 with ⟨rfl, rfl⟩ | ⟨g, cap, cur, rfl, _⟩
  · exact ⟨_, _, rfl⟩
  · exact ⟨_, _, rfl⟩
/-- Another row grew, or this one's neighbour. -/
theorem own_grown {row : Option Nat} (h : w.ownsRow B e sz v n xs) (hg : w.grownBy w' row) (hne : ∀ g, v.ownBlock = some g → row ≠ some g) : w'.ownsRow B e sz v n xs := by
  refine h.kept hg ?_
  cases hv : v.ownBlock with
  | none => exact .inl rfl
  | some g => exact .inr fun q => hne g hv q.symm
end
/-- A block, its type told. -/
def BlkT (w : World) (b : Nat) (T : TypeId) (vs : List Value) : Prop := w.heap[b]? = some (.cells vs.toArray T (0, 0))
section
variable {w w' : World} {b : Nat} {T : TypeId} {vs : List Value}
theorem BlkT.blk (h : BlkT w b T vs) : Blk w b vs := ⟨T, h⟩
theorem BlkT.lt (h : BlkT w b T vs) : b < w.heap.size := (Array.getElem?_eq_some_iff.1 h).1
theorem BlkT.keep (h : BlkT w b T vs) (hb : Below w.heap.size w w') : BlkT w' b T vs := (hb.block b h.lt).trans h
theorem BlkT.new : BlkT (w.alloc (.cells vs.toArray T)) w.heap.size T vs := by
  show (w.heap.push _)[_]? = _
  simp
theorem BlkT.alloc (h : BlkT w b T vs) (o : Obj) : BlkT (w.alloc o) b T vs := (Below.heap_alloc _ _ _ h.lt).trans h
theorem BlkT.drew (h : BlkT w b T vs) : BlkT w.drew b T vs := h
theorem BlkT.grown {row : Option Nat} (h : BlkT w b T vs) (hg : w.grownBy w' row) (hne : row ≠ some b) : BlkT w' b T vs := (hg.block b h.lt (fun q => hne q.symm)).trans h
theorem BlkT.set {k : Nat} {x : Value} (h : BlkT w b T vs) : BlkT (w.setCell ⟨b, k, none⟩ x) b T (vs.set k x) := by
  show ((w.heap.modify b _)[b]?) = _
  unfold BlkT at h
  rw [Array.getElem?_modify, if_pos rfl, h]
  simp
theorem BlkT.other {b' k : Nat} {x : Value} (h : BlkT w b T vs) (hne : b' ≠ b) : BlkT (w.setCell ⟨b', k, none⟩ x) b T vs := by
  show ((w.heap.modify b' _)[b]?) = _
  unfold BlkT at h
  rw [Array.getElem?_modify, if_neg hne, h]
theorem BlkT.new' {n : Nat} (e : n = w.heap.size) : BlkT (w.alloc (.cells vs.toArray T)) n T vs := by
  subst e
  exact BlkT.new
theorem BlkT.set' {k : Nat} {x : Value} {vs' : List Value} (h : BlkT w b T vs) (e : vs' = vs.set k x) : BlkT (w.setCell ⟨b, k, none⟩ x) b T vs' := by
  subst e
  exact h.set
end

/-- A link of the list. -/
def lnk (s : L4) (q : Option Addr) : List Value := [.int .i64 s.1.1, .int .i64 s.1.2.1, .int .i64 s.1.2.2, .int .i64 s.2, .pointer q]
/-- p holds a list (the last section first), in blocks from n₀ on and below n₁. -/
def Fib (n₀ : Nat) : Nat → World → Option Addr → List L4 → Prop
  | _, _, p, [] => p = none
  | n₁, w, p, s :: r => ∃ (b : Nat) (q : Option Addr), p = some ⟨b, 0, none⟩ ∧ n₀ ≤ b ∧ b < n₁ ∧ Blk w b (lnk s q) ∧ Fib n₀ b w q r
theorem Blk.keepB {n : Nat} {w w' : World} {b : Nat} {vs : List Value} (hb : Below n w w') (l : b < n) (h : Blk w b vs) : Blk w' b vs := by
  obtain ⟨T, h⟩ := h
  exact ⟨T, (hb.block b l).trans h⟩
theorem Fib.below {n₀ : Nat} {w w' : World} : ∀ {r : List L4} {n₁ : Nat} {p : Option Addr}, Fib n₀ n₁ w p r → Below n₁ w w' → Fib n₀ n₁ w' p r
  | [], _, _, h, _ => h
  | s :: r, n₁, p, h, k => by
    obtain ⟨b, q, e, h1, h2, h3, h4⟩ := h
    exact ⟨b, q, e, h1, h2, Blk.keepB k h2 h3, Fib.below h4 (k.mono (Nat.le_of_lt h2))⟩
theorem Fib.mono {n₀ : Nat} {w : World} : ∀ {r : List L4} {n₁ n₂ : Nat} {p : Option Addr}, Fib n₀ n₁ w p r → n₁ ≤ n₂ → Fib n₀ n₂ w p r
  | [], _, _, _, h, _ => h
  | s :: r, n₁, n₂, p, h, k => by
    obtain ⟨b, q, e, h1, h2, h3, h4⟩ := h
    exact ⟨b, q, e, h1, Nat.lt_of_lt_of_le h2 k, h3, h4⟩
theorem Fib.top {n₀ : Nat} {w : World} : ∀ {r : List L4} {n₁ : Nat} {p : Option Addr}, Fib n₀ n₁ w p r → Fib n₀ w.heap.size w p r
  | [], _, _, h => h
  | s :: r, n₁, p, h => by
    obtain ⟨b, q, e, h1, h2, h3, h4⟩ := h
    exact ⟨b, q, e, h1, h3.lt, h3, h4⟩
/-- Kept behind what changes nothing that lay there. -/
theorem Fib.keep {n₀ : Nat} {w w' : World} {r : List L4} {p : Option Addr} (h : Fib n₀ w.heap.size w p r) (k : Below w.heap.size w w') : Fib n₀ w'.heap.size w' p r := (h.below k).top
/-- The base let down. -/
theorem Fib.down {n₀ m : Nat} {w : World} : ∀ {r : List L4} {n₁ : Nat} {p : Option Addr}, Fib n₀ n₁ w p r → m ≤ n₀ → Fib m n₁ w p r
  | [], _, _, h, _ => h
  | s :: r, n₁, p, h, k => by
    obtain ⟨b, q, e, h1, h2, h3, h4⟩ := h
    exact ⟨b, q, e, Nat.le_trans k h1, h2, h3, Fib.down h4 k⟩
/-- A new link ahead. -/
theorem Fib.cons {n₀ b : Nat} {w : World} {r : List L4} {s : L4} {p : Option Addr} (h : Fib n₀ b w p r) (hn : n₀ ≤ b) (hb : Blk w b (lnk s p)) : Fib n₀ w.heap.size w (some ⟨b, 0, none⟩) (s :: r) :=
  ⟨b, p, rfl, hn, hb.lt, hb, h⟩
theorem rev_take {ls : List L4} {k : Nat} {x : L4} (e : ls.take (k + 1) = ls.take k ++ [x]) : (ls.take (k + 1)).reverse = x :: (ls.take k).reverse := by
  rw [e, List.reverse_append]; rfl
end Go.Proofs.YtkdkeacfifjjoabDoor
