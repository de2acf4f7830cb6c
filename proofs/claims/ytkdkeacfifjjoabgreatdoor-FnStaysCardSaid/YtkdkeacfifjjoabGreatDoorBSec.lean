/-
  Fibres: plates of one direction, values, what undoes them.
-/
import Derived.Test.YtkdkeacfifjjoabGreatDoorBFib
import Derived.Test.YtkdkeacfifjjoabGreatDoorBMath
import Derived.Test.YtkdkeacfifjjoabGreatDoorBMem
import Derived.Test.YtkdkeacfifjjoabGreatDoorBSpecV
import Derived.Test.YtkdkeacfifjjoabGreatDoorBLet
namespace Go.Proofs.YtkdkeacfifjjoabGreatDoor
open Go.ChangeShapes Go.WideShapes Go.ChangeAt Go.RowKit
set_option linter.unusedVariables false

/-- Only blocks of a part of the memory have changed. -/
def Chg (n₀ n₁ : Nat) (w w' : World) : Prop := w'.os = w.os ∧ w'.tape = w.tape ∧ w'.output = w.output ∧ w.heap.size ≤ w'.heap.size ∧ ∀ k, k < w.heap.size → (k < n₀ ∨ n₁ ≤ k) → w'.heap[k]? = w.heap[k]?
theorem Chg.refl (n₀ n₁ : Nat) (w : World) : Chg n₀ n₁ w w := ⟨rfl, rfl, rfl, Nat.le_refl _, fun _ _ _ => rfl⟩
theorem Chg.trans {n₀ n₁ : Nat} {a b c : World} (h : Chg n₀ n₁ a b) (k : Chg n₀ n₁ b c) : Chg n₀ n₁ a c :=
  ⟨k.1.trans h.1, k.2.1.trans h.2.1, k.2.2.1.trans h.2.2.1, Nat.le_trans h.2.2.2.1 k.2.2.2.1, fun i hi hb => (k.2.2.2.2 i (Nat.lt_of_lt_of_le hi h.2.2.2.1) hb).trans (h.2.2.2.2 i hi hb)⟩
theorem Chg.mono {n₀ n₁ m₀ m₁ : Nat} {a b : World} (h : Chg n₀ n₁ a b) (h0 : m₀ ≤ n₀) (h1 : n₁ ≤ m₁) : Chg m₀ m₁ a b :=
  ⟨h.1, h.2.1, h.2.2.1, h.2.2.2.1, fun i hi hb => h.2.2.2.2 i hi (by omega)⟩
theorem Chg.below {n₀ n₁ : Nat} {a b : World} (h : Chg n₀ n₁ a b) (hn : n₀ ≤ a.heap.size) : Below n₀ a b := ⟨h.1, h.2.1, h.2.2.1, h.2.2.2.1, fun i hi => h.2.2.2.2 i (Nat.lt_of_lt_of_le hi hn) (.inl hi)⟩
set_option linter.unusedSimpArgs false
theorem runM_if (ls : List L4) (v : F3 × F3) : runM ls v = if okFb ls = true then (fbF ls (some oneM)).bind (fun m => appM m v) else none := by
  unfold runM fbM
  split <;> rfl
def staM (ls : List L4) (x1 x2 x3 y1 y2 y3 : Int) : Bool := match runM ls ((x1, x2, x3), (y1, y2, y3)) with
  | some u => !darkB x1 x2 x3 y1 y2 y3 && alikeF x1 x2 x3 y1 y2 y3 u.1.1 u.1.2.1 u.1.2.2 u.2.1 u.2.2.1 u.2.2.2
  | none => false
theorem fbApp_ok {A : F4} {V r : F3 × F3} (h : appM A V = some r) : (okT r.1 = true ∧ okT r.2 = true) ∧ (okT V.1 = true ∧ okT V.2 = true) := by
  obtain ⟨a, b, c, d⟩ := A
  obtain ⟨x, y⟩ := V
  obtain ⟨u, v⟩ := r
  obtain ⟨e1, e2⟩ := appM_some h
  exact ⟨⟨(inT_val e1).2.2.2.2.1, (inT_val e2).2.2.2.2.1⟩, (inT_val e1).2.1, (inT_val e1).2.2.2.1⟩
/-- A complex rational number. -/
structure CR where
  re : Rat
  im : Rat
theorem CR.eq {a b : CR} (h1 : a.re = b.re) (h2 : a.im = b.im) : a = b := by cases a; cases b; simp_all
structure CM where
  a : CR
  b : CR
  c : CR
  d : CR
theorem CM.eq {m n : CM} (h1 : m.a = n.a) (h2 : m.b = n.b) (h3 : m.c = n.c) (h4 : m.d = n.d) : m = n := by cases m; cases n; simp_all
def CR.mac (a b c d : CR) : CR := ⟨a.re * b.re - a.im * b.im + (c.re * d.re - c.im * d.im), a.re * b.im + a.im * b.re + (c.re * d.im + c.im * d.re)⟩
def CM.mul (m n : CM) : CM := ⟨.mac m.a n.a m.b n.c, .mac m.a n.b m.b n.d, .mac m.c n.a m.d n.c, .mac m.c n.b m.d n.d⟩
def CM.one : CM := ⟨⟨1, 0⟩, ⟨0, 0⟩, ⟨0, 0⟩, ⟨1, 0⟩⟩
theorem CM.assoc (m n o : CM) : (m.mul n).mul o = m.mul (n.mul o) := by
  obtain ⟨⟨a1, a2⟩, ⟨a3, a4⟩, ⟨a5, a6⟩, ⟨a7, a8⟩⟩ := m
  obtain ⟨⟨b1, b2⟩, ⟨b3, b4⟩, ⟨b5, b6⟩, ⟨b7, b8⟩⟩ := n
  obtain ⟨⟨c1, c2⟩, ⟨c3, c4⟩, ⟨c5, c6⟩, ⟨c7, c8⟩⟩ := o
  refine CM.eq ?_ ?_ ?_ ?_ <;> refine CR.eq ?_ ?_ <;> simp only [CM.mul, CR.mac] <;> grind
theorem CM.one_mul (m : CM) : CM.one.mul m = m := by
  obtain ⟨⟨a1, a2⟩, ⟨a3, a4⟩, ⟨a5, a6⟩, ⟨a7, a8⟩⟩ := m
  refine CM.eq ?_ ?_ ?_ ?_ <;> refine CR.eq ?_ ?_ <;> simp only [CM.mul, CR.mac, CM.one] <;> grind
def CM.pow (m : CM) : Nat → CM
  | 0 => CM.one
  | n + 1 => m.mul (m.pow n)
/-- What a fraction, a matrix is worth. -/
def valSecT (u : F3) : CR := ⟨reT u, imT u⟩
def valC (A : F4) : CM := ⟨valSecT A.1, valSecT A.2.1, valSecT A.2.2.1, valSecT A.2.2.2⟩
theorem valC_mul {A B X : F4} (h : mulM A B = some X) : valC X = (valC A).mul (valC B) := by
  obtain ⟨a, b, c, d⟩ := A
  obtain ⟨i, j, k, l⟩ := B
  obtain ⟨x, y, z, u⟩ := X
  obtain ⟨e1, e2, e3, e4⟩ := mulM_some h
  obtain ⟨-, -, -, -, -, a1, b1⟩ := inT_val e1
  obtain ⟨-, -, -, -, -, a2, b2⟩ := inT_val e2
  obtain ⟨-, -, -, -, -, a3, b3⟩ := inT_val e3
  obtain ⟨-, -, -, -, -, a4, b4⟩ := inT_val e4
  refine CM.eq ?_ ?_ ?_ ?_ <;> refine CR.eq ?_ ?_ <;> simp only [valC, valSecT, CM.mul, CR.mac] <;> grind
theorem valC_one : valC oneM = CM.one := by
  have ro : reT (1, 0, 1) = 1 := rv_one 1
  have io : imT (1, 0, 1) = 0 := rv_zero 1
  have rz : reT (0, 0, 1) = 0 := rv_zero 1
  have iz : imT (0, 0, 1) = 0 := rv_zero 1
  refine CM.eq ?_ ?_ ?_ ?_ <;> refine CR.eq ?_ ?_ <;> simp only [valC, valSecT, oneM, CM.one] <;> assumption
/-- The rational plate: what the plate of a direction and a phase is worth. -/
def plaV (p q k : Int) : CM := valC ((plaM p q k).getD oneM)
theorem plaV_of {p q k : Int} {P : F4} (h : plaM p q k = some P) : plaV p q k = valC P := by unfold plaV; rw [h]; rfl
/-- What a section, a fibre is worth. -/
def secV (s : L4) : CM := (plaV s.1.1 s.1.2.1 s.1.2.2).pow s.2.toNat
def fbV (ls : List L4) : CM := ls.foldl (fun m s => (secV s).mul m) CM.one
theorem secV_of {s : L4} {A B : F4} (h : secM s A = some B) : valC B = (secV s).mul (valC A) := by
  unfold secM at h
  cases e : plaM s.1.1 s.1.2.1 s.1.2.2 with
  | none => rw [e] at h; cases h
  | some P =>
    rw [e] at h
    unfold secV
    rw [plaV_of e]
    have key : ∀ (n : Nat) {X : F4}, pwM P n A = some X → valC X = ((valC P).pow n).mul (valC A) := by
      intro n
      induction n with
      | zero => intro X hX; cases hX; exact (CM.one_mul _).symm
      | succ n ih =>
        intro X hX
        unfold pwM at hX
        cases e2 : pwM P n A with
        | none => rw [e2] at hX; cases hX
        | some Y =>
          rw [e2] at hX
          rw [valC_mul hX, ih e2, ← CM.assoc]
          rfl
    exact key _ h
theorem fbV_of {ls : List L4} {A : F4} (h : fbF ls (some oneM) = some A) : valC A = fbV ls := by
  have key : ∀ (ls : List L4) (M : CM) (o : Option F4), (∀ B, o = some B → valC B = M) → ∀ A, fbF ls o = some A → valC A = ls.foldl (fun m s => (secV s).mul m) M := by
    intro ls
    induction ls with
    | nil => intro M o ho A hA; exact ho A hA
    | cons s r ih =>
      intro M o ho A hA
      refine ih ((secV s).mul M) (o.bind (secM s)) ?_ A hA
      intro B hB
      cases o with
      | none => cases hB
      | some C => rw [secV_of hB, ho C rfl]
  exact key ls CM.one (some oneM) (fun B hB => by cases hB; exact valC_one) A h
theorem fbF_okV {ls : List L4} {A : F4} (h : fbF ls (some oneM) = some A) : okM A = true := by
  have key : ∀ (m : F4) (n : Nat) {B C : F4}, okM B = true → pwM m n B = some C → okM C = true := by
    intro m n
    induction n with
    | zero => intro B C hB h; injection h with h; rw [← h]; exact hB
    | succ n ih =>
      intro B C hB h
      unfold pwM at h
      cases e : pwM m n B with
      | none => rw [e] at h; cases h
      | some D => rw [e] at h; exact (mulM_ok h).2.2
  have key2 : ∀ (s : L4) {B C : F4}, okM B = true → secM s B = some C → okM C = true := by
    intro s B C hB h
    unfold secM at h
    cases e : plaM s.1.1 s.1.2.1 s.1.2.2 with
    | none => rw [e] at h; cases h
    | some m => rw [e] at h; exact key m _ hB h
  have key3 : ∀ (ls : List L4) (o : Option F4), (∀ A, o = some A → okM A = true) → ∀ A, fbF ls o = some A → okM A = true := by
    intro ls
    induction ls with
    | nil => intro o ho A h; exact ho A h
    | cons s r ih =>
      intro o ho A h
      refine ih _ ?_ A h
      intro B hB
      cases o with
      | none => cases hB
      | some D => exact key2 s (ho D rfl) hB
  exact key3 ls _ (fun A h => by cases h; decide) A h
/-- What a matrix does to two numbers. -/
def CM.app (m : CM) (v : CR × CR) : CR × CR := (.mac m.a v.1 m.b v.2, .mac m.c v.1 m.d v.2)
def valV (v : F3 × F3) : CR × CR := (valSecT v.1, valSecT v.2)
theorem valV_app {A : F4} {v r : F3 × F3} (h : appM A v = some r) : valV r = (valC A).app (valV v) := by
  obtain ⟨a, b, c, d⟩ := A
  obtain ⟨x, y⟩ := v
  obtain ⟨u, w⟩ := r
  obtain ⟨e1, e2⟩ := appM_some h
  obtain ⟨-, -, -, -, -, a1, b1⟩ := inT_val e1
  obtain ⟨-, -, -, -, -, a2, b2⟩ := inT_val e2
  refine Prod.ext ?_ ?_ <;> refine CR.eq ?_ ?_ <;> simp only [valV, valC, valSecT, CM.app, CR.mac] <;> grind
theorem fbM_okFb {ls : List L4} {A : F4} (h : fbM ls = some A) : okFb ls = true ∧ okM A = true ∧ valC A = fbV ls := by
  have ok : okFb ls = true := by
    cases e : okFb ls with
    | true => rfl
    | false => rw [fbM_no e] at h; cases h
  rw [fbM_yes ok] at h
  exact ⟨ok, fbF_okV h, fbV_of h⟩
theorem runM_some {ls : List L4} {v o : F3 × F3} (h : runM ls v = some o) : okFb ls = true ∧ (okT o.1 = true ∧ okT o.2 = true) ∧ (okT v.1 = true ∧ okT v.2 = true) ∧ valV o = (fbV ls).app (valV v) := by
  unfold runM at h
  cases e : fbM ls with
  | none => rw [e] at h; cases h
  | some A =>
    rw [e] at h
    obtain ⟨ok, oA, vA⟩ := fbM_okFb e
    have h' : appM A v = some o := h
    exact ⟨ok, (fbApp_ok h').1, (fbApp_ok h').2, by rw [valV_app h', vA]⟩
theorem dark_val {v : F3 × F3} (o : okT v.1 = true ∧ okT v.2 = true) : darkB v.1.1 v.1.2.1 v.1.2.2 v.2.1 v.2.2.1 v.2.2.2 = true ↔ valV v = (⟨0, 0⟩, ⟨0, 0⟩) := by
  rw [dark_iff]
  simp only [valV, valSecT, Prod.mk.injEq, CR.mk.injEq]
  show _ ↔ (rv v.1.1 v.1.2.2 = 0 ∧ rv v.1.2.1 v.1.2.2 = 0) ∧ (rv v.2.1 v.2.2.2 = 0 ∧ rv v.2.2.1 v.2.2.2 = 0)
  rw [rv_is0 (okF_den o.1), rv_is0 (okF_den o.1), rv_is0 (okF_den o.2), rv_is0 (okF_den o.2), and_assoc]
theorem timesI_told {u : F3} (h : okT u = true) : ∃ w, tT u (0, 1, 1) = some w ∧ okT w = true ∧ reT w = -imT u ∧ imT w = reT u := by
  obtain ⟨⟨a1, a2⟩, ⟨b1, b2⟩, c1, c2⟩ := okF_bd (x := u.1) (y := u.2.1) (z := u.2.2) h
  have r0 : reT (0, 1, 1) = 0 := rv_zero 1
  have r1 : imT (0, 1, 1) = 1 := rv_one 1
  obtain ⟨w, h1, h2, h3, h4⟩ := tT_told (u := u) (v := (0, 1, 1)) (x := -u.2.1) (y := u.1) (d := u.2.2) h (by decide) ⟨c1, c2⟩ ⟨by omega, by omega⟩ ⟨a1, a2⟩
    (by rw [r0, r1, rv_neg]; show reT u * 0 - imT u * 1 = -imT u; grind) (by rw [r0, r1]; show reT u * 1 + imT u * 0 = reT u; grind)
  refine ⟨w, h1, h2, ?_, h4⟩
  rw [h3, rv_neg]
  rfl
/-- Turned by a quarter. -/
def CR.turn (v : CR × CR) : CR × CR := (⟨-v.1.im, v.1.re⟩, ⟨-v.2.im, v.2.re⟩)
theorem CM.app_turn (m : CM) (v : CR × CR) : m.app (CR.turn v) = CR.turn (m.app v) := by
  obtain ⟨⟨a1, a2⟩, ⟨a3, a4⟩, ⟨a5, a6⟩, ⟨a7, a8⟩⟩ := m
  obtain ⟨⟨c1, c2⟩, ⟨c3, c4⟩⟩ := v
  refine Prod.ext ?_ ?_ <;> refine CR.eq ?_ ?_ <;> simp only [CR.turn, CR.mac, CM.app] <;> grind
theorem turn_zero {v : CR × CR} (h : CR.turn v = (⟨0, 0⟩, ⟨0, 0⟩)) : v = (⟨0, 0⟩, ⟨0, 0⟩) := by
  obtain ⟨⟨a, b⟩, c, d⟩ := v
  simp only [CR.turn, Prod.mk.injEq, CR.mk.injEq] at h ⊢
  obtain ⟨⟨h1, h2⟩, h3, h4⟩ := h
  exact ⟨⟨h2, by grind⟩, h4, by grind⟩
theorem turn_told {v : F3 × F3} (o : okT v.1 = true ∧ okT v.2 = true) : ∃ t, jtimesF v.1.1 v.1.2.1 v.1.2.2 v.2.1 v.2.2.1 v.2.2.2 0 1 1 = some t ∧ (okT t.1 = true ∧ okT t.2 = true) ∧ valV t = CR.turn (valV v) := by
  obtain ⟨x, e1, h1, a1, b1⟩ := timesI_told o.1
  obtain ⟨y, e2, h2, a2, b2⟩ := timesI_told o.2
  refine ⟨(x, y), pair_of e1 e2, ⟨h1, h2⟩, ?_⟩
  refine Prod.ext ?_ ?_ <;> refine CR.eq ?_ ?_ <;> assumption
/-- The products of both numbers of one and the other vector are the same. -/
def CR.crs (v u : CR × CR) : Prop := v.1.re * u.2.re - v.1.im * u.2.im = v.2.re * u.1.re - v.2.im * u.1.im ∧ v.1.re * u.2.im + v.1.im * u.2.re = v.2.re * u.1.im + v.2.im * u.1.re
theorem alike_out {v u : F3 × F3} (h : alikeF v.1.1 v.1.2.1 v.1.2.2 v.2.1 v.2.2.1 v.2.2.2 u.1.1 u.1.2.1 u.1.2.2 u.2.1 u.2.2.1 u.2.2.2 = true) :
    CR.crs (valV v) (valV u) ∧ darkB v.1.1 v.1.2.1 v.1.2.2 v.2.1 v.2.2.1 v.2.2.2 = darkB u.1.1 u.1.2.1 u.1.2.2 u.2.1 u.2.2.1 u.2.2.2 := by
  cases e1 : timesF v.1.1 v.1.2.1 v.1.2.2 u.2.1 u.2.2.1 u.2.2.2 with
  | none => rw [alike_none1 e1] at h; cases h
  | some r =>
    cases e2 : timesF v.2.1 v.2.2.1 v.2.2.2 u.1.1 u.1.2.1 u.1.2.2 with
    | none => rw [alike_none2 e2] at h; cases h
    | some s =>
      obtain ⟨r1, r2, r3⟩ := r
      obtain ⟨s1, s2, s3⟩ := s
      rw [alike_some e1 e2] at h
      simp only [Bool.and_eq_true, beq_iff_eq] at h
      obtain ⟨⟨⟨rfl, rfl⟩, rfl⟩, hd⟩ := h
      refine ⟨?_, hd⟩
      obtain ⟨-, -, -, a1, b1⟩ := times_val e1
      obtain ⟨-, -, -, a2, b2⟩ := times_val e2
      exact ⟨a1.symm.trans a2, b1.symm.trans b2⟩
theorem alike_in {v u : F3 × F3} {r s : F3} (hr : tT v.1 u.2 = some r) (hs : tT v.2 u.1 = some s) (hc : CR.crs (valV v) (valV u)) (hd : darkB v.1.1 v.1.2.1 v.1.2.2 v.2.1 v.2.2.1 v.2.2.2 = darkB u.1.1 u.1.2.1 u.1.2.2 u.2.1 u.2.2.1 u.2.2.2) :
    alikeF v.1.1 v.1.2.1 v.1.2.2 v.2.1 v.2.2.1 v.2.2.2 u.1.1 u.1.2.1 u.1.2.2 u.2.1 u.2.2.1 u.2.2.2 = true := by
  obtain ⟨-, -, o1, a1, b1⟩ := tT_val hr
  obtain ⟨-, -, o2, a2, b2⟩ := tT_val hs
  have e : r = s := uniqT o1 o2 (by rw [a1, a2]; exact hc.1) (by rw [b1, b2]; exact hc.2)
  subst e
  obtain ⟨r1, r2, r3⟩ := r
  rw [alike_some hr hs, hd]
  simp
theorem sta_some {ls : List L4} {v : F3 × F3} (h : staM ls v.1.1 v.1.2.1 v.1.2.2 v.2.1 v.2.2.1 v.2.2.2 = true) : ∃ u, runM ls v = some u ∧ darkB v.1.1 v.1.2.1 v.1.2.2 v.2.1 v.2.2.1 v.2.2.2 = false ∧ alikeF v.1.1 v.1.2.1 v.1.2.2 v.2.1 v.2.2.1 v.2.2.2 u.1.1 u.1.2.1 u.1.2.2 u.2.1 u.2.2.1 u.2.2.2 = true := by
  unfold staM at h
  cases e : runM ls ((v.1.1, v.1.2.1, v.1.2.2), (v.2.1, v.2.2.1, v.2.2.2)) with
  | none => rw [e] at h; cases h
  | some u =>
    rw [e] at h
    simp only [Bool.and_eq_true, Bool.not_eq_true'] at h
    exact ⟨u, rfl, h.1, h.2⟩
theorem sta_of {ls : List L4} {v u : F3 × F3} (h : runM ls v = some u) (hd : darkB v.1.1 v.1.2.1 v.1.2.2 v.2.1 v.2.2.1 v.2.2.2 = false) (ha : alikeF v.1.1 v.1.2.1 v.1.2.2 v.2.1 v.2.2.1 v.2.2.2 u.1.1 u.1.2.1 u.1.2.2 u.2.1 u.2.2.1 u.2.2.2 = true) : staM ls v.1.1 v.1.2.1 v.1.2.2 v.2.1 v.2.2.1 v.2.2.2 = true := by
  unfold staM
  rw [show runM ls ((v.1.1, v.1.2.1, v.1.2.2), (v.2.1, v.2.2.1, v.2.2.2)) = some u from h]
  simp only [hd, ha]
  rfl
theorem sta_ok {ls : List L4} {v : F3 × F3} (h : staM ls v.1.1 v.1.2.1 v.1.2.2 v.2.1 v.2.2.1 v.2.2.2 = true) : okT v.1 = true ∧ okT v.2 = true := by
  obtain ⟨u, h1, -⟩ := sta_some h
  exact (runM_some h1).2.2.1
/-- What stays stays turned. -/
theorem stays_turn {ls : List L4} {v t w : F3 × F3} {r s : F3} (h : staM ls v.1.1 v.1.2.1 v.1.2.2 v.2.1 v.2.2.1 v.2.2.2 = true) (ht : jtimesF v.1.1 v.1.2.1 v.1.2.2 v.2.1 v.2.2.1 v.2.2.2 0 1 1 = some t)
    (hw : runM ls t = some w) (hr : tT t.1 w.2 = some r) (hs : tT t.2 w.1 = some s) : staM ls t.1.1 t.1.2.1 t.1.2.2 t.2.1 t.2.2.1 t.2.2.2 = true := by
  obtain ⟨u, e1, hd, ha⟩ := sta_some h
  obtain ⟨hc, hdu⟩ := alike_out ha
  obtain ⟨ok, ou, ov, e⟩ := runM_some e1
  obtain ⟨-, ow, ot, f⟩ := runM_some hw
  obtain ⟨t', ht', -, et⟩ := turn_told ov
  obtain rfl : t' = t := Option.some.inj (ht'.symm.trans ht)
  rw [et, CM.app_turn, ← e] at f
  have nv : ¬ valV v = (⟨0, 0⟩, ⟨0, 0⟩) := fun k => by rw [(dark_val ov).2 k] at hd; cases hd
  have nu : ¬ valV u = (⟨0, 0⟩, ⟨0, 0⟩) := fun k => by rw [(dark_val ou).2 k] at hdu; rw [hdu] at hd; cases hd
  have dt : darkB t'.1.1 t'.1.2.1 t'.1.2.2 t'.2.1 t'.2.2.1 t'.2.2.2 = false := by
    cases q : darkB t'.1.1 t'.1.2.1 t'.1.2.2 t'.2.1 t'.2.2.1 t'.2.2.2 with
    | false => rfl
    | true => exact absurd (turn_zero (et.symm.trans ((dark_val ot).1 q))) nv
  have dw : darkB w.1.1 w.1.2.1 w.1.2.2 w.2.1 w.2.2.1 w.2.2.2 = false := by
    cases q : darkB w.1.1 w.1.2.1 w.1.2.2 w.2.1 w.2.2.1 w.2.2.2 with
    | false => rfl
    | true => exact absurd (turn_zero (f.symm.trans ((dark_val ow).1 q))) nu
  refine sta_of hw dt (alike_in hr hs ?_ (dt.trans dw.symm))
  rw [f, et]
  generalize valV v = V at *
  generalize valV u = U at *
  obtain ⟨⟨a1, a2⟩, a3, a4⟩ := V
  obtain ⟨⟨b1, b2⟩, b3, b4⟩ := U
  obtain ⟨c1, c2⟩ := hc
  simp only [CR.crs, CR.turn] at c1 c2 ⊢
  exact ⟨by grind, by grind⟩
end Go.Proofs.YtkdkeacfifjjoabGreatDoor
