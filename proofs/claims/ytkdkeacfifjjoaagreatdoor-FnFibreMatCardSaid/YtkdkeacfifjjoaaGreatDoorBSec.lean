/-
  Fibres: plates of one direction, values, what undoes them.
-/
import Derived.Test.YtkdkeacfifjjoaaGreatDoorBFib
import Derived.Test.YtkdkeacfifjjoaaGreatDoorBMath
import Derived.Test.YtkdkeacfifjjoaaGreatDoorBMem
import Derived.Test.YtkdkeacfifjjoaaGreatDoorBSpecV
import Derived.Test.YtkdkeacfifjjoaaGreatDoorBLet
namespace Go.Proofs.YtkdkeacfifjjoaaGreatDoor
open Go.ChangeShapes Go.WideShapes Go.ChangeAt Go.RowKit
set_option linter.unusedVariables false

theorem pha_add {j k : Int} (hj : inB j 0 3 = true) (hk : inB k 0 3 = true) : inB ((j + k) % 4) 0 3 = true ∧ phr ((j + k) % 4) = phr j * phr k - phi j * phi k ∧ phi ((j + k) % 4) = phr j * phi k + phi j * phr k := by
  rcases pha_in hj with rfl | rfl | rfl | rfl <;> rcases pha_in hk with rfl | rfl | rfl | rfl <;> decide
/-- The product of two plates of a direction is the plate of both phases together. -/
theorem pla_mul {p q j k : Int} {P Q X : F4} (h : plaM p q j = some P) (hq : plaM p q k = some Q) (hx : mulM P Q = some X) : plaM p q ((j + k) % 4) = some X := by
  obtain ⟨hd, hj, -⟩ := pla_some h
  obtain ⟨-, hk, -⟩ := pla_some hq
  obtain ⟨n1, n2, n3⟩ := pha_add hj hk
  obtain ⟨w, x, y, z, C, S, h1, h2, hC, hS, sq, r1, i1, r2, i2, r3, i3, r4, i4⟩ := pla_val hd hj
  rw [h] at h1
  obtain rfl := (Option.some.inj h1)
  obtain ⟨w', x', y', z', C', S', h1', h2', hC', hS', sq', r1', i1', r2', i2', r3', i3', r4', i4'⟩ := pla_val hd hk
  rw [hq] at h1'
  obtain rfl := (Option.some.inj h1')
  obtain ⟨w2, x2, y2, z2, C2, S2, h12, h22, hC2, hS2, sq2, r12, i12, r22, i22, r32, i32, r42, i42⟩ := pla_val hd n1
  rw [h12]
  obtain ⟨q1, q2, q3, q4⟩ := X
  obtain ⟨ow, ox, oy, oz⟩ := okM_of h22
  have eC : C' = C := by rw [hC', hC]
  have eS : S' = S := by rw [hS', hS]
  have eC2 : C2 = C := by rw [hC2, hC]
  have eS2 : S2 = S := by rw [hS2, hS]
  subst eC eS eC2 eS2
  obtain ⟨e1, e2, e3, e4⟩ := mulM_some hx
  obtain ⟨-, -, -, -, o1, a1, b1⟩ := inT_val e1
  obtain ⟨-, -, -, -, o2, a2, b2⟩ := inT_val e2
  obtain ⟨-, -, -, -, o3, a3, b3⟩ := inT_val e3
  obtain ⟨-, -, -, -, o4, a4, b4⟩ := inT_val e4
  have u2 : (phr ((j + k) % 4) : Rat) = (phr j : Rat) * (phr k : Rat) - (phi j : Rat) * (phi k : Rat) := by rw [n2, Rat.intCast_sub, Rat.intCast_mul, Rat.intCast_mul]
  have v2 : (phi ((j + k) % 4) : Rat) = (phr j : Rat) * (phi k : Rat) + (phi j : Rat) * (phr k : Rat) := by rw [n3, Rat.intCast_add, Rat.intCast_mul, Rat.intCast_mul]
  rw [u2] at r12 r22 r32 r42
  rw [v2] at i12 i22 i32 i42
  rw [r1, i1, r2, i2, r1', i1', r3', i3'] at a1 b1
  rw [r1, i1, r2, i2, r2', i2', r4', i4'] at a2 b2
  rw [r3, i3, r4, i4, r1', i1', r3', i3'] at a3 b3
  rw [r3, i3, r4, i4, r2', i2', r4', i4'] at a4 b4
  clear r1 i1 r2 i2 r3 i3 r4 i4 r1' i1' r2' i2' r3' i3' r4' i4' u2 v2 e1 e2 e3 e4 hC hS hC' hS' hC2 hS2 n2 n3
  generalize (phr j : Rat) = U at *
  generalize (phi j : Rat) = V at *
  generalize (phr k : Rat) = U' at *
  generalize (phi k : Rat) = V' at *
  have g1 : q1 = w2 := uniqT o1 ow (by rw [a1, r12]; grind) (by rw [b1, i12]; grind)
  have g2 : q2 = x2 := uniqT o2 ox (by rw [a2, r22]; grind) (by rw [b2, i22]; grind)
  have g3 : q3 = y2 := uniqT o3 oy (by rw [a3, r32]; grind) (by rw [b3, i32]; grind)
  have g4 : q4 = z2 := uniqT o4 oz (by rw [a4, r42]; grind) (by rw [b4, i42]; grind)
  rw [g1, g2, g3, g4]
/-- The plate of no phase is nothing. -/
theorem pla_0 {p q : Int} (hd : dirB p q = true) : plaM p q 0 = some oneM := by
  obtain ⟨w, x, y, z, C, S, h1, h2, hC, hS, sq, r1, i1, r2, i2, r3, i3, r4, i4⟩ := pla_val hd (show inB 0 0 3 = true by decide)
  obtain ⟨ow, ox, oy, oz⟩ := okM_of h2
  have u0 : (phr 0 : Rat) = 1 := by rw [show phr 0 = 1 from rfl]; exact_mod_cast rfl
  have v0 : (phi 0 : Rat) = 0 := by rw [show phi 0 = 0 from rfl]; exact_mod_cast rfl
  rw [u0] at r1 r2 r3 r4
  rw [v0] at i1 i2 i3 i4
  have ro : reT (1, 0, 1) = 1 := rv_one 1
  have io : imT (1, 0, 1) = 0 := rv_zero 1
  have rz : reT (0, 0, 1) = 0 := rv_zero 1
  have iz : imT (0, 0, 1) = 0 := rv_zero 1
  have g1 : w = (1, 0, 1) := uniqT ow okT_one (by rw [r1, ro]; grind) (by rw [i1, io]; grind)
  have g2 : x = (0, 0, 1) := uniqT ox okT_zero (by rw [r2, rz]; grind) (by rw [i2, iz]; grind)
  have g3 : y = (0, 0, 1) := uniqT oy okT_zero (by rw [r3, rz]; grind) (by rw [i3, iz]; grind)
  have g4 : z = (1, 0, 1) := uniqT oz okT_one (by rw [r4, ro]; grind) (by rw [i4, io]; grind)
  rw [h1, g1, g2, g3, g4]
  rfl
/-- Powers of a plate that are told. -/
theorem pwM_pla {p q k : Int} {P : F4} (h : plaM p q k = some P) : ∀ (n : Nat) {j : Int} {A X : F4}, plaM p q j = some A → pwM P n A = some X → plaM p q ((j + n * k) % 4) = some X
  | 0, j, A, X, ha, hx => by
    cases hx
    have hj := pha_in (pla_some ha).2.1
    rw [show (j + ((0 : Nat) : Int) * k) % 4 = j by rcases hj with rfl | rfl | rfl | rfl <;> simp]
    exact ha
  | n + 1, j, A, X, ha, hx => by
    unfold pwM at hx
    cases e : pwM P n A with
    | none => rw [e] at hx; cases hx
    | some Y =>
      rw [e] at hx
      have h1 := pwM_pla h n ha e
      have h2 := pla_mul h h1 hx
      rw [← h2]
      congr 1
      have : (((n + 1 : Nat) : Int)) * k = n * k + k := by rw [Int.natCast_add, Int.add_mul]; simp
      rw [this]
      omega
/-- Done as often as its beat, a plate changes nothing. -/
theorem beat_one {p q k : Int} {P A : F4} (h : plaM p q k = some P) (hp : pwM P (beatI k).toNat oneM = some A) : A = oneM := by
  obtain ⟨hd, hk, -⟩ := pla_some h
  have e := pwM_pla h (beatI k).toNat (pla_0 hd) hp
  have e2 : ((0 : Int) + ((beatI k).toNat : Int) * k) % 4 = 0 := by rcases pha_in hk with rfl | rfl | rfl | rfl <;> decide
  rw [e2, pla_0 hd] at e
  exact (Option.some.inj e).symm

/-- A section put behind others, the last one first. -/
def putE (rs : List L4) (s : L4) : List L4 :=
  match rs with
  | [] => if s.2 % beatI s.1.2.2 = 0 then [] else [(s.1, s.2 % beatI s.1.2.2)]
  | r :: rest =>
    if r.1 = s.1 then (if (s.2 + r.2) % beatI s.1.2.2 = 0 then rest else (s.1, (s.2 + r.2) % beatI s.1.2.2) :: rest)
    else (if s.2 % beatI s.1.2.2 = 0 then r :: rest else (s.1, s.2 % beatI s.1.2.2) :: r :: rest)
/-- The short fibre, the last one first. -/
def shoE (ls : List L4) : List L4 := ls.foldl putE []
theorem shoE_snoc (ls : List L4) (s : L4) : shoE (ls ++ [s]) = putE (shoE ls) s := by unfold shoE; rw [List.foldl_append]; rfl
theorem putE_nil0 {s : L4} (h : s.2 % beatI s.1.2.2 = 0) : putE [] s = [] := by unfold putE; rw [if_pos h]
theorem putE_nil1 {s : L4} (h : ¬ s.2 % beatI s.1.2.2 = 0) : putE [] s = [(s.1, s.2 % beatI s.1.2.2)] := by unfold putE; rw [if_neg h]
theorem putE_eq0 {s r : L4} {rest : List L4} (e : r.1 = s.1) (h : (s.2 + r.2) % beatI s.1.2.2 = 0) : putE (r :: rest) s = rest := by unfold putE; dsimp only; rw [if_pos e, if_pos h]
theorem putE_eq1 {s r : L4} {rest : List L4} (e : r.1 = s.1) (h : ¬ (s.2 + r.2) % beatI s.1.2.2 = 0) : putE (r :: rest) s = (s.1, (s.2 + r.2) % beatI s.1.2.2) :: rest := by unfold putE; dsimp only; rw [if_pos e, if_neg h]
theorem putE_ne0 {s r : L4} {rest : List L4} (e : ¬ r.1 = s.1) (h : s.2 % beatI s.1.2.2 = 0) : putE (r :: rest) s = r :: rest := by unfold putE; dsimp only; rw [if_neg e, if_pos h]
theorem putE_ne1 {s r : L4} {rest : List L4} (e : ¬ r.1 = s.1) (h : ¬ s.2 % beatI s.1.2.2 = 0) : putE (r :: rest) s = (s.1, s.2 % beatI s.1.2.2) :: r :: rest := by unfold putE; dsimp only; rw [if_neg e, if_neg h]
theorem beat_pos (k : Int) : 0 < beatI k ∧ beatI k ≤ 4 := by
  unfold beatI
  split
  · omega
  · split <;> omega
theorem okS_rest {s : L4} (h : okS s = true) (x : Int) : okS (s.1, x % beatI s.1.2.2) = true := by
  obtain ⟨⟨p, q, k⟩, t⟩ := s
  obtain ⟨h1, h2, -⟩ := okS_out h
  refine okS_mk h1 h2 ?_
  have hb := beat_pos k
  have h3 := Int.emod_nonneg x (show beatI k ≠ 0 by omega)
  have h4 := Int.emod_lt_of_pos x hb.1
  unfold inB
  exact decide_eq_true ⟨h3, by show x % beatI k ≤ 50; omega⟩
theorem putE_ok {rs : List L4} {s : L4} (hr : ∀ r ∈ rs, okS r = true) (hs : okS s = true) : ∀ x ∈ putE rs s, okS x = true := by
  intro x hx
  unfold putE at hx
  split at hx
  · split at hx
    · cases hx
    · rw [List.mem_singleton.1 hx]
      exact okS_rest hs _
  · split at hx
    · split at hx
      · exact hr x (List.mem_cons_of_mem _ hx)
      · rcases List.mem_cons.1 hx with rfl | hx
        · exact okS_rest hs _
        · exact hr x (List.mem_cons_of_mem _ hx)
    · split at hx
      · exact hr x hx
      · rcases List.mem_cons.1 hx with rfl | hx
        · exact okS_rest hs _
        · exact hr x hx
theorem putE_len (rs : List L4) (s : L4) : (putE rs s).length ≤ rs.length + 1 := by
  unfold putE
  split
  · split <;> simp
  · split
    · split <;> simp <;> omega
    · split <;> simp <;> omega
theorem shoE_all (ls : List L4) : ∀ acc, (∀ r ∈ acc, okS r = true) → (∀ s ∈ ls, okS s = true) → (∀ x ∈ ls.foldl putE acc, okS x = true) ∧ (ls.foldl putE acc).length ≤ acc.length + ls.length := by
  induction ls with
  | nil => intro acc ha _; exact ⟨ha, Nat.le_refl _⟩
  | cons s r ih =>
    intro acc ha hs
    have h := ih (putE acc s) (putE_ok ha (hs s (List.mem_cons_self ..))) (fun x hx => hs x (List.mem_cons_of_mem _ hx))
    have hl := putE_len acc s
    refine ⟨h.1, Nat.le_trans h.2 ?_⟩
    rw [List.length_cons]
    omega
theorem shoE_ok {ls : List L4} (h : ∀ s ∈ ls, okS s = true) : (∀ x ∈ shoE ls, okS x = true) ∧ (shoE ls).length ≤ ls.length := by
  have := shoE_all ls [] (fun r h => by cases h) h
  exact ⟨this.1, by have h2 := this.2; rw [List.length_nil, Nat.zero_add] at h2; exact h2⟩
/-- What P and Q a list holds, its numbers' kinds are kept. -/
theorem okS_i64 {l : L4} (h : okS l = true) : i64L l := by
  obtain ⟨⟨p, q, k⟩, t⟩ := l
  have h1 := okS_out h
  have h2 := inB_bd h1.2.1
  unfold okS dirB at h
  simp only [Bool.and_eq_true] at h
  have h3 := inB_bd h.1.1.1.1
  have h4 := inB_bd h.1.1.1.2
  refine ⟨?_, ?_, ?_, ?_⟩ <;> unfold i64B <;> dsimp only at * <;> omega
/-- Only blocks of a part of the memory have changed. -/
def Chg (n₀ n₁ : Nat) (w w' : World) : Prop := w'.os = w.os ∧ w'.tape = w.tape ∧ w'.output = w.output ∧ w.heap.size ≤ w'.heap.size ∧ ∀ k, k < w.heap.size → (k < n₀ ∨ n₁ ≤ k) → w'.heap[k]? = w.heap[k]?
theorem Chg.refl (n₀ n₁ : Nat) (w : World) : Chg n₀ n₁ w w := ⟨rfl, rfl, rfl, Nat.le_refl _, fun _ _ _ => rfl⟩
theorem Chg.trans {n₀ n₁ : Nat} {a b c : World} (h : Chg n₀ n₁ a b) (k : Chg n₀ n₁ b c) : Chg n₀ n₁ a c :=
  ⟨k.1.trans h.1, k.2.1.trans h.2.1, k.2.2.1.trans h.2.2.1, Nat.le_trans h.2.2.2.1 k.2.2.2.1, fun i hi hb => (k.2.2.2.2 i (Nat.lt_of_lt_of_le hi h.2.2.2.1) hb).trans (h.2.2.2.2 i hi hb)⟩
theorem Chg.mono {n₀ n₁ m₀ m₁ : Nat} {a b : World} (h : Chg n₀ n₁ a b) (h0 : m₀ ≤ n₀) (h1 : n₁ ≤ m₁) : Chg m₀ m₁ a b :=
  ⟨h.1, h.2.1, h.2.2.1, h.2.2.2.1, fun i hi hb => h.2.2.2.2 i hi (by omega)⟩
theorem Chg.of_below {n₀ n₁ : Nat} {a b : World} (h : Below a.heap.size a b) : Chg n₀ n₁ a b := ⟨h.os, h.tape, h.output, h.size, fun i hi _ => h.block i hi⟩
theorem Chg.of_only {n₀ n₁ g : Nat} {a b : World} (h : Only g a b) (h0 : n₀ ≤ g) (h1 : g < n₁) : Chg n₀ n₁ a b := ⟨h.os, h.tape, h.output, h.size, fun i hi hb => h.block i hi (by omega)⟩
theorem Chg.below {n₀ n₁ : Nat} {a b : World} (h : Chg n₀ n₁ a b) (hn : n₀ ≤ a.heap.size) : Below n₀ a b := ⟨h.1, h.2.1, h.2.2.1, h.2.2.2.1, fun i hi => h.2.2.2.2 i (Nat.lt_of_lt_of_le hi hn) (.inl hi)⟩
theorem Blk.chg {n₀ n₁ b : Nat} {w w' : World} {vs : List Value} (h : Blk w b vs) (k : Chg n₀ n₁ w w') (hb : n₁ ≤ b) : Blk w' b vs := by
  have l := h.lt
  obtain ⟨T, h⟩ := h
  exact ⟨T, (k.2.2.2.2 b l (.inr hb)).trans h⟩
theorem Only.belowB {b : Nat} {w w' : World} (h : Only b w w') (hb : b ≤ w.heap.size) : Below b w w' := ⟨h.os, h.tape, h.output, h.size, fun i hi => h.block i (Nat.lt_of_lt_of_le hi hb) (Nat.ne_of_lt hi)⟩

set_option linter.unusedSimpArgs false
theorem runM_if (ls : List L4) (v : F3 × F3) : runM ls v = if okFb ls = true then (fbF ls (some oneM)).bind (fun m => appM m v) else none := by
  unfold runM fbM
  split <;> rfl
theorem ordM_if (ls : List L4) : ordM ls = if okFb ls = true then (fbF ls (some oneM)).bind (fun m => some (ordG m 24 m)) else none := by
  unfold ordM fbM
  split <;> rfl
def staM (ls : List L4) (x1 x2 x3 y1 y2 y3 : Int) : Bool := match runM ls ((x1, x2, x3), (y1, y2, y3)) with
  | some u => !darkB x1 x2 x3 y1 y2 y3 && alikeF x1 x2 x3 y1 y2 y3 u.1.1 u.1.2.1 u.1.2.2 u.2.1 u.2.2.1 u.2.2.2
  | none => false
theorem fbApp_ok {A : F4} {V r : F3 × F3} (h : appM A V = some r) : (okT r.1 = true ∧ okT r.2 = true) ∧ (okT V.1 = true ∧ okT V.2 = true) := by
  obtain ⟨a, b, c, d⟩ := A
  obtain ⟨x, y⟩ := V
  obtain ⟨u, v⟩ := r
  obtain ⟨e1, e2⟩ := appM_some h
  exact ⟨⟨(inT_val e1).2.2.2.2.1, (inT_val e2).2.2.2.2.1⟩, (inT_val e1).2.1, (inT_val e1).2.2.2.1⟩
theorem ordG_zero (m X : F4) : ordG m 0 X = 0 := rfl
theorem ordG_yes {m X : F4} {k : Nat} (h : alkM X oneM = true) : ordG m (k + 1) X = 24 - (k : Int) := by unfold ordG; rw [if_pos h]
theorem ordG_none {m X : F4} {k : Nat} (h : alkM X oneM = false) (e : mulM m X = none) : ordG m (k + 1) X = 0 := by unfold ordG; rw [h, e]; rfl
theorem ordG_some {m X Y : F4} {k : Nat} (h : alkM X oneM = false) (e : mulM m X = some Y) : ordG m (k + 1) X = ordG m k Y := by
  show (if alkM X oneM = true then 24 - (k : Int) else match mulM m X with | some Y => ordG m k Y | none => 0) = _
  rw [h, e]
  rfl

/-- A complex rational number. -/
structure CR where
  re : Rat
  im : Rat
theorem CR.eq {a b : CR} (h1 : a.re = b.re) (h2 : a.im = b.im) : a = b := by cases a; cases b; simp_all
structure CM where
  a : CR
  b : CR
  c : CR
  d : CR
theorem CM.eq {m n : CM} (h1 : m.a = n.a) (h2 : m.b = n.b) (h3 : m.c = n.c) (h4 : m.d = n.d) : m = n := by cases m; cases n; simp_all
def CR.mac (a b c d : CR) : CR := ⟨a.re * b.re - a.im * b.im + (c.re * d.re - c.im * d.im), a.re * b.im + a.im * b.re + (c.re * d.im + c.im * d.re)⟩
def CM.mul (m n : CM) : CM := ⟨.mac m.a n.a m.b n.c, .mac m.a n.b m.b n.d, .mac m.c n.a m.d n.c, .mac m.c n.b m.d n.d⟩
def CM.one : CM := ⟨⟨1, 0⟩, ⟨0, 0⟩, ⟨0, 0⟩, ⟨1, 0⟩⟩
theorem CM.assoc (m n o : CM) : (m.mul n).mul o = m.mul (n.mul o) := by
  obtain ⟨⟨a1, a2⟩, ⟨a3, a4⟩, ⟨a5, a6⟩, ⟨a7, a8⟩⟩ := m
  obtain ⟨⟨b1, b2⟩, ⟨b3, b4⟩, ⟨b5, b6⟩, ⟨b7, b8⟩⟩ := n
  obtain ⟨⟨c1, c2⟩, ⟨c3, c4⟩, ⟨c5, c6⟩, ⟨c7, c8⟩⟩ := o
  refine CM.eq ?_ ?_ ?_ ?_ <;> refine CR.eq ?_ ?_ <;> simp only [CM.mul, CR.mac] <;> grind
theorem CM.one_mul (m : CM) : CM.one.mul m = m := by
  obtain ⟨⟨a1, a2⟩, ⟨a3, a4⟩, ⟨a5, a6⟩, ⟨a7, a8⟩⟩ := m
  refine CM.eq ?_ ?_ ?_ ?_ <;> refine CR.eq ?_ ?_ <;> simp only [CM.mul, CR.mac, CM.one] <;> grind
theorem CM.mul_one (m : CM) : m.mul CM.one = m := by
  obtain ⟨⟨a1, a2⟩, ⟨a3, a4⟩, ⟨a5, a6⟩, ⟨a7, a8⟩⟩ := m
  refine CM.eq ?_ ?_ ?_ ?_ <;> refine CR.eq ?_ ?_ <;> simp only [CM.mul, CR.mac, CM.one] <;> grind
def CM.pow (m : CM) : Nat → CM
  | 0 => CM.one
  | n + 1 => m.mul (m.pow n)
theorem CM.pow_add (m : CM) (j k : Nat) : m.pow (j + k) = (m.pow j).mul (m.pow k) := by
  induction j with
  | zero => rw [Nat.zero_add]; exact (CM.one_mul _).symm
  | succ j ih => rw [Nat.succ_add]; show m.mul (m.pow (j + k)) = (m.mul (m.pow j)).mul (m.pow k); rw [ih, CM.assoc]
theorem CM.pow_one_of {m : CM} {b : Nat} (h : m.pow b = CM.one) (k : Nat) : m.pow (b * k) = CM.one := by
  induction k with
  | zero => rfl
  | succ k ih => rw [Nat.mul_succ, CM.pow_add, ih, h, CM.one_mul]
theorem CM.pow_mod {m : CM} {b : Nat} (h : m.pow b = CM.one) (t : Nat) : m.pow (t % b) = m.pow t := by
  conv => rhs; rw [← Nat.div_add_mod t b, CM.pow_add, CM.pow_one_of h, CM.one_mul]
/-- What a fraction, a matrix is worth. -/
def valSecT (u : F3) : CR := ⟨reT u, imT u⟩
def valC (A : F4) : CM := ⟨valSecT A.1, valSecT A.2.1, valSecT A.2.2.1, valSecT A.2.2.2⟩
theorem valC_mul {A B X : F4} (h : mulM A B = some X) : valC X = (valC A).mul (valC B) := by
  obtain ⟨a, b, c, d⟩ := A
  obtain ⟨i, j, k, l⟩ := B
  obtain ⟨x, y, z, u⟩ := X
  obtain ⟨e1, e2, e3, e4⟩ := mulM_some h
  obtain ⟨-, -, -, -, -, a1, b1⟩ := inT_val e1
  obtain ⟨-, -, -, -, -, a2, b2⟩ := inT_val e2
  obtain ⟨-, -, -, -, -, a3, b3⟩ := inT_val e3
  obtain ⟨-, -, -, -, -, a4, b4⟩ := inT_val e4
  refine CM.eq ?_ ?_ ?_ ?_ <;> refine CR.eq ?_ ?_ <;> simp only [valC, valSecT, CM.mul, CR.mac] <;> grind
theorem valC_one : valC oneM = CM.one := by
  have ro : reT (1, 0, 1) = 1 := rv_one 1
  have io : imT (1, 0, 1) = 0 := rv_zero 1
  have rz : reT (0, 0, 1) = 0 := rv_zero 1
  have iz : imT (0, 0, 1) = 0 := rv_zero 1
  refine CM.eq ?_ ?_ ?_ ?_ <;> refine CR.eq ?_ ?_ <;> simp only [valC, valSecT, oneM, CM.one] <;> assumption
theorem valC_uniq {A B : F4} (ha : okM A = true) (hb : okM B = true) (h : valC A = valC B) : A = B := by
  obtain ⟨a, b, c, d⟩ := A
  obtain ⟨i, j, k, l⟩ := B
  obtain ⟨o1, o2, o3, o4⟩ := okM_of ha
  obtain ⟨p1, p2, p3, p4⟩ := okM_of hb
  simp only [valC, valSecT, CM.mk.injEq, CR.mk.injEq] at h
  obtain ⟨⟨h1, h2⟩, ⟨h3, h4⟩, ⟨h5, h6⟩, h7, h8⟩ := h
  rw [uniqT o1 p1 h1 h2, uniqT o2 p2 h3 h4, uniqT o3 p3 h5 h6, uniqT o4 p4 h7 h8]
/-- The rational plate: what the plate of a direction and a phase is worth. -/
def plaV (p q k : Int) : CM := valC ((plaM p q k).getD oneM)
theorem plaV_of {p q k : Int} {P : F4} (h : plaM p q k = some P) : plaV p q k = valC P := by unfold plaV; rw [h]; rfl
theorem plaV_mul {p q j k : Int} (hd : dirB p q = true) (hj : inB j 0 3 = true) (hk : inB k 0 3 = true) : (plaV p q j).mul (plaV p q k) = plaV p q ((j + k) % 4) := by
  obtain ⟨n1, n2, n3⟩ := pha_add hj hk
  obtain ⟨w, x, y, z, C, S, h1, h2, hC, hS, sq, r1, i1, r2, i2, r3, i3, r4, i4⟩ := pla_val hd hj
  obtain ⟨w', x', y', z', C', S', h1', h2', hC', hS', sq', r1', i1', r2', i2', r3', i3', r4', i4'⟩ := pla_val hd hk
  obtain ⟨w2, x2, y2, z2, C2, S2, h12, h22, hC2, hS2, sq2, r12, i12, r22, i22, r32, i32, r42, i42⟩ := pla_val hd n1
  have eC : C' = C := by rw [hC', hC]
  have eS : S' = S := by rw [hS', hS]
  have eC2 : C2 = C := by rw [hC2, hC]
  have eS2 : S2 = S := by rw [hS2, hS]
  subst eC eS eC2 eS2
  have u2 : (phr ((j + k) % 4) : Rat) = (phr j : Rat) * (phr k : Rat) - (phi j : Rat) * (phi k : Rat) := by rw [n2, Rat.intCast_sub, Rat.intCast_mul, Rat.intCast_mul]
  have v2 : (phi ((j + k) % 4) : Rat) = (phr j : Rat) * (phi k : Rat) + (phi j : Rat) * (phr k : Rat) := by rw [n3, Rat.intCast_add, Rat.intCast_mul, Rat.intCast_mul]
  rw [u2] at r12 r22 r32 r42
  rw [v2] at i12 i22 i32 i42
  rw [plaV_of h1, plaV_of h1', plaV_of h12]
  generalize (phr j : Rat) = U at *
  generalize (phi j : Rat) = V at *
  generalize (phr k : Rat) = U' at *
  generalize (phi k : Rat) = V' at *
  clear h1 h1' h12 h2 h2' h22 hC hS hC' hS' hC2 hS2 n2 n3 u2 v2 sq' sq2
  refine CM.eq ?_ ?_ ?_ ?_ <;> refine CR.eq ?_ ?_ <;> simp only [valC, valSecT, CM.mul, CR.mac, r1, i1, r2, i2, r3, i3, r4, i4, r1', i1', r2', i2', r3', i3', r4', i4', r12, i12, r22, i22, r32, i32, r42, i42] <;> grind
theorem plaV_0 {p q : Int} (hd : dirB p q = true) : plaV p q 0 = CM.one := by rw [plaV_of (pla_0 hd), valC_one]
theorem plaV_pow {p q k : Int} (hd : dirB p q = true) (hk : inB k 0 3 = true) : ∀ n : Nat, (plaV p q k).pow n = plaV p q ((n * k) % 4)
  | 0 => by rw [show (((0 : Nat) : Int) * k) % 4 = 0 by simp, plaV_0 hd]; rfl
  | n + 1 => by
    have hr : inB ((n * k) % 4) 0 3 = true := by
      unfold inB
      exact decide_eq_true ⟨by omega, by omega⟩
    show (plaV p q k).mul ((plaV p q k).pow n) = _
    rw [plaV_pow hd hk n, plaV_mul hd hk hr]
    congr 1
    have : (((n + 1 : Nat) : Int)) * k = n * k + k := by rw [Int.natCast_add, Int.add_mul]; simp
    rw [this]
    omega
theorem plaV_beat {p q k : Int} (hd : dirB p q = true) (hk : inB k 0 3 = true) : (plaV p q k).pow (beatI k).toNat = CM.one := by
  rw [plaV_pow hd hk, show (((beatI k).toNat : Int) * k) % 4 = 0 by rcases pha_in hk with rfl | rfl | rfl | rfl <;> decide, plaV_0 hd]
/-- What a section, a fibre is worth. -/
def secV (s : L4) : CM := (plaV s.1.1 s.1.2.1 s.1.2.2).pow s.2.toNat
def fbV (ls : List L4) : CM := ls.foldl (fun m s => (secV s).mul m) CM.one
theorem fbV_snoc (ls : List L4) (s : L4) : fbV (ls ++ [s]) = (secV s).mul (fbV ls) := by unfold fbV; rw [List.foldl_append]; rfl
theorem secV_of {s : L4} {A B : F4} (h : secM s A = some B) : valC B = (secV s).mul (valC A) := by
  unfold secM at h
  cases e : plaM s.1.1 s.1.2.1 s.1.2.2 with
  | none => rw [e] at h; cases h
  | some P =>
    rw [e] at h
    unfold secV
    rw [plaV_of e]
    have key : ∀ (n : Nat) {X : F4}, pwM P n A = some X → valC X = ((valC P).pow n).mul (valC A) := by
      intro n
      induction n with
      | zero => intro X hX; cases hX; exact (CM.one_mul _).symm
      | succ n ih =>
        intro X hX
        unfold pwM at hX
        cases e2 : pwM P n A with
        | none => rw [e2] at hX; cases hX
        | some Y =>
          rw [e2] at hX
          rw [valC_mul hX, ih e2, ← CM.assoc]
          rfl
    exact key _ h
theorem fbV_of {ls : List L4} {A : F4} (h : fbF ls (some oneM) = some A) : valC A = fbV ls := by
  have key : ∀ (ls : List L4) (M : CM) (o : Option F4), (∀ B, o = some B → valC B = M) → ∀ A, fbF ls o = some A → valC A = ls.foldl (fun m s => (secV s).mul m) M := by
    intro ls
    induction ls with
    | nil => intro M o ho A hA; exact ho A hA
    | cons s r ih =>
      intro M o ho A hA
      refine ih ((secV s).mul M) (o.bind (secM s)) ?_ A hA
      intro B hB
      cases o with
      | none => cases hB
      | some C => rw [secV_of hB, ho C rfl]
  exact key ls CM.one (some oneM) (fun B hB => by cases hB; exact valC_one) A h
theorem secV_rest {s : L4} (h : okS s = true) {x : Int} (hx : 0 ≤ x) : secV (s.1, x % beatI s.1.2.2) = (plaV s.1.1 s.1.2.1 s.1.2.2).pow x.toNat := by
  obtain ⟨⟨p, q, k⟩, t⟩ := s
  obtain ⟨hd, hk, -⟩ := okS_out h
  unfold secV
  show (plaV p q k).pow (x % beatI k).toNat = (plaV p q k).pow x.toNat
  have hb := beat_pos k
  rw [← CM.pow_mod (plaV_beat hd hk) x.toNat]
  congr 1
  obtain ⟨n, rfl⟩ := Int.eq_ofNat_of_zero_le hx
  obtain ⟨m, hm⟩ := Int.eq_ofNat_of_zero_le (show 0 ≤ beatI k by omega)
  rw [hm]
  simp only [Int.toNat_natCast]
  rw [← Int.natCast_emod, Int.toNat_natCast]
/-- A section put behind others: the same fibre. -/
theorem putE_val {rs : List L4} {s : L4} (hr : ∀ r ∈ rs, okS r = true) (hs : okS s = true) : fbV (putE rs s).reverse = (secV s).mul (fbV rs.reverse) := by
  have ht : 0 ≤ s.2 := by obtain ⟨⟨p, q, k⟩, t⟩ := s; exact (okS_out hs).2.2.1
  have h0 : ∀ x, 0 ≤ x → x % beatI s.1.2.2 = 0 → (plaV s.1.1 s.1.2.1 s.1.2.2).pow x.toNat = CM.one := fun x hx h => by rw [← secV_rest hs hx, h]; rfl
  unfold putE
  split
  · split
    · rename_i h
      show fbV [] = _
      unfold secV
      rw [h0 _ ht h, CM.one_mul]
      rfl
    · show fbV ([] ++ [(s.1, s.2 % beatI s.1.2.2)]) = _
      rw [fbV_snoc, secV_rest hs ht]
      rfl
  · rename_i r rest
    have hu : 0 ≤ r.2 := by
      have := hr r (List.mem_cons_self ..)
      obtain ⟨⟨p, q, k⟩, t⟩ := r
      exact (okS_out this).2.2.1
    split
    · rename_i he
      have hsum : (plaV s.1.1 s.1.2.1 s.1.2.2).pow (s.2 + r.2).toNat = (secV s).mul (secV r) := by
        unfold secV
        rw [he, ← CM.pow_add, Int.toNat_add ht hu]
      split
      · rename_i h
        rw [List.reverse_cons, fbV_snoc, ← CM.assoc, ← hsum, h0 _ (by omega) h, CM.one_mul]
      · rw [List.reverse_cons, List.reverse_cons, fbV_snoc, fbV_snoc, secV_rest hs (by omega), hsum, CM.assoc]
    · split
      · rename_i h
        unfold secV
        rw [h0 _ ht h, CM.one_mul]
      · rw [List.reverse_cons, fbV_snoc, secV_rest hs ht]
        rfl
theorem shoE_val {ls : List L4} (h : ∀ s ∈ ls, okS s = true) : fbV (shoE ls).reverse = fbV ls := by
  have key : ∀ (ls acc : List L4) (M : List L4), (∀ s ∈ ls, okS s = true) → (∀ r ∈ acc, okS r = true) → fbV acc.reverse = fbV M → fbV (ls.foldl putE acc).reverse = fbV (M ++ ls) := by
    intro ls
    induction ls with
    | nil => intro acc M _ _ hM; rw [List.append_nil]; exact hM
    | cons s r ih =>
      intro acc M hs ha hM
      have e := ih (putE acc s) (M ++ [s]) (fun x hx => hs x (List.mem_cons_of_mem _ hx)) (putE_ok ha (hs s (List.mem_cons_self ..))) (by rw [putE_val ha (hs s (List.mem_cons_self ..)), fbV_snoc, hM])
      rw [List.foldl_cons, e, List.append_assoc]
      rfl
  have := key ls [] [] h (fun r hr => by cases hr) rfl
  rwa [List.nil_append] at this
theorem fbF_okV {ls : List L4} {A : F4} (h : fbF ls (some oneM) = some A) : okM A = true := by
  have key : ∀ (m : F4) (n : Nat) {B C : F4}, okM B = true → pwM m n B = some C → okM C = true := by
    intro m n
    induction n with
    | zero => intro B C hB h; injection h with h; rw [← h]; exact hB
    | succ n ih =>
      intro B C hB h
      unfold pwM at h
      cases e : pwM m n B with
      | none => rw [e] at h; cases h
      | some D => rw [e] at h; exact (mulM_ok h).2.2
  have key2 : ∀ (s : L4) {B C : F4}, okM B = true → secM s B = some C → okM C = true := by
    intro s B C hB h
    unfold secM at h
    cases e : plaM s.1.1 s.1.2.1 s.1.2.2 with
    | none => rw [e] at h; cases h
    | some m => rw [e] at h; exact key m _ hB h
  have key3 : ∀ (ls : List L4) (o : Option F4), (∀ A, o = some A → okM A = true) → ∀ A, fbF ls o = some A → okM A = true := by
    intro ls
    induction ls with
    | nil => intro o ho A h; exact ho A h
    | cons s r ih =>
      intro o ho A h
      refine ih _ ?_ A h
      intro B hB
      cases o with
      | none => cases hB
      | some D => exact key2 s (ho D rfl) hB
  exact key3 ls _ (fun A h => by cases h; decide) A h
/-- The matrices of a fibre and of its short one, if both are told. -/
theorem short_mat {ls : List L4} {A B : F4} (ha : fbM ls = some A) (hb : fbM (shoE ls).reverse = some B) : A = B := by
  have hok : okFb ls = true := by
    cases e : okFb ls with
    | true => rfl
    | false => rw [fbM_no e] at ha; cases ha
  have hok2 : okFb (shoE ls).reverse = true := by
    cases e : okFb (shoE ls).reverse with
    | true => rfl
    | false => rw [fbM_no e] at hb; cases hb
  rw [fbM_yes hok] at ha
  rw [fbM_yes hok2] at hb
  refine valC_uniq (fbF_okV ha) (fbF_okV hb) ?_
  rw [fbV_of ha, fbV_of hb, shoE_val (fun s hs => okFb_mem hok hs)]
/-- A list (the last one first) that is short: neighbours have other plates, times are less than the beat. -/
def Shrt : List L4 → Prop
  | [] => True
  | s :: r => (¬ s.2 % beatI s.1.2.2 = 0 ∧ s.2 % beatI s.1.2.2 = s.2) ∧ (∀ x ∈ r.head?, ¬ x.1 = s.1) ∧ Shrt r
theorem Shrt.tail {s : L4} {r : List L4} (h : Shrt (s :: r)) : Shrt r := h.2.2
theorem rest_rest (x k : Int) : (x % beatI k) % beatI k = x % beatI k := Int.emod_emod_of_dvd x (Int.dvd_refl _)
theorem Shrt.put {rs : List L4} {s : L4} (h : Shrt rs) : Shrt (putE rs s) := by
  unfold putE
  split
  · split
    · trivial
    · rename_i h0
      exact ⟨⟨by show ¬ (s.2 % beatI s.1.2.2) % beatI s.1.2.2 = 0; rw [rest_rest]; exact h0, rest_rest _ _⟩, (fun x hx => by cases hx), trivial⟩
  · rename_i r rest
    split
    · rename_i he
      split
      · exact h.tail
      · rename_i h0
        refine ⟨⟨by show ¬ ((s.2 + r.2) % beatI s.1.2.2) % beatI s.1.2.2 = 0; rw [rest_rest]; exact h0, rest_rest _ _⟩, fun x hx => ?_, h.tail⟩
        have := h.2.1 x hx
        rwa [he] at this
    · rename_i he
      split
      · exact h
      · rename_i h0
        refine ⟨⟨by show ¬ (s.2 % beatI s.1.2.2) % beatI s.1.2.2 = 0; rw [rest_rest]; exact h0, rest_rest _ _⟩, fun x hx => ?_, h⟩
        cases hx
        exact he
theorem shoE_shrt (ls : List L4) : Shrt (shoE ls) := by
  have key : ∀ (ls acc : List L4), Shrt acc → Shrt (ls.foldl putE acc) := by
    intro ls
    induction ls with
    | nil => intro acc h; exact h
    | cons s r ih => intro acc h; exact ih _ h.put
  exact key ls [] trivial
/-- A short list is left as it is. -/
theorem shoE_of_shrt : ∀ {rs : List L4}, Shrt rs → shoE rs.reverse = rs
  | [], _ => rfl
  | s :: r, h => by
    rw [List.reverse_cons, shoE_snoc, shoE_of_shrt h.tail]
    obtain ⟨⟨h0, h1⟩, h2, h3⟩ := h
    cases r with
    | nil => rw [putE_nil1 h0, h1]
    | cons x rest => rw [putE_ne1 (h2 x rfl) h0, h1]
theorem shoE_idem (ls : List L4) : shoE (shoE ls).reverse = shoE ls := shoE_of_shrt (shoE_shrt ls)

def CR.bar (a : CR) : CR := ⟨a.re, -a.im⟩
def CM.adj (m : CM) : CM := ⟨m.a.bar, m.c.bar, m.b.bar, m.d.bar⟩
theorem CM.adj_mul (m n : CM) : (m.mul n).adj = n.adj.mul m.adj := by
  obtain ⟨⟨a1, a2⟩, ⟨a3, a4⟩, ⟨a5, a6⟩, ⟨a7, a8⟩⟩ := m
  obtain ⟨⟨b1, b2⟩, ⟨b3, b4⟩, ⟨b5, b6⟩, ⟨b7, b8⟩⟩ := n
  refine CM.eq ?_ ?_ ?_ ?_ <;> refine CR.eq ?_ ?_ <;> simp only [CM.mul, CR.mac, CM.adj, CR.bar] <;> grind
theorem CM.adj_one : CM.one.adj = CM.one := by
  refine CM.eq ?_ ?_ ?_ ?_ <;> refine CR.eq ?_ ?_ <;> simp only [CM.one, CM.adj, CR.bar] <;> grind
theorem CM.adj_pow (m : CM) (n : Nat) : (m.pow n).adj = m.adj.pow n := by
  induction n with
  | zero => exact CM.adj_one
  | succ n ih =>
    show (m.mul (m.pow n)).adj = _
    rw [CM.adj_mul, ih, CM.pow_add, show CM.pow m.adj 1 = m.adj from CM.mul_one _]
/-- What a matrix does to two numbers. -/
def CM.app (m : CM) (v : CR × CR) : CR × CR := (.mac m.a v.1 m.b v.2, .mac m.c v.1 m.d v.2)
theorem CM.app_app (m n : CM) (v : CR × CR) : (m.mul n).app v = m.app (n.app v) := by
  obtain ⟨⟨a1, a2⟩, ⟨a3, a4⟩, ⟨a5, a6⟩, ⟨a7, a8⟩⟩ := m
  obtain ⟨⟨b1, b2⟩, ⟨b3, b4⟩, ⟨b5, b6⟩, ⟨b7, b8⟩⟩ := n
  obtain ⟨⟨c1, c2⟩, ⟨c3, c4⟩⟩ := v
  refine Prod.ext ?_ ?_ <;> refine CR.eq ?_ ?_ <;> simp only [CM.mul, CR.mac, CM.app] <;> grind
theorem CM.one_app (v : CR × CR) : CM.one.app v = v := by
  obtain ⟨⟨c1, c2⟩, ⟨c3, c4⟩⟩ := v
  refine Prod.ext ?_ ?_ <;> refine CR.eq ?_ ?_ <;> simp only [CM.one, CR.mac, CM.app] <;> grind
/-- The real part of an inner product. -/
def CR.ip (v u : CR × CR) : Rat := v.1.re * u.1.re + v.1.im * u.1.im + (v.2.re * u.2.re + v.2.im * u.2.im)
theorem CM.ip_app (m : CM) (v u : CR × CR) : CR.ip (m.app v) u = CR.ip v (m.adj.app u) := by
  obtain ⟨⟨a1, a2⟩, ⟨a3, a4⟩, ⟨a5, a6⟩, ⟨a7, a8⟩⟩ := m
  obtain ⟨⟨b1, b2⟩, ⟨b3, b4⟩⟩ := v
  obtain ⟨⟨c1, c2⟩, ⟨c3, c4⟩⟩ := u
  simp only [CR.ip, CR.mac, CM.app, CM.adj, CR.bar]
  grind
/-- A matrix that its adjoint undoes keeps the power. -/
theorem CM.norm {m : CM} (h : m.adj.mul m = CM.one) (v : CR × CR) : CR.ip (m.app v) (m.app v) = CR.ip v v := by
  rw [CM.ip_app, ← CM.app_app, h, CM.one_app]
theorem valC_adj {A B : F4} (h : adjM A = some B) : valC B = (valC A).adj := by
  obtain ⟨a, b, c, d⟩ := A
  obtain ⟨-, rfl⟩ := adjM_some h
  refine CM.eq ?_ ?_ ?_ ?_ <;> refine CR.eq ?_ ?_ <;> simp only [valC, valSecT, CM.adj, CR.bar] <;> first | exact reT_bar | exact imT_bar | exact reT_bar _ | exact imT_bar _
def valV (v : F3 × F3) : CR × CR := (valSecT v.1, valSecT v.2)
theorem valV_app {A : F4} {v r : F3 × F3} (h : appM A v = some r) : valV r = (valC A).app (valV v) := by
  obtain ⟨a, b, c, d⟩ := A
  obtain ⟨x, y⟩ := v
  obtain ⟨u, w⟩ := r
  obtain ⟨e1, e2⟩ := appM_some h
  obtain ⟨-, -, -, -, -, a1, b1⟩ := inT_val e1
  obtain ⟨-, -, -, -, -, a2, b2⟩ := inT_val e2
  refine Prod.ext ?_ ?_ <;> refine CR.eq ?_ ?_ <;> simp only [valV, valC, valSecT, CM.app, CR.mac] <;> grind
theorem valV_uniq {v u : F3 × F3} (h1 : okT v.1 = true ∧ okT v.2 = true) (h2 : okT u.1 = true ∧ okT u.2 = true) (h : valV v = valV u) : v = u := by
  obtain ⟨x, y⟩ := v
  obtain ⟨i, j⟩ := u
  simp only [valV, valSecT, Prod.mk.injEq, CR.mk.injEq] at h
  obtain ⟨⟨e1, e2⟩, e3, e4⟩ := h
  rw [show x = i from uniqT h1.1 h2.1 e1 e2, show y = j from uniqT h1.2 h2.2 e3 e4]
theorem pT_ip {x y n : F3} (h : pT x y = some n) : okT n = true ∧ reT n = CR.ip (valV (x, y)) (valV (x, y)) ∧ imT n = 0 := by
  obtain ⟨h1, h2, h3⟩ := pT_val h
  exact ⟨h1, h2, h3⟩
theorem undo_in {k : Int} (hk : inB k 0 3 = true) : inB (-k % 4) 0 3 = true ∧ -(-k % 4) % 4 = k ∧ phr (-k % 4) = phr k ∧ phi (-k % 4) = -phi k := by
  rcases pha_in hk with rfl | rfl | rfl | rfl <;> decide
theorem plaV_adj {p q k : Int} (hd : dirB p q = true) (hk : inB k 0 3 = true) : (plaV p q k).adj = plaV p q (-k % 4) := by
  obtain ⟨n1, -, n2, n3⟩ := undo_in hk
  obtain ⟨w, x, y, z, C, S, h1, h2, hC, hS, sq, r1, i1, r2, i2, r3, i3, r4, i4⟩ := pla_val hd hk
  obtain ⟨w2, x2, y2, z2, C2, S2, h12, h22, hC2, hS2, sq2, r12, i12, r22, i22, r32, i32, r42, i42⟩ := pla_val hd n1
  have eC2 : C2 = C := by rw [hC2, hC]
  have eS2 : S2 = S := by rw [hS2, hS]
  subst eC2 eS2
  have v2 : (phi (-k % 4) : Rat) = -(phi k : Rat) := by rw [n3, Rat.intCast_neg]
  rw [n2] at r12 r22 r32 r42
  rw [v2] at i12 i22 i32 i42
  rw [plaV_of h1, plaV_of h12]
  generalize (phr k : Rat) = U at *
  generalize (phi k : Rat) = V at *
  clear h1 h12 h2 h22 hC hS hC2 hS2 n2 n3 v2 sq2
  refine CM.eq ?_ ?_ ?_ ?_ <;> refine CR.eq ?_ ?_ <;> simp only [valC, valSecT, CM.adj, CR.bar, r1, i1, r2, i2, r3, i3, r4, i4, r12, i12, r22, i22, r32, i32, r42, i42] <;> grind
theorem okS_undo {s : L4} (h : okS s = true) : okS (undo s) = true ∧ undo (undo s) = s := by
  obtain ⟨⟨p, q, k⟩, t⟩ := s
  obtain ⟨hd, hk, ht⟩ := okS_out h
  obtain ⟨n1, n2, -⟩ := undo_in hk
  refine ⟨okS_mk hd n1 (by unfold inB; exact decide_eq_true ht), ?_⟩
  show ((p, q, -(-k % 4) % 4), t) = ((p, q, k), t)
  rw [n2]
theorem secV_undo {s : L4} (h : okS s = true) : secV (undo s) = (secV s).adj ∧ (secV s).mul (secV (undo s)) = CM.one := by
  obtain ⟨⟨p, q, k⟩, t⟩ := s
  obtain ⟨hd, hk, ht⟩ := okS_out h
  obtain ⟨n1, n2, -⟩ := undo_in hk
  refine ⟨?_, ?_⟩
  · show (plaV p q (-k % 4)).pow t.toNat = ((plaV p q k).pow t.toNat).adj
    rw [CM.adj_pow, plaV_adj hd hk]
  · show ((plaV p q k).pow t.toNat).mul ((plaV p q (-k % 4)).pow t.toNat) = CM.one
    have r1 : inB ((t.toNat * k) % 4) 0 3 = true := by unfold inB; exact decide_eq_true ⟨by omega, by omega⟩
    have r2 : inB ((t.toNat * (-k % 4)) % 4) 0 3 = true := by unfold inB; exact decide_eq_true ⟨by omega, by omega⟩
    rw [plaV_pow hd hk, plaV_pow hd n1, plaV_mul hd r1 r2, show ((t.toNat * k) % 4 + (t.toNat * (-k % 4)) % 4) % 4 = 0 by rcases pha_in hk with rfl | rfl | rfl | rfl <;> simp <;> omega, plaV_0 hd]
theorem fbV_app (ls : List L4) (M : CM) : ls.foldl (fun m s => (secV s).mul m) M = (fbV ls).mul M := by
  unfold fbV
  induction ls generalizing M with
  | nil => exact (CM.one_mul M).symm
  | cons s r ih => rw [List.foldl_cons, List.foldl_cons, ih, ih ((secV s).mul CM.one), CM.mul_one, CM.assoc]
theorem fbV_cons (s : L4) (r : List L4) : fbV (s :: r) = (fbV r).mul (secV s) := by
  show r.foldl (fun m s => (secV s).mul m) ((secV s).mul CM.one) = _
  rw [fbV_app, CM.mul_one]
theorem backM_cons (s : L4) (r : List L4) : backM (s :: r) = backM r ++ [undo s] := by
  unfold backM
  rw [List.map_cons, List.reverse_cons]
theorem fbV_back {ls : List L4} (h : ∀ s ∈ ls, okS s = true) : fbV (backM ls) = (fbV ls).adj ∧ (fbV ls).mul (fbV (backM ls)) = CM.one := by
  induction ls with
  | nil => exact ⟨CM.adj_one.symm, CM.one_mul _⟩
  | cons s r ih =>
    obtain ⟨e1, e2⟩ := ih (fun x hx => h x (List.mem_cons_of_mem _ hx))
    obtain ⟨u1, u2⟩ := secV_undo (h s (List.mem_cons_self ..))
    rw [backM_cons, fbV_snoc, fbV_cons]
    refine ⟨by rw [u1, e1, CM.adj_mul], ?_⟩
    rw [CM.assoc, ← CM.assoc (secV s), u2, CM.one_mul, e2]
theorem backM_len (ls : List L4) : (backM ls).length = ls.length := by
  unfold backM
  rw [List.length_reverse, List.length_map]
theorem backM_ok {ls : List L4} (h : okFb ls = true) : okFb (backM ls) = true := by
  obtain ⟨h1, h2⟩ := okFb_all h
  unfold okFb
  rw [backM_len, decide_eq_true h2, Bool.and_true]
  refine List.all_eq_true.2 fun x hx => ?_
  unfold backM at hx
  obtain ⟨s, hs, rfl⟩ := List.mem_map.1 (List.mem_reverse.1 hx)
  exact (okS_undo (List.all_eq_true.1 h1 s hs)).1
theorem backM_back {ls : List L4} (h : okFb ls = true) : backM (backM ls) = ls := by
  obtain ⟨h1, -⟩ := okFb_all h
  unfold backM
  rw [List.map_reverse, List.reverse_reverse, List.map_map]
  conv => rhs; rw [← List.map_id ls]
  exact List.map_congr_left fun s hs => (okS_undo (List.all_eq_true.1 h1 s hs)).2
theorem fbM_okFb {ls : List L4} {A : F4} (h : fbM ls = some A) : okFb ls = true ∧ okM A = true ∧ valC A = fbV ls := by
  have ok : okFb ls = true := by
    cases e : okFb ls with
    | true => rfl
    | false => rw [fbM_no e] at h; cases h
  rw [fbM_yes ok] at h
  exact ⟨ok, fbF_okV h, fbV_of h⟩
theorem fbV_ok {ls : List L4} (h : okFb ls = true) : (fbV ls).mul (fbV ls).adj = CM.one ∧ (fbV ls).adj.mul (fbV ls) = CM.one := by
  obtain ⟨e1, e2⟩ := fbV_back (fun s hs => okFb_mem h hs)
  obtain ⟨-, f2⟩ := fbV_back (fun s hs => okFb_mem (backM_ok h) hs)
  rw [backM_back h, e1] at f2
  rw [e1] at e2
  exact ⟨e2, f2⟩
/-- The matrix of a fibre is lossless. -/
theorem fb_los {ls : List L4} {A B X : F4} (h : fbM ls = some A) (ha : adjM A = some B) (hx : mulM A B = some X) : losM A = true := by
  obtain ⟨ok, oA, vA⟩ := fbM_okFb h
  refine losM_of ha ?_
  rw [hx, valC_uniq (mulM_ok hx).2.2 (by decide) (show valC X = valC oneM by rw [valC_mul hx, valC_adj ha, vA, (fbV_ok ok).1, valC_one])]
/-- The fibre back undoes it. -/
theorem fb_one {ls : List L4} {A B X : F4} (h : fbM ls = some A) (hb : fbM (backM ls) = some B) (hx : mulM B A = some X) : X = oneM := by
  obtain ⟨ok, oA, vA⟩ := fbM_okFb h
  obtain ⟨-, oB, vB⟩ := fbM_okFb hb
  refine valC_uniq (mulM_ok hx).2.2 (by decide) ?_
  rw [valC_mul hx, vA, vB, (fbV_back (fun s hs => okFb_mem ok hs)).1, (fbV_ok ok).2, valC_one]
theorem runM_some {ls : List L4} {v o : F3 × F3} (h : runM ls v = some o) : okFb ls = true ∧ (okT o.1 = true ∧ okT o.2 = true) ∧ (okT v.1 = true ∧ okT v.2 = true) ∧ valV o = (fbV ls).app (valV v) := by
  unfold runM at h
  cases e : fbM ls with
  | none => rw [e] at h; cases h
  | some A =>
    rw [e] at h
    obtain ⟨ok, oA, vA⟩ := fbM_okFb e
    have h' : appM A v = some o := h
    exact ⟨ok, (fbApp_ok h').1, (fbApp_ok h').2, by rw [valV_app h', vA]⟩
/-- What went through comes back. -/
theorem run_back {ls : List L4} {v o x : F3 × F3} (h : runM ls v = some o) (hx : runM (backM ls) o = some x) : x = v := by
  obtain ⟨ok, o1, o2, e⟩ := runM_some h
  obtain ⟨-, p1, p2, f⟩ := runM_some hx
  refine valV_uniq p1 o2 ?_
  rw [f, e, ← CM.app_app, (fbV_back (fun s hs => okFb_mem ok hs)).1, (fbV_ok ok).2, CM.one_app]
theorem run_power {ls : List L4} {v o : F3 × F3} {n m : F3} (h : runM ls v = some o) (hn : pT v.1 v.2 = some n) (hm : pT o.1 o.2 = some m) : n = m := by
  obtain ⟨ok, o1, o2, e⟩ := runM_some h
  obtain ⟨p1, p2, p3⟩ := pT_ip hn
  obtain ⟨q1, q2, q3⟩ := pT_ip hm
  have e' : valV (o.1, o.2) = (fbV ls).app (valV (v.1, v.2)) := e
  refine uniqT p1 q1 ?_ (p3.trans q3.symm)
  rw [p2, q2, e', CM.norm (fbV_ok ok).2]

theorem dark_val {v : F3 × F3} (o : okT v.1 = true ∧ okT v.2 = true) : darkB v.1.1 v.1.2.1 v.1.2.2 v.2.1 v.2.2.1 v.2.2.2 = true ↔ valV v = (⟨0, 0⟩, ⟨0, 0⟩) := by
  rw [dark_iff]
  simp only [valV, valSecT, Prod.mk.injEq, CR.mk.injEq]
  show _ ↔ (rv v.1.1 v.1.2.2 = 0 ∧ rv v.1.2.1 v.1.2.2 = 0) ∧ (rv v.2.1 v.2.2.2 = 0 ∧ rv v.2.2.1 v.2.2.2 = 0)
  rw [rv_is0 (okF_den o.1), rv_is0 (okF_den o.1), rv_is0 (okF_den o.2), rv_is0 (okF_den o.2), and_assoc]
theorem timesI_told {u : F3} (h : okT u = true) : ∃ w, tT u (0, 1, 1) = some w ∧ okT w = true ∧ reT w = -imT u ∧ imT w = reT u := by
  obtain ⟨⟨a1, a2⟩, ⟨b1, b2⟩, c1, c2⟩ := okF_bd (x := u.1) (y := u.2.1) (z := u.2.2) h
  have r0 : reT (0, 1, 1) = 0 := rv_zero 1
  have r1 : imT (0, 1, 1) = 1 := rv_one 1
  obtain ⟨w, h1, h2, h3, h4⟩ := tT_told (u := u) (v := (0, 1, 1)) (x := -u.2.1) (y := u.1) (d := u.2.2) h (by decide) ⟨c1, c2⟩ ⟨by omega, by omega⟩ ⟨a1, a2⟩
    (by rw [r0, r1, rv_neg]; show reT u * 0 - imT u * 1 = -imT u; grind) (by rw [r0, r1]; show reT u * 1 + imT u * 0 = reT u; grind)
  refine ⟨w, h1, h2, ?_, h4⟩
  rw [h3, rv_neg]
  rfl
/-- Turned by a quarter. -/
def CR.turn (v : CR × CR) : CR × CR := (⟨-v.1.im, v.1.re⟩, ⟨-v.2.im, v.2.re⟩)
theorem CM.app_turn (m : CM) (v : CR × CR) : m.app (CR.turn v) = CR.turn (m.app v) := by
  obtain ⟨⟨a1, a2⟩, ⟨a3, a4⟩, ⟨a5, a6⟩, ⟨a7, a8⟩⟩ := m
  obtain ⟨⟨c1, c2⟩, ⟨c3, c4⟩⟩ := v
  refine Prod.ext ?_ ?_ <;> refine CR.eq ?_ ?_ <;> simp only [CR.turn, CR.mac, CM.app] <;> grind
theorem turn_zero {v : CR × CR} (h : CR.turn v = (⟨0, 0⟩, ⟨0, 0⟩)) : v = (⟨0, 0⟩, ⟨0, 0⟩) := by
  obtain ⟨⟨a, b⟩, c, d⟩ := v
  simp only [CR.turn, Prod.mk.injEq, CR.mk.injEq] at h ⊢
  obtain ⟨⟨h1, h2⟩, h3, h4⟩ := h
  exact ⟨⟨h2, by grind⟩, h4, by grind⟩
theorem turn_told {v : F3 × F3} (o : okT v.1 = true ∧ okT v.2 = true) : ∃ t, jtimesF v.1.1 v.1.2.1 v.1.2.2 v.2.1 v.2.2.1 v.2.2.2 0 1 1 = some t ∧ (okT t.1 = true ∧ okT t.2 = true) ∧ valV t = CR.turn (valV v) := by
  obtain ⟨x, e1, h1, a1, b1⟩ := timesI_told o.1
  obtain ⟨y, e2, h2, a2, b2⟩ := timesI_told o.2
  refine ⟨(x, y), pair_of e1 e2, ⟨h1, h2⟩, ?_⟩
  refine Prod.ext ?_ ?_ <;> refine CR.eq ?_ ?_ <;> assumption
/-- The products of both numbers of one and the other vector are the same. -/
def CR.crs (v u : CR × CR) : Prop := v.1.re * u.2.re - v.1.im * u.2.im = v.2.re * u.1.re - v.2.im * u.1.im ∧ v.1.re * u.2.im + v.1.im * u.2.re = v.2.re * u.1.im + v.2.im * u.1.re
theorem alike_out {v u : F3 × F3} (h : alikeF v.1.1 v.1.2.1 v.1.2.2 v.2.1 v.2.2.1 v.2.2.2 u.1.1 u.1.2.1 u.1.2.2 u.2.1 u.2.2.1 u.2.2.2 = true) :
    CR.crs (valV v) (valV u) ∧ darkB v.1.1 v.1.2.1 v.1.2.2 v.2.1 v.2.2.1 v.2.2.2 = darkB u.1.1 u.1.2.1 u.1.2.2 u.2.1 u.2.2.1 u.2.2.2 := by
  cases e1 : timesF v.1.1 v.1.2.1 v.1.2.2 u.2.1 u.2.2.1 u.2.2.2 with
  | none => rw [alike_none1 e1] at h; cases h
  | some r =>
    cases e2 : timesF v.2.1 v.2.2.1 v.2.2.2 u.1.1 u.1.2.1 u.1.2.2 with
    | none => rw [alike_none2 e2] at h; cases h
    | some s =>
      obtain ⟨r1, r2, r3⟩ := r
      obtain ⟨s1, s2, s3⟩ := s
      rw [alike_some e1 e2] at h
      simp only [Bool.and_eq_true, beq_iff_eq] at h
      obtain ⟨⟨⟨rfl, rfl⟩, rfl⟩, hd⟩ := h
      refine ⟨?_, hd⟩
      obtain ⟨-, -, -, a1, b1⟩ := times_val e1
      obtain ⟨-, -, -, a2, b2⟩ := times_val e2
      exact ⟨a1.symm.trans a2, b1.symm.trans b2⟩
theorem alike_in {v u : F3 × F3} {r s : F3} (hr : tT v.1 u.2 = some r) (hs : tT v.2 u.1 = some s) (hc : CR.crs (valV v) (valV u)) (hd : darkB v.1.1 v.1.2.1 v.1.2.2 v.2.1 v.2.2.1 v.2.2.2 = darkB u.1.1 u.1.2.1 u.1.2.2 u.2.1 u.2.2.1 u.2.2.2) :
    alikeF v.1.1 v.1.2.1 v.1.2.2 v.2.1 v.2.2.1 v.2.2.2 u.1.1 u.1.2.1 u.1.2.2 u.2.1 u.2.2.1 u.2.2.2 = true := by
  obtain ⟨-, -, o1, a1, b1⟩ := tT_val hr
  obtain ⟨-, -, o2, a2, b2⟩ := tT_val hs
  have e : r = s := uniqT o1 o2 (by rw [a1, a2]; exact hc.1) (by rw [b1, b2]; exact hc.2)
  subst e
  obtain ⟨r1, r2, r3⟩ := r
  rw [alike_some hr hs, hd]
  simp
theorem sta_some {ls : List L4} {v : F3 × F3} (h : staM ls v.1.1 v.1.2.1 v.1.2.2 v.2.1 v.2.2.1 v.2.2.2 = true) : ∃ u, runM ls v = some u ∧ darkB v.1.1 v.1.2.1 v.1.2.2 v.2.1 v.2.2.1 v.2.2.2 = false ∧ alikeF v.1.1 v.1.2.1 v.1.2.2 v.2.1 v.2.2.1 v.2.2.2 u.1.1 u.1.2.1 u.1.2.2 u.2.1 u.2.2.1 u.2.2.2 = true := by
  unfold staM at h
  cases e : runM ls ((v.1.1, v.1.2.1, v.1.2.2), (v.2.1, v.2.2.1, v.2.2.2)) with
  | none => rw [e] at h; cases h
  | some u =>
    rw [e] at h
    simp only [Bool.and_eq_true, Bool.not_eq_true'] at h
    exact ⟨u, rfl, h.1, h.2⟩
theorem sta_of {ls : List L4} {v u : F3 × F3} (h : runM ls v = some u) (hd : darkB v.1.1 v.1.2.1 v.1.2.2 v.2.1 v.2.2.1 v.2.2.2 = false) (ha : alikeF v.1.1 v.1.2.1 v.1.2.2 v.2.1 v.2.2.1 v.2.2.2 u.1.1 u.1.2.1 u.1.2.2 u.2.1 u.2.2.1 u.2.2.2 = true) : staM ls v.1.1 v.1.2.1 v.1.2.2 v.2.1 v.2.2.1 v.2.2.2 = true := by
  unfold staM
  rw [show runM ls ((v.1.1, v.1.2.1, v.1.2.2), (v.2.1, v.2.2.1, v.2.2.2)) = some u from h]
  simp only [hd, ha]
  rfl
theorem sta_ok {ls : List L4} {v : F3 × F3} (h : staM ls v.1.1 v.1.2.1 v.1.2.2 v.2.1 v.2.2.1 v.2.2.2 = true) : okT v.1 = true ∧ okT v.2 = true := by
  obtain ⟨u, h1, -⟩ := sta_some h
  exact (runM_some h1).2.2.1
/-- What stays stays turned. -/
theorem stays_turn {ls : List L4} {v t w : F3 × F3} {r s : F3} (h : staM ls v.1.1 v.1.2.1 v.1.2.2 v.2.1 v.2.2.1 v.2.2.2 = true) (ht : jtimesF v.1.1 v.1.2.1 v.1.2.2 v.2.1 v.2.2.1 v.2.2.2 0 1 1 = some t)
    (hw : runM ls t = some w) (hr : tT t.1 w.2 = some r) (hs : tT t.2 w.1 = some s) : staM ls t.1.1 t.1.2.1 t.1.2.2 t.2.1 t.2.2.1 t.2.2.2 = true := by
  obtain ⟨u, e1, hd, ha⟩ := sta_some h
  obtain ⟨hc, hdu⟩ := alike_out ha
  obtain ⟨ok, ou, ov, e⟩ := runM_some e1
  obtain ⟨-, ow, ot, f⟩ := runM_some hw
  obtain ⟨t', ht', -, et⟩ := turn_told ov
  obtain rfl : t' = t := Option.some.inj (ht'.symm.trans ht)
  rw [et, CM.app_turn, ← e] at f
  have nv : ¬ valV v = (⟨0, 0⟩, ⟨0, 0⟩) := fun k => by rw [(dark_val ov).2 k] at hd; cases hd
  have nu : ¬ valV u = (⟨0, 0⟩, ⟨0, 0⟩) := fun k => by rw [(dark_val ou).2 k] at hdu; rw [hdu] at hd; cases hd
  have dt : darkB t'.1.1 t'.1.2.1 t'.1.2.2 t'.2.1 t'.2.2.1 t'.2.2.2 = false := by
    cases q : darkB t'.1.1 t'.1.2.1 t'.1.2.2 t'.2.1 t'.2.2.1 t'.2.2.2 with
    | false => rfl
    | true => exact absurd (turn_zero (et.symm.trans ((dark_val ot).1 q))) nv
  have dw : darkB w.1.1 w.1.2.1 w.1.2.2 w.2.1 w.2.2.1 w.2.2.2 = false := by
    cases q : darkB w.1.1 w.1.2.1 w.1.2.2 w.2.1 w.2.2.1 w.2.2.2 with
    | false => rfl
    | true => exact absurd (turn_zero (f.symm.trans ((dark_val ow).1 q))) nu
  refine sta_of hw dt (alike_in hr hs ?_ (dt.trans dw.symm))
  rw [f, et]
  generalize valV v = V at *
  generalize valV u = U at *
  obtain ⟨⟨a1, a2⟩, a3, a4⟩ := V
  obtain ⟨⟨b1, b2⟩, b3, b4⟩ := U
  obtain ⟨c1, c2⟩ := hc
  simp only [CR.crs, CR.turn] at c1 c2 ⊢
  exact ⟨by grind, by grind⟩
theorem CM.pow_inv {m n : CM} (h : n.mul m = CM.one) (k : Nat) : (n.pow k).mul (m.pow k) = CM.one := by
  induction k with
  | zero => exact CM.one_mul _
  | succ k ih =>
    rw [CM.pow_add n k 1, show CM.pow n 1 = n from CM.mul_one _]
    show ((n.pow k).mul n).mul (m.mul (m.pow k)) = _
    rw [CM.assoc, ← CM.assoc n, h, CM.one_mul, ih]
theorem alk_one {X : F4} (h : alkM X oneM = true) : ∃ c : CR, valC X = ⟨c, ⟨0, 0⟩, ⟨0, 0⟩, c⟩ := by
  obtain ⟨a, b, c, d⟩ := X
  obtain ⟨hm, -, -, h1, h2, -, h3, -⟩ := alk_some (show alkM (a, b, c, d) ((1, 0, 1), (0, 0, 1), (0, 0, 1), (1, 0, 1)) = true from h)
  have ro : reT (1, 0, 1) = 1 := rv_one 1
  have io : imT (1, 0, 1) = 0 := rv_zero 1
  have rz : reT (0, 0, 1) = 0 := rv_zero 1
  have iz : imT (0, 0, 1) = 0 := rv_zero 1
  have key : ∀ {u v s t : F3}, crsM u v s t = true → reT u * reT t - imT u * imT t = reT v * reT s - imT v * imT s ∧ reT u * imT t + imT u * reT t = reT v * imT s + imT v * reT s := by
    intro u v s t hh
    unfold crsM at hh
    cases e : tT u t with
    | none => rw [e] at hh; cases hh
    | some r =>
      rw [e] at hh
      simp only [Option.isSome_some, Bool.true_and, beq_iff_eq] at hh
      obtain ⟨-, -, -, a1, b1⟩ := tT_val e
      obtain ⟨-, -, -, a2, b2⟩ := tT_val hh.symm
      exact ⟨a1.symm.trans a2, b1.symm.trans b2⟩
  obtain ⟨p1, p2⟩ := key h1
  obtain ⟨q1, q2⟩ := key h2
  obtain ⟨r1, r2⟩ := key h3
  rw [ro, io, rz, iz] at p1 p2 q1 q2
  rw [ro, io] at r1 r2
  refine ⟨valSecT a, CM.eq rfl ?_ ?_ ?_⟩ <;> refine CR.eq ?_ ?_ <;> simp only [valC, valSecT] <;> grind
theorem ordG_out {A : F4} {F : CM} (hA : valC A = F) : ∀ (k : Nat) {X : F4} {j : Nat} {n : Int}, valC X = F.pow j → j + k = 25 → ordG A k X = n → n ≠ 0 → ∃ m : Nat, n = m ∧ j ≤ m ∧ m ≤ 24 ∧ ∃ Y, valC Y = F.pow m ∧ alkM Y oneM = true
  | 0, X, j, n, hX, hj, h, h0 => absurd (h.symm.trans (ordG_zero A X)) h0
  | k + 1, X, j, n, hX, hj, h, h0 => by
    cases ha : alkM X oneM with
    | true =>
      rw [ordG_yes ha] at h
      exact ⟨j, by omega, Nat.le_refl _, by omega, X, hX, ha⟩
    | false =>
      cases e : mulM A X with
      | none => rw [ordG_none ha e] at h; exact absurd h.symm h0
      | some Y =>
        rw [ordG_some ha e] at h
        obtain ⟨m, h1, h2, h3, h4⟩ := ordG_out hA k (X := Y) (j := j + 1) (show valC Y = F.pow (j + 1) by rw [valC_mul e, hA, hX]; rfl) (by omega) h h0
        exact ⟨m, h1, by omega, h3, h4⟩
theorem ordM_out {ls : List L4} {n : Int} (h : ordM ls = some n) (h0 : n ≠ 0) : okFb ls = true ∧ ∃ m : Nat, n = m ∧ 1 ≤ m ∧ m ≤ 24 ∧ ∃ Y, valC Y = (fbV ls).pow m ∧ alkM Y oneM = true := by
  unfold ordM at h
  cases e : fbM ls with
  | none => rw [e] at h; cases h
  | some A =>
    rw [e] at h
    obtain ⟨ok, oA, vA⟩ := fbM_okFb e
    exact ⟨ok, ordG_out vA 24 (show valC A = (fbV ls).pow 1 from vA.trans (CM.mul_one _).symm) rfl (Option.some.inj h) h0⟩
theorem ordM_bd {ls : List L4} {n : Int} (h : ordM ls = some n) : 0 ≤ n ∧ n ≤ 24 := by
  by_cases h0 : n = 0
  · omega
  · obtain ⟨-, m, h1, h2, h3, -⟩ := ordM_out h h0
    omega
/-- Behind as many times as the order a vector is alike. -/
theorem ord_alike {ls : List L4} {n : Nat} {v w : F3 × F3} {r s : F3} (h : ordM ls = some (n : Int)) (h0 : n ≠ 0) (ov : okT v.1 = true ∧ okT v.2 = true) (ow : okT w.1 = true ∧ okT w.2 = true)
    (hd : darkB v.1.1 v.1.2.1 v.1.2.2 v.2.1 v.2.2.1 v.2.2.2 = false) (hw : valV w = ((fbV ls).pow n).app (valV v)) (hr : tT v.1 w.2 = some r) (hs : tT v.2 w.1 = some s) :
    alikeF v.1.1 v.1.2.1 v.1.2.2 v.2.1 v.2.2.1 v.2.2.2 w.1.1 w.1.2.1 w.1.2.2 w.2.1 w.2.2.1 w.2.2.2 = true := by
  obtain ⟨ok, m, e, -, -, Y, hY, ha⟩ := ordM_out h (by omega)
  obtain rfl : m = n := by omega
  obtain ⟨c, hc⟩ := alk_one ha
  rw [hc] at hY
  have hi := CM.pow_inv (fbV_ok ok).2 m
  refine alike_in hr hs ?_ ?_
  · rw [hw, ← hY]
    generalize valV v = V
    obtain ⟨⟨a1, a2⟩, a3, a4⟩ := V
    obtain ⟨c1, c2⟩ := c
    simp only [CR.crs, CM.app, CR.mac]
    exact ⟨by grind, by grind⟩
  · rw [hd]
    cases q : darkB w.1.1 w.1.2.1 w.1.2.2 w.2.1 w.2.2.1 w.2.2.2 with
    | false => rfl
    | true =>
      have z := (dark_val ow).1 q
      have e2 : valV v = (((fbV ls).adj.pow m).app (valV w)) := by rw [hw, ← CM.app_app, hi, CM.one_app]
      rw [z] at e2
      have e3 : valV v = (⟨0, 0⟩, ⟨0, 0⟩) := by
        rw [e2]
        generalize (fbV ls).adj.pow m = M
        obtain ⟨⟨a1, a2⟩, ⟨a3, a4⟩, ⟨a5, a6⟩, ⟨a7, a8⟩⟩ := M
        refine Prod.ext ?_ ?_ <;> refine CR.eq ?_ ?_ <;> simp only [CR.mac, CM.app] <;> grind
      rw [(dark_val ov).2 e3] at hd
      cases hd
end Go.Proofs.YtkdkeacfifjjoaaGreatDoor
