/-
  Short fibres: values, the draw, lists compared.
-/
import Derived.Test.YtkiggkmbgkonmabDoorSecBeat
import Derived.Test.YtkiggkmbgkonmabDoorSecShort
import Derived.Test.YtkiggkmbgkonmabDoorBDrawF
import Derived.Test.YtkiggkmbgkonmabDoorBMem
import Derived.Test.YtkiggkmbgkonmabDoorSpecG8
import Derived.WalkKit
import Derived.OwnWalk
import Derived.Laws.AppendOwn
import Derived.Test.YtkiggkmbgkonmabDoorWr
import Derived.Test.YtkiggkmbgkonmabDoorBLawS
import Derived.Deep.RegionHeld3
namespace Go.Proofs.YtkiggkmbgkonmabDoor
open Go.ChangeShapes Go.WideShapes Go.ChangeAt Go.RowKit
set_option linter.unusedVariables false

/-- A complex rational number. -/
structure CR where
  re : Rat
  im : Rat
theorem CR.eq {a b : CR} (h1 : a.re = b.re) (h2 : a.im = b.im) : a = b := by cases a; cases b; simp_all
structure CM where
  a : CR
  b : CR
  c : CR
  d : CR
theorem CM.eq {m n : CM} (h1 : m.a = n.a) (h2 : m.b = n.b) (h3 : m.c = n.c) (h4 : m.d = n.d) : m = n := by cases m; cases n; simp_all
def CR.mac (a b c d : CR) : CR := ⟨a.re * b.re - a.im * b.im + (c.re * d.re - c.im * d.im), a.re * b.im + a.im * b.re + (c.re * d.im + c.im * d.re)⟩
def CM.mul (m n : CM) : CM := ⟨.mac m.a n.a m.b n.c, .mac m.a n.b m.b n.d, .mac m.c n.a m.d n.c, .mac m.c n.b m.d n.d⟩
def CM.one : CM := ⟨⟨1, 0⟩, ⟨0, 0⟩, ⟨0, 0⟩, ⟨1, 0⟩⟩
theorem CM.assoc (m n o : CM) : (m.mul n).mul o = m.mul (n.mul o) := by
  obtain ⟨⟨a1, a2⟩, ⟨a3, a4⟩, ⟨a5, a6⟩, ⟨a7, a8⟩⟩ := m
  obtain ⟨⟨b1, b2⟩, ⟨b3, b4⟩, ⟨b5, b6⟩, ⟨b7, b8⟩⟩ := n
  obtain ⟨⟨c1, c2⟩, ⟨c3, c4⟩, ⟨c5, c6⟩, ⟨c7, c8⟩⟩ := o
  refine CM.eq ?_ ?_ ?_ ?_ <;> refine CR.eq ?_ ?_ <;> simp only [CM.mul, CR.mac] <;> grind
theorem CM.one_mul (m : CM) : CM.one.mul m = m := by
  obtain ⟨⟨a1, a2⟩, ⟨a3, a4⟩, ⟨a5, a6⟩, ⟨a7, a8⟩⟩ := m
  refine CM.eq ?_ ?_ ?_ ?_ <;> refine CR.eq ?_ ?_ <;> simp only [CM.mul, CR.mac, CM.one] <;> grind
theorem CM.mul_one (m : CM) : m.mul CM.one = m := by
  obtain ⟨⟨a1, a2⟩, ⟨a3, a4⟩, ⟨a5, a6⟩, ⟨a7, a8⟩⟩ := m
  refine CM.eq ?_ ?_ ?_ ?_ <;> refine CR.eq ?_ ?_ <;> simp only [CM.mul, CR.mac, CM.one] <;> grind
def CM.pow (m : CM) : Nat → CM
  | 0 => CM.one
  | n + 1 => m.mul (m.pow n)
theorem CM.pow_add (m : CM) (j k : Nat) : m.pow (j + k) = (m.pow j).mul (m.pow k) := by
  induction j with
  | zero => rw [Nat.zero_add]; exact (CM.one_mul _).symm
  | succ j ih => rw [Nat.succ_add]; show m.mul (m.pow (j + k)) = (m.mul (m.pow j)).mul (m.pow k); rw [ih, CM.assoc]
theorem CM.pow_one_of {m : CM} {b : Nat} (h : m.pow b = CM.one) (k : Nat) : m.pow (b * k) = CM.one := by
  induction k with
  | zero => rfl
  | succ k ih => rw [Nat.mul_succ, CM.pow_add, ih, h, CM.one_mul]
theorem CM.pow_mod {m : CM} {b : Nat} (h : m.pow b = CM.one) (t : Nat) : m.pow (t % b) = m.pow t := by
  conv => rhs; rw [← Nat.div_add_mod t b, CM.pow_add, CM.pow_one_of h, CM.one_mul]
/-- What a fraction, a matrix is worth. -/
def valSecT (u : F3) : CR := ⟨reT u, imT u⟩
def valC (A : F4) : CM := ⟨valSecT A.1, valSecT A.2.1, valSecT A.2.2.1, valSecT A.2.2.2⟩
theorem valC_mul {A B X : F4} (h : mulM A B = some X) : valC X = (valC A).mul (valC B) := by
  obtain ⟨a, b, c, d⟩ := A
  obtain ⟨i, j, k, l⟩ := B
  obtain ⟨x, y, z, u⟩ := X
  obtain ⟨e1, e2, e3, e4⟩ := mulM_some h
  obtain ⟨-, -, -, -, -, a1, b1⟩ := inT_val e1
  obtain ⟨-, -, -, -, -, a2, b2⟩ := inT_val e2
  obtain ⟨-, -, -, -, -, a3, b3⟩ := inT_val e3
  obtain ⟨-, -, -, -, -, a4, b4⟩ := inT_val e4
  refine CM.eq ?_ ?_ ?_ ?_ <;> refine CR.eq ?_ ?_ <;> simp only [valC, valSecT, CM.mul, CR.mac] <;> grind
theorem valC_one : valC oneM = CM.one := by
  have ro : reT (1, 0, 1) = 1 := rv_one 1
  have io : imT (1, 0, 1) = 0 := rv_zero 1
  have rz : reT (0, 0, 1) = 0 := rv_zero 1
  have iz : imT (0, 0, 1) = 0 := rv_zero 1
  refine CM.eq ?_ ?_ ?_ ?_ <;> refine CR.eq ?_ ?_ <;> simp only [valC, valSecT, oneM, CM.one] <;> assumption
theorem valC_uniq {A B : F4} (ha : okM A = true) (hb : okM B = true) (h : valC A = valC B) : A = B := by
  obtain ⟨a, b, c, d⟩ := A
  obtain ⟨i, j, k, l⟩ := B
  obtain ⟨o1, o2, o3, o4⟩ := okM_of ha
  obtain ⟨p1, p2, p3, p4⟩ := okM_of hb
  simp only [valC, valSecT, CM.mk.injEq, CR.mk.injEq] at h
  obtain ⟨⟨h1, h2⟩, ⟨h3, h4⟩, ⟨h5, h6⟩, h7, h8⟩ := h
  rw [uniqT o1 p1 h1 h2, uniqT o2 p2 h3 h4, uniqT o3 p3 h5 h6, uniqT o4 p4 h7 h8]
/-- The rational plate: what the plate of a direction and a phase is worth. -/
def plaV (p q k : Int) : CM := valC ((plaM p q k).getD oneM)
theorem plaV_of {p q k : Int} {P : F4} (h : plaM p q k = some P) : plaV p q k = valC P := by unfold plaV; rw [h]; rfl
theorem plaV_mul {p q j k : Int} (hd : dirB p q = true) (hj : inB j 0 3 = true) (hk : inB k 0 3 = true) : (plaV p q j).mul (plaV p q k) = plaV p q ((j + k) % 4) := by
  obtain ⟨n1, n2, n3⟩ := pha_add hj hk
  obtain ⟨w, x, y, z, C, S, h1, h2, hC, hS, sq, r1, i1, r2, i2, r3, i3, r4, i4⟩ := pla_val hd hj
  obtain ⟨w', x', y', z', C', S', h1', h2', hC', hS', sq', r1', i1', r2', i2', r3', i3', r4', i4'⟩ := pla_val hd hk
  obtain ⟨w2, x2, y2, z2, C2, S2, h12, h22, hC2, hS2, sq2, r12, i12, r22, i22, r32, i32, r42, i42⟩ := pla_val hd n1
  have eC : C' = C := by rw [hC', hC]
  have eS : S' = S := by rw [hS', hS]
  have eC2 : C2 = C := by rw [hC2, hC]
  have eS2 : S2 = S := by rw [hS2, hS]
  subst eC eS eC2 eS2
  have u2 : (phr ((j + k) % 4) : Rat) = (phr j : Rat) * (phr k : Rat) - (phi j : Rat) * (phi k : Rat) := by rw [n2, Rat.intCast_sub, Rat.intCast_mul, Rat.intCast_mul]
  have v2 : (phi ((j + k) % 4) : Rat) = (phr j : Rat) * (phi k : Rat) + (phi j : Rat) * (phr k : Rat) := by rw [n3, Rat.intCast_add, Rat.intCast_mul, Rat.intCast_mul]
  rw [u2] at r12 r22 r32 r42
  rw [v2] at i12 i22 i32 i42
  rw [plaV_of h1, plaV_of h1', plaV_of h12]
  generalize (phr j : Rat) = U at *
  generalize (phi j : Rat) = V at *
  generalize (phr k : Rat) = U' at *
  generalize (phi k : Rat) = V' at *
  clear h1 h1' h12 h2 h2' h22 hC hS hC' hS' hC2 hS2 n2 n3 u2 v2 sq' sq2
  refine CM.eq ?_ ?_ ?_ ?_ <;> refine CR.eq ?_ ?_ <;> simp only [valC, valSecT, CM.mul, CR.mac, r1, i1, r2, i2, r3, i3, r4, i4, r1', i1', r2', i2', r3', i3', r4', i4', r12, i12, r22, i22, r32, i32, r42, i42] <;> grind
theorem plaV_0 {p q : Int} (hd : dirB p q = true) : plaV p q 0 = CM.one := by rw [plaV_of (pla_0 hd), valC_one]
theorem plaV_pow {p q k : Int} (hd : dirB p q = true) (hk : inB k 0 3 = true) : ∀ n : Nat, (plaV p q k).pow n = plaV p q ((n * k) % 4)
  | 0 => by rw [show (((0 : Nat) : Int) * k) % 4 = 0 by simp, plaV_0 hd]; rfl
  | n + 1 => by
    have hr : inB ((n * k) % 4) 0 3 = true := by
      unfold inB
      exact decide_eq_true ⟨by omega, by omega⟩
    show (plaV p q k).mul ((plaV p q k).pow n) = _
    rw [plaV_pow hd hk n, plaV_mul hd hk hr]
    congr 1
    have : (((n + 1 : Nat) : Int)) * k = n * k + k := by rw [Int.natCast_add, Int.add_mul]; simp
    rw [this]
    omega
theorem plaV_beat {p q k : Int} (hd : dirB p q = true) (hk : inB k 0 3 = true) : (plaV p q k).pow (beatI k).toNat = CM.one := by
  rw [plaV_pow hd hk, show (((beatI k).toNat : Int) * k) % 4 = 0 by rcases pha_in hk with rfl | rfl | rfl | rfl <;> decide, plaV_0 hd]
/-- What a section, a fibre is worth. -/
def secV (s : L4) : CM := (plaV s.1.1 s.1.2.1 s.1.2.2).pow s.2.toNat
def fbV (ls : List L4) : CM := ls.foldl (fun m s => (secV s).mul m) CM.one
theorem fbV_snoc (ls : List L4) (s : L4) : fbV (ls ++ [s]) = (secV s).mul (fbV ls) := by unfold fbV; rw [List.foldl_append]; rfl
theorem secV_of {s : L4} {A B : F4} (h : secM s A = some B) : valC B = (secV s).mul (valC A) := by
  unfold secM at h
  cases e : plaM s.1.1 s.1.2.1 s.1.2.2 with
  | none => rw [e] at h; cases h
  | some P =>
    rw [e] at h
    unfold secV
    rw [plaV_of e]
    have key : ∀ (n : Nat) {X : F4}, pwM P n A = some X → valC X = ((valC P).pow n).mul (valC A) := by
      intro n
      induction n with
      | zero => intro X hX; cases hX; exact (CM.one_mul _).symm
      | succ n ih =>
        intro X hX
        unfold pwM at hX
        cases e2 : pwM P n A with
        | none => rw [e2] at hX; cases hX
        | some Y =>
          rw [e2] at hX
          rw [valC_mul hX, ih e2, ← CM.assoc]
          rfl
    exact key _ h
theorem fbV_of {ls : List L4} {A : F4} (h : fbF ls (some oneM) = some A) : valC A = fbV ls := by
  have key : ∀ (ls : List L4) (M : CM) (o : Option F4), (∀ B, o = some B → valC B = M) → ∀ A, fbF ls o = some A → valC A = ls.foldl (fun m s => (secV s).mul m) M := by
    intro ls
    induction ls with
    | nil => intro M o ho A hA; exact ho A hA
    | cons s r ih =>
      intro M o ho A hA
      refine ih ((secV s).mul M) (o.bind (secM s)) ?_ A hA
      intro B hB
      cases o with
      | none => cases hB
      | some C => rw [secV_of hB, ho C rfl]
  exact key ls CM.one (some oneM) (fun B hB => by cases hB; exact valC_one) A h
theorem secV_rest {s : L4} (h : okS s = true) {x : Int} (hx : 0 ≤ x) : secV (s.1, x % beatI s.1.2.2) = (plaV s.1.1 s.1.2.1 s.1.2.2).pow x.toNat := by
  obtain ⟨⟨p, q, k⟩, t⟩ := s
  obtain ⟨hd, hk, -⟩ := okS_out h
  unfold secV
  show (plaV p q k).pow (x % beatI k).toNat = (plaV p q k).pow x.toNat
  have hb := beat_pos k
  rw [← CM.pow_mod (plaV_beat hd hk) x.toNat]
  congr 1
  obtain ⟨n, rfl⟩ := Int.eq_ofNat_of_zero_le hx
  obtain ⟨m, hm⟩ := Int.eq_ofNat_of_zero_le (show 0 ≤ beatI k by omega)
  rw [hm]
  simp only [Int.toNat_natCast]
  rw [← Int.natCast_emod, Int.toNat_natCast]
/-- A section put behind others: the same fibre. -/
theorem putE_val {rs : List L4} {s : L4} (hr : ∀ r ∈ rs, okS r = true) (hs : okS s = true) : fbV (putE rs s).reverse = (secV s).mul (fbV rs.reverse) := by
  have ht : 0 ≤ s.2 := by obtain ⟨⟨p, q, k⟩, t⟩ := s; exact (okS_out hs).2.2.1
  have h0 : ∀ x, 0 ≤ x → x % beatI s.1.2.2 = 0 → (plaV s.1.1 s.1.2.1 s.1.2.2).pow x.toNat = CM.one := fun x hx h => by rw [← secV_rest hs hx, h]; rfl
  unfold putE
  split
  · split
    · rename_i h
      show fbV [] = _
      unfold secV
      rw [h0 _ ht h, CM.one_mul]
      rfl
    · show fbV ([] ++ [(s.1, s.2 % beatI s.1.2.2)]) = _
      rw [fbV_snoc, secV_rest hs ht]
      rfl
  · rename_i r rest
    have hu : 0 ≤ r.2 := by
      have := hr r (List.mem_cons_self ..)
      obtain ⟨⟨p, q, k⟩, t⟩ := r
      exact (okS_out this).2.2.1
    split
    · rename_i he
      have hsum : (plaV s.1.1 s.1.2.1 s.1.2.2).pow (s.2 + r.2).toNat = (secV s).mul (secV r) := by
        unfold secV
        rw [he, ← CM.pow_add, Int.toNat_add ht hu]
      split
      · rename_i h
        rw [List.reverse_cons, fbV_snoc, ← CM.assoc, ← hsum, h0 _ (by omega) h, CM.one_mul]
      · rw [List.reverse_cons, List.reverse_cons, fbV_snoc, fbV_snoc, secV_rest hs (by omega), hsum, CM.assoc]
    · split
      · rename_i h
        unfold secV
        rw [h0 _ ht h, CM.one_mul]
      · rw [List.reverse_cons, fbV_snoc, secV_rest hs ht]
        rfl
theorem shoE_val {ls : List L4} (h : ∀ s ∈ ls, okS s = true) : fbV (shoE ls).reverse = fbV ls := by
  have key : ∀ (ls acc : List L4) (M : List L4), (∀ s ∈ ls, okS s = true) → (∀ r ∈ acc, okS r = true) → fbV acc.reverse = fbV M → fbV (ls.foldl putE acc).reverse = fbV (M ++ ls) := by
    intro ls
    induction ls with
    | nil => intro acc M _ _ hM; rw [List.append_nil]; exact hM
    | cons s r ih =>
      intro acc M hs ha hM
      have e := ih (putE acc s) (M ++ [s]) (fun x hx => hs x (List.mem_cons_of_mem _ hx)) (putE_ok ha (hs s (List.mem_cons_self ..))) (by rw [putE_val ha (hs s (List.mem_cons_self ..)), fbV_snoc, hM])
      rw [List.foldl_cons, e, List.append_assoc]
      rfl
  have := key ls [] [] h (fun r hr => by cases hr) rfl
  rwa [List.nil_append] at this
theorem fbF_okV {ls : List L4} {A : F4} (h : fbF ls (some oneM) = some A) : okM A = true := by
  have key : ∀ (m : F4) (n : Nat) {B C : F4}, okM B = true → pwM m n B = some C → okM C = true := by
    intro m n
    induction n with
    | zero => intro B C hB h; injection h with h; rw [← h]; exact hB
    | succ n ih =>
      intro B C hB h
      unfold pwM at h
      cases e : pwM m n B with
      | none => rw [e] at h; cases h
      | some D => rw [e] at h; exact (mulM_ok h).2.2
  have key2 : ∀ (s : L4) {B C : F4}, okM B = true → secM s B = some C → okM C = true := by
    intro s B C hB h
    unfold secM at h
    cases e : plaM s.1.1 s.1.2.1 s.1.2.2 with
    | none => rw [e] at h; cases h
    | some m => rw [e] at h; exact key m _ hB h
  have key3 : ∀ (ls : List L4) (o : Option F4), (∀ A, o = some A → okM A = true) → ∀ A, fbF ls o = some A → okM A = true := by
    intro ls
    induction ls with
    | nil => intro o ho A h; exact ho A h
    | cons s r ih =>
      intro o ho A h
      refine ih _ ?_ A h
      intro B hB
      cases o with
      | none => cases hB
      | some D => exact key2 s (ho D rfl) hB
  exact key3 ls _ (fun A h => by cases h; decide) A h
/-- The matrices of a fibre and of its short one, if both are told. -/
theorem short_mat {ls : List L4} {A B : F4} (ha : fbM ls = some A) (hb : fbM (shoE ls).reverse = some B) : A = B := by
  have hok : okFb ls = true := by
    cases e : okFb ls with
    | true => rfl
    | false => rw [fbM_no e] at ha; cases ha
  have hok2 : okFb (shoE ls).reverse = true := by
    cases e : okFb (shoE ls).reverse with
    | true => rfl
    | false => rw [fbM_no e] at hb; cases hb
  rw [fbM_yes hok] at ha
  rw [fbM_yes hok2] at hb
  refine valC_uniq (fbF_okV ha) (fbF_okV hb) ?_
  rw [fbV_of ha, fbV_of hb, shoE_val (fun s hs => okFb_mem hok hs)]
/-- A list (the last one first) that is short: neighbours have other plates, times are less than the beat. -/
def Shrt : List L4 → Prop
  | [] => True
  | s :: r => (¬ s.2 % beatI s.1.2.2 = 0 ∧ s.2 % beatI s.1.2.2 = s.2) ∧ (∀ x ∈ r.head?, ¬ x.1 = s.1) ∧ Shrt r
theorem Shrt.tail {s : L4} {r : List L4} (h : Shrt (s :: r)) : Shrt r := h.2.2
theorem rest_rest (x k : Int) : (x % beatI k) % beatI k = x % beatI k := Int.emod_emod_of_dvd x (Int.dvd_refl _)
theorem Shrt.put {rs : List L4} {s : L4} (h : Shrt rs) : Shrt (putE rs s) := by
  unfold putE
  split
  · split
    · trivial
    · rename_i h0
      exact ⟨⟨by show ¬ (s.2 % beatI s.1.2.2) % beatI s.1.2.2 = 0; rw [rest_rest]; exact h0, rest_rest _ _⟩, (fun x hx => by cases hx), trivial⟩
  · rename_i r rest
    split
    · rename_i he
      split
      · exact h.tail
      · rename_i h0
        refine ⟨⟨by show ¬ ((s.2 + r.2) % beatI s.1.2.2) % beatI s.1.2.2 = 0; rw [rest_rest]; exact h0, rest_rest _ _⟩, fun x hx => ?_, h.tail⟩
        have := h.2.1 x hx
        rwa [he] at this
    · rename_i he
      split
      · exact h
      · rename_i h0
        refine ⟨⟨by show ¬ (s.2 % beatI s.1.2.2) % beatI s.1.2.2 = 0; rw [rest_rest]; exact h0, rest_rest _ _⟩, fun x hx => ?_, h⟩
        cases hx
        exact he
theorem shoE_shrt (ls : List L4) : Shrt (shoE ls) := by
  have key : ∀ (ls acc : List L4), Shrt acc → Shrt (ls.foldl putE acc) := by
    intro ls
    induction ls with
    | nil => intro acc h; exact h
    | cons s r ih => intro acc h; exact ih _ h.put
  exact key ls [] trivial
/-- A short list is left as it is. -/
theorem shoE_of_shrt : ∀ {rs : List L4}, Shrt rs → shoE rs.reverse = rs
  | [], _ => rfl
  | s :: r, h => by
    rw [List.reverse_cons, shoE_snoc, shoE_of_shrt h.tail]
    obtain ⟨⟨h0, h1⟩, h2, h3⟩ := h
    cases r with
    | nil => rw [putE_nil1 h0, h1]
    | cons x rest => rw [putE_ne1 (h2 x rfl) h0, h1]
theorem shoE_idem (ls : List L4) : shoE (shoE ls).reverse = shoE ls := shoE_of_shrt (shoE_shrt ls)

set_option linter.unusedSimpArgs false
theorem only_grownN {a w w' : World} {b : Nat} {row : Option Nat} (h : Only b a w) (hg : w.grownBy w' row) (hr : ∀ k, row = some k → a.heap.size ≤ k) : Only b a w' :=
  ⟨hg.os.trans h.os, hg.tape.trans h.tape, hg.output.trans h.output, Nat.le_trans h.size hg.size, fun k hk hb => (hg.block k (Nat.lt_of_lt_of_le hk h.size) (fun e => by have := hr k e.symm; omega)).trans (h.block k hk hb)⟩
theorem own_onlyN {w w' : World} {b B sz n : Nat} {e : TypeId} {v : Value} {xs : List Value} (h : w.ownsRow B e sz v n xs) (ho : Only b w w') (hb : b < B) : w'.ownsRow B e sz v n xs := by
  refine ⟨h.1, ?_⟩
  rcases h.2 with hn | ⟨g, cap, cur, rfl, hB, hg, rest⟩
  · exact .inl hn
  · exact .inr ⟨g, cap, cur, rfl, hB, (ho.block g (Array.getElem?_eq_some_iff.1 hg).1 (by omega)).trans hg, rest⟩
/-- A drawn fibre: a row of its own. -/
def DrewFb (b p : Nat) (w : World) (e : Ending) (w' : World) : Prop :=
  ∃ (v : Value) (ls : List L4) (q : Nat), e = .returned v ∧ v ≠ .slice none 0 0 ∧ w'.ownsRow w.heap.size 26 4 v ls.length (layC ls) ∧ (∀ l ∈ ls, i64L l) ∧ ls.length ≤ 7 ∧ Only b w w' ∧ q ≤ p + 20 ∧ Rd w' b q
set_option maxRecDepth 100000 in
set_option maxHeartbeats 16000000 in
theorem fibre_any (b p : Nat) (w : World) (h : Rd w b p) (hp : p < 999800) :
    Calls Tryd.prog 42 #[.pointer (some ⟨b, 0, none⟩)] w (DrewFb b p w) := by
  have hbw : b < w.heap.size := h.1
  have H0 := Lib.hid fun W (k : Below w.heap.size w W) => h.keep (Below.mono k hbw)
  clear h
  obtain ⟨i0, hi0, hz0, hz1, hz2⟩ := info_parts info_section
  go_enter Tryd.func42, Tryd.ntmps42
  go_wp2_with fail
  refine (pick_any b p 4 _ (H0.out _ (show Acc w _ by repeat' (first | (with_reducible first | assumption | exact Acc.refl _ | refine Acc.drew ?_ | refine Acc.drewN ?_ _ | refine Acc.alloc ?_ _ | refine Acc.setCell ?_ ?_ _) | (refine leB ?_; omega)))) (by omega) (by omega) (by omega)).mono ?_
  rintro e W1 ⟨n, rfl, hn0, hn1, ho, hr⟩
  have hown : W1.ownsRow w.heap.size 26 4 (.slice (some ⟨w.heap.size, 0, none⟩) 0 0) 0 [] := own_onlyN (World.ownsRow_made w #[] 0 (Nat.le_refl _) (by decide) rfl) ho hbw
  have oa : Only b w W1 := Only.trans (by repeat' (first | (with_reducible first | assumption | exact Only.refl _ _ | refine Only.drew ?_ | refine Only.alloc ?_ _ | refine Only.setCell ?_ ?_ _ | (refine Only.call ?_ ?_; rotate_left; assumption)) | (refine leB ?_; omega))) ho
  clear ho H0
  obtain ⟨N, rfl⟩ : ∃ N : Nat, n = N := ⟨n.toNat, by omega⟩
  go_wp2_with fail
  go_loopw [5, 3] (fun i v wr => ∃ (k q : Nat) (ls : List L4), i = .int .i64 k ∧ k ≤ N ∧ ls.length ≤ 2 * k ∧ v ≠ .slice none 0 0 ∧ wr.ownsRow w.heap.size 26 4 v ls.length (layC ls) ∧ (∀ l ∈ ls, i64L l) ∧ Only b w wr ∧ q ≤ p + 1 + 5 * k ∧ Rd wr b q) (fun i _ _ => N - (intOf i).toNat)
  case atStart => exact ⟨0, p + 1, [], rfl, Nat.zero_le _, Nat.zero_le _, (fun h => by cases h), hown, (fun l h => by cases h), oa, by omega, hr⟩
  case round =>
    clear hown oa hr
    obtain ⟨k, q, ls, rfl, hk, hlen, hnn, hown, hi4, oa, hq, hr⟩ := hrel
    have HNN := Lib.hid hnn
    clear hnn
    have ls0 := oa.size
    have HO := Lib.hid hown
    have HV := Lib.hid hi4
    clear hi4 hown
    by_cases hlt : k < N
    ·
      have hk0 : (k : Int) < (N : Int) := by omega
      go_wp2_with fail
      refine (pick_any b (q) 4 _ hr (by omega) (by omega) (by omega)).mono ?_
      rintro e W2 ⟨k0, rfl, h00, h01, ho, hr⟩
      have oa0 : Only b w W2 := Only.trans (show Only b w _ by repeat' (first | (with_reducible first | assumption | exact Only.refl _ _ | refine Only.drew ?_ | refine Only.alloc ?_ _ | refine Only.setCell ?_ ?_ _ | (refine Only.call ?_ ?_; rotate_left; assumption)) | (refine leB ?_; omega))) ho
      have O0 := own_onlyN (own_keep HO.out (show Below _ _ _ by repeat' (first | (with_reducible first | assumption | exact Below.refl _ _ | refine Below.drew ?_ | refine below_alloc ?_ ?_ _ | refine below_set ?_ ?_ _) | (refine leB ?_; omega)))) ho hbw
      have lsW2 := oa0.size
      clear ho
      go_wp2_with fail
      refine (pick_any b (q + 1) 2 _ hr (by omega) (by omega) (by omega)).mono ?_
      rintro e W3 ⟨k1, rfl, h10, h11, ho, hr⟩
      have oa1 : Only b w W3 := Only.trans (show Only b w _ by repeat' (first | (with_reducible first | assumption | exact Only.refl _ _ | refine Only.drew ?_ | refine Only.alloc ?_ _ | refine Only.setCell ?_ ?_ _ | (refine Only.call ?_ ?_; rotate_left; assumption)) | (refine leB ?_; omega))) ho
      have O1 := own_onlyN (own_keep O0 (show Below _ _ _ by repeat' (first | (with_reducible first | assumption | exact Below.refl _ _ | refine Below.drew ?_ | refine below_alloc ?_ ?_ _ | refine below_set ?_ ?_ _) | (refine leB ?_; omega)))) ho hbw
      have lsW3 := oa1.size
      clear ho
      go_wp2_with fail
      refine (pick_any b (q + 1 + 1) 4 _ hr (by omega) (by omega) (by omega)).mono ?_
      rintro e W4 ⟨k2, rfl, h20, h21, ho, hr⟩
      have oa2 : Only b w W4 := Only.trans (show Only b w _ by repeat' (first | (with_reducible first | assumption | exact Only.refl _ _ | refine Only.drew ?_ | refine Only.alloc ?_ _ | refine Only.setCell ?_ ?_ _ | (refine Only.call ?_ ?_; rotate_left; assumption)) | (refine leB ?_; omega))) ho
      have O2 := own_onlyN (own_keep O1 (show Below _ _ _ by repeat' (first | (with_reducible first | assumption | exact Below.refl _ _ | refine Below.drew ?_ | refine below_alloc ?_ ?_ _ | refine below_set ?_ ?_ _) | (refine leB ?_; omega)))) ho hbw
      have lsW4 := oa2.size
      clear ho
      go_wp2_with fail
      refine (pick_any b (q + 1 + 1 + 1) 6 _ hr (by omega) (by omega) (by omega)).mono ?_
      rintro e W5 ⟨k3, rfl, h30, h31, ho, hr⟩
      have oa3 : Only b w W5 := Only.trans (show Only b w _ by repeat' (first | (with_reducible first | assumption | exact Only.refl _ _ | refine Only.drew ?_ | refine Only.alloc ?_ _ | refine Only.setCell ?_ ?_ _ | (refine Only.call ?_ ?_; rotate_left; assumption)) | (refine leB ?_; omega))) ho
      have O3 := own_onlyN (own_keep O2 (show Below _ _ _ by repeat' (first | (with_reducible first | assumption | exact Below.refl _ _ | refine Below.drew ?_ | refine below_alloc ?_ ?_ _ | refine below_set ?_ ?_ _) | (refine leB ?_; omega)))) ho hbw
      have lsW5 := oa3.size
      clear ho
      go_wp2_with (first | (at_builtin; refine wpList_append_own _ rfl _ _ 31 rfl w.heap.size 26 i0 (.agg #[.int .i64 0, .int .i64 0, .int .i64 0, .int .i64 0]) 4 32 Tryd.underlying31 hi0 hz0 hz1 hz2 rfl (by decide) _ _ _ rfl (own_keep O3 ((Below.refl _ _).alloc (Nat.le_refl _) _)) ⟨W5.heap.size, 0, none⟩ 1 1 [.int .i64 (k0 - 1), .int .i64 (1 + k1), .int .i64 k2, .int .i64 k3] rfl rfl (news4B (show Blk _ (W5.heap.size) [.int .i64 (k0 - 1), .int .i64 (1 + k1), .int .i64 k2, .int .i64 k3] by repeat' (first | (with_reducible first | assumption | refine Blk.drew ?_ | refine Blk.drewN ?_ _ | apply Blk.set | (refine Blk.new ?_; focus (first | rfl | (simp; done) | (simp [drewN_size]; done))) | refine Blk.alloc ?_ _ | refine Blk.other ?_ ?_ _) | exact eqL rfl | (refine neB ?_; omega)))) (by intro u hu; simp at hu; rcases hu with rfl | rfl | rfl | rfl <;> rfl) (by unfold maxLen; omega) (by omega) (by first | omega | (simp; done) | (simp; omega)) ?_) | fail)
      intro v' w' hown' hgrow hnil
      have oa4 : Only b w w' := only_grownN (Only.alloc oa3 _) hgrow (fun g hg => own_rowN O3 hg)
      have hr4 : Rd w' b (q + 1 + 1 + 1 + 1) := hr.keep (((Below.refl _ _).alloc (by have := hr.1; omega) _).grown hgrow (by have := hr.1; simp; omega) (fun g hg => by have := own_rowN O3 hg; omega))
      have HO1 : RowKit.Hid (w'.ownsRow w.heap.size 26 4 v' (ls.length + 1) (layC (ls ++ [((k0 - 1, 1 + k1, k2), k3)]))) := Lib.hid (by rw [layC_append]; exact hown')
      have HI1 : RowKit.Hid (∀ l ∈ ls ++ [((k0 - 1, 1 + k1, k2), k3)], i64L l) := Lib.hid (fun l hl => by
        rcases List.mem_append.1 hl with hl | hl
        · exact HV.out l hl
        · rw [List.mem_singleton.1 hl]
          refine ⟨?_, ?_, ?_, ?_⟩ <;> unfold i64B <;> dsimp only <;> omega)
      have HNI := Lib.hid hnil
      have ls4 := oa4.size
      clear hnil hgrow hown' O0 O1 O2 O3 oa0 oa1 oa2 oa3 oa hr HO HV
      rcases HO1.out.2 with ⟨hz, -⟩ | ⟨g, cap', cur, hv, hB, hg, h1, h2, h3, h4⟩
      · exact absurd hz (fun h => by first | exact HNI.out h | (have := (HNI.out.1 h).2; omega))
      · clear h2 h3 h4 hg HNI
        subst hv
        go_wp2_with fail
        refine (pick_any b (q + 1 + 1 + 1 + 1) 3 _ hr4 (by omega) (by omega) (by omega)).mono ?_
        rintro e W6 ⟨k4, rfl, h40, h41, ho, hr5⟩
        have oa5 : Only b w W6 := Only.trans oa4 ho
        have HO2 : RowKit.Hid (W6.ownsRow w.heap.size 26 4 (.slice (some ⟨g, 0, none⟩) (ls.length + 1) cap') (ls.length + 1) (layC (ls ++ [((k0 - 1, 1 + k1, k2), k3)]))) := Lib.hid (own_onlyN HO1.out ho hbw)
        have ls6 := oa5.size
        clear ho hr4 HO1 oa4
        have hl8 : (ls.length : Int) + 1 < 8 := by omega
        by_cases hz4 : k4 = 0
        ·
          subst hz4
          obtain ⟨hgl, c0, c1, c2, c3, hcap, hgB⟩ := own_last HO2.out rfl
          have hN0 : (0 : Int) ≤ (ls.length : Int) := by omega
          have hNw : IntKind.i64.wrap (ls.length : Int) = (ls.length : Int) := wrapS (by omega)
          go_wp2_with (first | (at_builtin; refine wpList_append_own _ rfl _ _ 31 rfl w.heap.size 26 i0 (.agg #[.int .i64 0, .int .i64 0, .int .i64 0, .int .i64 0]) 4 32 Tryd.underlying31 hi0 hz0 hz1 hz2 rfl (by decide) _ _ _ rfl (own_keep HO2.out ((Below.refl _ _).alloc (Nat.le_refl _) _)) ⟨W6.heap.size, 0, none⟩ 1 1 [.int .i64 (k0 - 1), .int .i64 (1 + k1), .int .i64 k2, .int .i64 k3] rfl rfl (news4B (show Blk _ (W6.heap.size) [.int .i64 (k0 - 1), .int .i64 (1 + k1), .int .i64 k2, .int .i64 k3] by repeat' (first | (with_reducible first | assumption | refine Blk.drew ?_ | refine Blk.drewN ?_ _ | apply Blk.set | (refine Blk.new ?_; focus (first | rfl | (simp; done) | (simp [drewN_size]; done))) | refine Blk.alloc ?_ _ | refine Blk.other ?_ ?_ _) | exact eqL rfl | (refine neB ?_; omega)))) (by intro u hu; simp at hu; rcases hu with rfl | rfl | rfl | rfl <;> rfl) (by unfold maxLen; omega) (by omega) (by first | omega | (simp; done) | (simp; omega)) ?_) | fail)
          intro v' w' hown' hgrow hnil
          have oa7 : Only b w w' := only_grownN (Only.alloc oa5 _) hgrow (fun g hg => own_rowN HO2.out hg)
          have hr7 : Rd w' b (q + 1 + 1 + 1 + 1 + 1) := hr5.keep (((Below.refl _ _).alloc (by have := hr5.1; omega) _).grown hgrow (by have := hr5.1; simp; omega) (fun g hg => by have := own_rowN HO2.out hg; omega))
          have HNI := Lib.hid hnil
          clear hgrow hnil
          go_wp2_with fail
          go_roundw
          case rel =>
            refine ⟨k + 1, q + 1 + 1 + 1 + 1 + 1, ls ++ [((k0 - 1, 1 + k1, k2), k3)] ++ [((k0 - 1, 1 + k1, k2), k3)], by go_num, hlt, by simp only [List.length_append, List.length_cons, List.length_nil]; omega, (fun h => by first | exact HNI.out h | (have := (HNI.out.1 h).2; omega)), ?_, ?_, oa7, by omega, hr7⟩
            · rw [List.length_append, List.length_append, layC_append]
              exact hown'
            · intro l hl
              rcases List.mem_append.1 hl with hl | hl
              · exact HI1.out l hl
              · exact HI1.out l (List.mem_append.2 (.inr hl))
          case measure => (simp [intOf]; try omega)
        ·
          have hz5 : (k4 == 0) = false := by simp [hz4]
          go_wp2_with fail
          go_roundw
          case rel =>
            refine ⟨k + 1, q + 1 + 1 + 1 + 1 + 1, ls ++ [((k0 - 1, 1 + k1, k2), k3)], by go_num, hlt, by simp only [List.length_append, List.length_cons, List.length_nil]; omega, (fun h => by cases h), ?_, HI1.out, oa5, by omega, hr5⟩
            rw [List.length_append]
            exact HO2.out
          case measure => (simp [intOf]; try omega)
    ·
      have hkN : k = N := by omega
      have hk0 : ¬ (k : Int) < (N : Int) := by omega
      have hlen7 : ls.length ≤ 6 := by omega
      go_wp2_with fail
      refine (pick_any b q 24 _ hr (by omega) (by omega) (by omega)).mono ?_
      rintro e W2 ⟨t, rfl, ht0, ht1, ho, hr2⟩
      have oa2 : Only b w W2 := Only.trans oa ho
      have O2 := own_onlyN HO.out ho hbw
      have ls2 := oa2.size
      clear ho hr oa
      by_cases h0 : t = 0
      ·
        subst h0
        go_wp2_with (first | (at_builtin; refine wpList_append_own _ rfl _ _ 31 rfl w.heap.size 26 i0 (.agg #[.int .i64 0, .int .i64 0, .int .i64 0, .int .i64 0]) 4 32 Tryd.underlying31 hi0 hz0 hz1 hz2 rfl (by decide) _ _ _ rfl (own_keep O2 ((Below.refl _ _).alloc (Nat.le_refl _) _)) ⟨W2.heap.size, 0, none⟩ 1 1 [.int .i64 1, .int .i64 0, .int .i64 1, .int .i64 51] rfl rfl (news4B (show Blk _ (W2.heap.size) [.int .i64 1, .int .i64 0, .int .i64 1, .int .i64 51] by repeat' (first | (with_reducible first | assumption | refine Blk.drew ?_ | refine Blk.drewN ?_ _ | apply Blk.set | (refine Blk.new ?_; focus (first | rfl | (simp; done) | (simp [drewN_size]; done))) | refine Blk.alloc ?_ _ | refine Blk.other ?_ ?_ _) | exact eqL rfl | (refine neB ?_; omega)))) (by intro u hu; simp at hu; rcases hu with rfl | rfl | rfl | rfl <;> rfl) (by unfold maxLen; omega) (by omega) (by first | omega | (simp; done) | (simp; omega)) ?_) | fail)
        intro v' w' hown' hgrow hnil
        have oa7 : Only b w w' := only_grownN (Only.alloc oa2 _) hgrow (fun g hg => own_rowN O2 hg)
        have hr7 : Rd w' b (q + 1) := hr2.keep (((Below.refl _ _).alloc (by have := hr2.1; omega) _).grown hgrow (by have := hr2.1; simp; omega) (fun g hg => by have := own_rowN O2 hg; omega))
        have HNI := Lib.hid hnil
        clear hgrow hnil
        go_wp2_with fail
        go_ret
        refine ⟨_, ls ++ [((1, 0, 1), 51)], q + 1, rfl, (fun h => by first | exact HNI.out h | (have := (HNI.out.1 h).2; omega)), ?_, ?_, by simp only [List.length_append, List.length_cons, List.length_nil]; omega, oa7, by omega, hr7⟩
        · rw [List.length_append, layC_append]
          exact hown'
        · intro l hl
          rcases List.mem_append.1 hl with hl | hl
          · exact HV.out l hl
          · rw [List.mem_singleton.1 hl]
            show i64B 1 ∧ i64B 0 ∧ i64B 1 ∧ i64B 51
            unfold i64B
            omega
      ·
        have h0b : (t == 0) = false := by simp [h0]
        go_wp2_with fail
        go_ret
        exact ⟨_, ls, q + 1, rfl, HNN.out, O2, HV.out, by omega, oa2, by omega, hr2⟩

set_option linter.unusedSimpArgs false
/-- A drawn list of sections. -/
def DrewL (w : World) (e : Ending) (w' : World) : Prop := ∃ (a : Option Addr) (cap : Nat) (ls : List L4), e = .returned (.slice a ls.length cap) ∧ Lys w' a ls ∧ ls.length ≤ 7 ∧ Below w.heap.size w w'
set_option maxHeartbeats 4000000 in
theorem drawShort_any (a : Option Addr) (len cap : Nat) (w : World) (h : Code8 w a len cap) :
    Calls Tryd.prog 23 #[.slice a len cap] w (DrewL w) := by
  have H0 := Lib.hid h
  clear h
  go_enter Tryd.func23, Tryd.ntmps23
  go_wp2_with fail
  refine (open_any a len cap _ H0.out).mono ?_
  rintro e W1 ⟨b, rfl, hb1, bel, hr⟩
  have kaW1 : Acc w W1 := by
    refine Acc.call ?_ bel
    (repeat' (first | (with_reducible first | assumption | exact Acc.refl _ | refine Acc.drew ?_ | refine Acc.drewN ?_ _ | refine Acc.alloc ?_ _ | refine Acc.setCell ?_ ?_ _) | (refine leB ?_; omega)))
  have lsW1 := kaW1.size
  have bwW1 := hr.1
  have HR := Lib.hid fun W (k : Below (b + 1) W1 W) => hr.keep k
  clear bel hr H0
  go_wp2_with fail
  refine (fibre_any b 0 _ (HR.out _ (by repeat' (first | (with_reducible first | assumption | exact Below.refl _ _ | refine Below.drew ?_ | refine below_alloc ?_ ?_ _ | refine below_set ?_ ?_ _) | (refine leB ?_; omega)))) (by omega)).mono ?_
  rintro e W2 ⟨v, ls, i, rfl, hnn, hown, hi, hl, ho, hq, hr⟩
  have kaW2 : Acc w W2 := by
    refine Below.trans (b := _) ?_ (ho.below ?_ (by omega))
    · show Acc w _
      (repeat' (first | (with_reducible first | assumption | exact Acc.refl _ | refine Acc.drew ?_ | refine Acc.drewN ?_ _ | refine Acc.alloc ?_ _ | refine Acc.setCell ?_ ?_ _) | (refine leB ?_; omega)))
    · (refine Nat.le_trans ?_ (Nat.le_of_lt_succ (Nat.lt_succ_of_le (Nat.le_refl _))); (first | omega | (simp; omega)))
  have lsW2 := kaW2.size
  have bwW2 : b < W2.heap.size := hr.1
  have HR := Lib.hid fun W (k : Below (b + 1) W2 W) => hr.keep k
  clear ho hr
  go_wp2_with fail
  go_ret
  obtain ⟨g, -, hw⟩ := Wr.of_own hi hown
  obtain ⟨a', cap', rfl, hly⟩ := hw.lys
  exact ⟨a', cap', ls, rfl, hly, hl, (show Acc w _ by repeat' (first | (with_reducible first | assumption | exact Acc.refl _ | refine Acc.drew ?_ | refine Acc.drewN ?_ _ | refine Acc.alloc ?_ _ | refine Acc.setCell ?_ ?_ _) | (refine leB ?_; omega)))⟩

set_option linter.unusedSimpArgs false
theorem eqSec (a b c d : Int) : ∀ w, (Op.equalIn 10000 26 (.agg #[.int .i64 a, .int .i64 b, .int .i64 c, .int .i64 d]) (.agg #[.int .i64 a, .int .i64 b, .int .i64 c, .int .i64 d])).run Tryd.prog w = .ok true w := by
  intro w
  have u3 := Tryd.underlying3
  have a3 := Tryd.isAgg3
  have z3 := Tryd.sizeOf3
  have hS : Tryd.prog.underlying 26 = some (.struct (Tryd.prog.fieldsOf 26)) := by kernel_rfl
  rw [show 10000 = 9999 + 1 from rfl, run_equalIn_agg w 9999 26 _ _ hS (by kernel_rfl)]
  simp only [Program.fieldsOf, Tryd.underlying26]
  go_simp
set_option maxRecDepth 100000 in
set_option maxHeartbeats 8000000 in
theorem sameFib_any (a b : Option Addr) (ls : List L4) (cap cap' : Nat) (w : World) (h : Lys w a ls) (h' : Lys w b ls) (hn : ls.length ≤ 1048576) : Calls Tryd.prog 24 #[.slice a ls.length cap, .slice b ls.length cap'] w fun e w' => e = .returned (.bool true) ∧ Below w.heap.size w w' := by
  have H := Lib.hid h
  have H' := Lib.hid h'
  clear h h'
  go_enter Tryd.func24, Tryd.ntmps24
  go_wp2_with fail
  go_loopw [5] (fun i wr => ∃ k : Nat, i = .int .i64 k ∧ k ≤ ls.length ∧ Acc w wr) (fun i _ => ls.length - (intOf i).toNat)
  case atStart => exact ⟨0, rfl, Nat.zero_le _, Acc.refl _⟩
  case round =>
    obtain ⟨k, rfl, hk, ka⟩ := hrel
    by_cases hlt : k < ls.length
    ·
      obtain ⟨c, off, rfl, hc, hi, e0, e1, e2, e3⟩ := H.out.at hlt
      obtain ⟨c', off', rfl, hc', -, f0, f1, f2, f3⟩ := H'.out.at hlt
      have hk1 : k + 1 ≤ ls.length := hlt
      have hk0 : (0 : Int) ≤ (k : Int) := by omega
      have hk2 : (k : Int) < (ls.length : Int) := by omega
      generalize ls[k] = x at hi e0 e1 e2 e3 f0 f1 f2 f3
      obtain ⟨⟨n1, n2, n3⟩, q⟩ := x
      dsimp only at e0 e1 e2 e3 f0 f1 f2 f3
      have HCC := Lib.hid fun (W : World) (ka : Acc w W) => And.intro ((ka.cell (p := ⟨c, off + k * 4, none⟩) hc).trans e0) (And.intro ((ka.cell (p := ⟨c, off + k * 4 + 1, none⟩) hc).trans e1) (And.intro ((ka.cell (p := ⟨c, off + k * 4 + 2, none⟩) hc).trans e2) (And.intro ((ka.cell (p := ⟨c, off + k * 4 + 3, none⟩) hc).trans e3) (And.intro ((ka.cell (p := ⟨c', off' + k * 4, none⟩) hc').trans f0) (And.intro ((ka.cell (p := ⟨c', off' + k * 4 + 1, none⟩) hc').trans f1) (And.intro ((ka.cell (p := ⟨c', off' + k * 4 + 2, none⟩) hc').trans f2) ((ka.cell (p := ⟨c', off' + k * 4 + 3, none⟩) hc').trans f3)))))))
      clear e0 e1 e2 e3 f0 f1 f2 f3
      obtain ⟨e0, e1, e2, e3, f0, f1, f2, f3⟩ := HCC.out _ ka
      clear hi hc hc' H H'
      have qs := eqSec n1 n2 n3 q
      go_upto_region 6 with fail
      go_region_held3 (fun w' => w'.cell? ⟨c, off + k * 4, none⟩ = some (.int .i64 n1) ∧ w'.cell? ⟨c, off + k * 4 + 1, none⟩ = some (.int .i64 n2) ∧ w'.cell? ⟨c, off + k * 4 + 2, none⟩ = some (.int .i64 n3) ∧ w'.cell? ⟨c, off + k * 4 + 3, none⟩ = some (.int .i64 q) ∧ w'.cell? ⟨c', off' + k * 4, none⟩ = some (.int .i64 n1) ∧ w'.cell? ⟨c', off' + k * 4 + 1, none⟩ = some (.int .i64 n2) ∧ w'.cell? ⟨c', off' + k * 4 + 2, none⟩ = some (.int .i64 n3) ∧ w'.cell? ⟨c', off' + k * 4 + 3, none⟩ = some (.int .i64 q))
        (((try dsimp only); (exact HCC.out _ (show Acc w _ by repeat' (first | (with_reducible first | assumption | exact Acc.refl _ | refine Acc.drew ?_ | refine Acc.drewN ?_ _ | refine Acc.alloc ?_ _ | refine Acc.setCell ?_ ?_ _) | (refine leB ?_; omega))))))
        (fail)
      all_goals
        go_wp2_with fail
        go_roundw
        case rel => exact ⟨k + 1, by go_num, hk1, (show Acc w _ by repeat' (first | (with_reducible first | assumption | exact Acc.refl _ | refine Acc.drew ?_ | refine Acc.drewN ?_ _ | refine Acc.alloc ?_ _ | refine Acc.setCell ?_ ?_ _) | (refine leB ?_; omega)))⟩
        case measure => simp [intOf]; omega
    · obtain rfl : k = ls.length := by omega
      go_wp2_with fail
      go_ret
      exact ⟨rfl, ka⟩
end Go.Proofs.YtkiggkmbgkonmabDoor
