/-
  The laws of matrices as plain mathematics: plates and filters.
-/
import Derived.Test.YtnfbopaafciiiabDoorMatDir
namespace Go.Proofs.YtnfbopaafciiiabDoor
set_option linter.unusedVariables false

/-- A power of i in whole numbers. -/
def phr (k : Int) : Int := (phaT k).1
def phi (k : Int) : Int := (phaT k).2.1
theorem pha_in {k : Int} (h : inB k 0 3 = true) : k = 0 ∨ k = 1 ∨ k = 2 ∨ k = 3 := by
  have := inB_bd h
  omega
theorem pha_ok (k : Int) : okT (phaT k) = true ∧ reT (phaT k) = (phr k : Rat) ∧ imT (phaT k) = (phi k : Rat) ∧ -1 ≤ phr k ∧ phr k ≤ 1 ∧ -1 ≤ phi k ∧ phi k ≤ 1 ∧ (phr k : Rat) * phr k + (phi k : Rat) * phi k = 1 := by
  unfold phr phi phaT
  split
  · exact ⟨by decide, rv_one _, rv_one _, by decide, by decide, by decide, by decide, by grind⟩
  · split
    · exact ⟨by decide, rv_one _, rv_one _, by decide, by decide, by decide, by decide, by grind⟩
    · split
      · exact ⟨by decide, rv_one _, rv_one _, by decide, by decide, by decide, by decide, by grind⟩
      · exact ⟨by decide, rv_one _, rv_one _, by decide, by decide, by decide, by decide, by grind⟩
theorem rv_scale {x n k : Int} : rv (x * k) n = rv x n * (k : Rat) := by
  unfold rv
  have e1 : ((x * k : Int) : Rat) = (x : Rat) * k := by exact_mod_cast rfl
  rw [e1]
  grind
/-- A real fraction times a power of i. -/
theorem pha_times {v : F3} (h : okT v = true) (z : v.2.1 = 0) {k : Int} (hk : inB k 0 3 = true) : ∃ m, tT v (phaT k) = some m ∧ okT m = true ∧ reT m = reT v * (phr k : Rat) ∧ imT m = reT v * (phi k : Rat) := by
  obtain ⟨ok, r, i, -⟩ := pha_ok k
  have iz := im0 z
  obtain ⟨a, b, c⟩ := v
  have z' : b = 0 := z
  subst z'
  have h' : okF a 0 c = true := h
  have key : ∀ m : F3, okT m = true → reT m = reT (a, 0, c) * (phr k : Rat) → imT m = reT (a, 0, c) * (phi k : Rat) → ∃ m, tT (a, 0, c) (phaT k) = some m ∧ okT m = true ∧ reT m = reT (a, 0, c) * (phr k : Rat) ∧ imT m = reT (a, 0, c) * (phi k : Rat) :=
    fun m o e f => ⟨m, tT_of h ok o (by rw [e, r, i, iz]; grind) (by rw [f, r, i, iz]; grind), o, e, f⟩
  have e1 : ((1 : Int) : Rat) = 1 := by exact_mod_cast rfl
  have e0 : ((0 : Int) : Rat) = 0 := by exact_mod_cast rfl
  have em : ((-1 : Int) : Rat) = -1 := by exact_mod_cast rfl
  rcases pha_in hk with rfl | rfl | rfl | rfl
  · refine key (a, 0, c) h ?_ ?_
    · rw [show phr 0 = 1 from rfl, e1]; grind
    · rw [show phi 0 = 0 from rfl, e0, iz]; grind
  · refine key (0, a, c) (by show okF 0 a c = true; rw [okF_swap]; exact h') ?_ ?_
    · rw [show phr 1 = 0 from rfl, e0, show reT (0, a, c) = 0 from rv_zero c]; grind
    · rw [show phi 1 = 1 from rfl, e1, show imT (0, a, c) = reT (a, 0, c) from rfl]; grind
  · refine key (-a, 0, c) (by show okF (-a) 0 c = true; rw [okF_neg1']; exact h') ?_ ?_
    · rw [show phr 2 = -1 from rfl, em, show reT (-a, 0, c) = -reT (a, 0, c) from rv_neg a c]; grind
    · rw [show phi 2 = 0 from rfl, e0, show imT (-a, 0, c) = 0 from rv_zero c]; grind
  · refine key (0, -a, c) (by show okF 0 (-a) c = true; rw [okF_swap, okF_neg1']; exact h') ?_ ?_
    · rw [show phr 3 = 0 from rfl, e0, show reT (0, -a, c) = 0 from rv_zero c]; grind
    · rw [show phi 3 = -1 from rfl, em, show imT (0, -a, c) = -reT (a, 0, c) from rv_neg a c]; grind
/-- What a plate is. -/
theorem pla_val {p q k : Int} (h : dirB p q = true) (hk : inB k 0 3 = true) : ∃ w x y z : F3, ∃ C S : Rat, plaM p q k = some (w, x, y, z) ∧ okM (w, x, y, z) = true ∧ C = reT (dirC p q) ∧ S = reT (dirS p q) ∧ C * C + S * S = 1 ∧
    reT w = C * C + S * S * (phr k : Rat) ∧ imT w = S * S * (phi k : Rat) ∧ reT x = C * S - S * C * (phr k : Rat) ∧ imT x = -(S * C * (phi k : Rat)) ∧
    reT y = C * S - S * C * (phr k : Rat) ∧ imT y = -(S * C * (phi k : Rat)) ∧ reT z = S * S + C * C * (phr k : Rat) ∧ imT z = C * C * (phi k : Rat) := by
  obtain ⟨n, x, y, e1, e2, e3, n1, n2, bx, by', sq, oc, rc, zc, os, rs, zs, mc, ms⟩ := dir_val h
  obtain ⟨om, rm, im⟩ := neg_ok os zs
  obtain ⟨ou, ru, iu, u1, u2, u3, u4, uu⟩ := pha_ok k
  have ic := im0 zc
  have is := im0 zs
  have C : reT (dirC p q) = rv x n ∧ imT (dirC p q) = rv 0 n := ⟨rc, by rw [ic, rv_zero]⟩
  have S : reT (dirS p q) = rv y n ∧ imT (dirS p q) = rv 0 n := ⟨rs, by rw [is, rv_zero]⟩
  have M : reT (negT (dirS p q)) = rv (-y) n ∧ imT (negT (dirS p q)) = rv 0 n := ⟨by rw [rm, rs, rv_neg], by rw [im, rv_zero]⟩
  obtain ⟨mu, a1, a2, a3, a4⟩ := pha_times om (show (negT (dirS p q)).2.1 = 0 from rfl) hk
  obtain ⟨cu, b1, b2, b3, b4⟩ := pha_times oc zc hk
  have MU : reT mu = rv (-y * phr k) n ∧ imT mu = rv (-y * phi k) n := ⟨by rw [a3, M.1, rv_scale], by rw [a4, M.1, rv_scale]⟩
  have CU : reT cu = rv (x * phr k) n ∧ imT cu = rv (x * phi k) n := ⟨by rw [b3, C.1, rv_scale], by rw [b4, C.1, rv_scale]⟩
  have ux : ∀ {a u : Int}, -n ≤ a ∧ a ≤ n → -1 ≤ u → u ≤ 1 → -n ≤ a * u ∧ a * u ≤ n := by
    intro a u ha h1 h2
    have : u = -1 ∨ u = 0 ∨ u = 1 := by omega
    rcases this with rfl | rfl | rfl <;> omega
  have B1 := ux (a := -y) (u := phr k) (by omega) u1 u2
  have B2 := ux (a := -y) (u := phi k) (by omega) u3 u4
  have B3 := ux (a := x) (u := phr k) (by omega) u1 u2
  have B4 := ux (a := x) (u := phi k) (by omega) u3 u4
  have R := rot_some h
  have A : adjM (dirC p q, negT (dirS p q), dirS p q, dirC p q) = some (dirC p q, dirS p q, negT (dirS p q), dirC p q) := by
    rw [adjM_of (rot_ok R).2, bar_real zc, bar_real zs, bar_real (show (negT (dirS p q)).2.1 = 0 from rfl)]
  have X : mulM (dirC p q, negT (dirS p q), dirS p q, dirC p q) (diaM (phaT k)) = some (dirC p q, mu, dirS p q, cu) :=
    quad_of (inT_of (tT_one oc) (tT_zero om) (sT_zero oc)) (inT_of (tT_zero oc) a1 (sT_zero' a2)) (inT_of (tT_one os) (tT_zero oc) (sT_zero os)) (inT_of (tT_zero os) b1 (sT_zero' b2))
  obtain ⟨w1, c1, c2, c3, c4⟩ := inT_told (u := dirC p q) (v := dirC p q) (x := mu) (y := negT (dirS p q)) ⟨n1, n2⟩ oc oc a2 om (by omega) (by omega) (by omega) (by omega) C C MU M
  obtain ⟨w2, d1, d2, d3, d4⟩ := inT_told (u := dirC p q) (v := dirS p q) (x := mu) (y := dirC p q) ⟨n1, n2⟩ oc os a2 oc (by omega) (by omega) (by omega) (by omega) C S MU C
  obtain ⟨w3, f1, f2, f3, f4⟩ := inT_told (u := dirS p q) (v := dirC p q) (x := cu) (y := negT (dirS p q)) ⟨n1, n2⟩ os oc b2 om (by omega) (by omega) (by omega) (by omega) S C CU M
  obtain ⟨w4, g1, g2, g3, g4⟩ := inT_told (u := dirS p q) (v := dirS p q) (x := cu) (y := dirC p q) ⟨n1, n2⟩ os os b2 oc (by omega) (by omega) (by omega) (by omega) S S CU C
  refine ⟨w1, w2, w3, w4, reT (dirC p q), reT (dirS p q), ?_, okM_mk c2 d2 f2 g2, rfl, rfl, by rw [rc, rs]; exact sq, ?_, ?_, ?_, ?_, ?_, ?_, ?_, ?_⟩
  · unfold plaM
    rw [if_pos hk, R, Option.bind_some, A, Option.bind_some, X, Option.bind_some]
    exact quad_of c1 d1 f1 g1
  · rw [c3, a3, a4, rm, im, ic]; grind
  · rw [c4, a3, a4, rm, im, ic]; grind
  · rw [d3, a3, a4, rm, is, ic]; grind
  · rw [d4, a3, a4, rm, is, ic]; grind
  · rw [f3, b3, b4, rm, im, is, ic]; grind
  · rw [f4, b3, b4, rm, im, is, ic]; grind
  · rw [g3, b3, b4, is, ic]; grind
  · rw [g4, b3, b4, is, ic]; grind
theorem pla_some {p q k : Int} {P : F4} (h : plaM p q k = some P) : dirB p q = true ∧ inB k 0 3 = true ∧ okM P = true := by
  have hk : inB k 0 3 = true := by
    cases hk : inB k 0 3 with
    | true => rfl
    | false => unfold plaM at h; rw [if_neg (by rw [hk]; decide)] at h; cases h
  have hd : dirB p q = true := by
    cases hd : dirB p q with
    | true => rfl
    | false => unfold plaM at h; rw [if_pos hk, rot_not hd] at h; cases h
  obtain ⟨w, x, y, z, C, S, h1, h2, -⟩ := pla_val hd hk
  rw [h] at h1
  obtain rfl := (Option.some.inj h1)
  exact ⟨hd, hk, h2⟩
theorem pla_los {p q k : Int} {P B Q : F4} (h : plaM p q k = some P) (hb : adjM P = some B) (hq : mulM P B = some Q) : losM P = true := by
  obtain ⟨hd, hk, -⟩ := pla_some h
  obtain ⟨w, x, y, z, C, S, h1, h2, hC, hS, sq, r1, i1, r2, i2, r3, i3, r4, i4⟩ := pla_val hd hk
  rw [h] at h1
  obtain rfl := (Option.some.inj h1)
  obtain ⟨-, -, -, -, -, -, -, uu⟩ := pha_ok k
  obtain ⟨-, rfl⟩ := adjM_some hb
  obtain ⟨q1, q2, q3, q4⟩ := Q
  obtain ⟨e1, e2, e3, e4⟩ := mulM_some hq
  obtain ⟨-, -, -, -, o1, a1, b1⟩ := inT_val e1
  obtain ⟨-, -, -, -, o2, a2, b2⟩ := inT_val e2
  obtain ⟨-, -, -, -, o3, a3, b3⟩ := inT_val e3
  obtain ⟨-, -, -, -, o4, a4, b4⟩ := inT_val e4
  simp only [reT_bar, imT_bar] at a1 b1 a2 b2 a3 b3 a4 b4
  rw [r1, i1, r2, i2] at a1 b1
  rw [r1, i1, r2, i2, r3, i3, r4, i4] at a2 b2 a3 b3
  rw [r3, i3, r4, i4] at a4 b4
  generalize (phr k : Rat) = U at *
  generalize (phi k : Rat) = V at *
  have g1 : q1 = (1, 0, 1) := uniqT o1 okT_one (by rw [reT_one]; grind) (by rw [imT_one]; grind)
  have g2 : q2 = (0, 0, 1) := uniqT o2 okT_zero (by rw [reT_zero]; grind) (by rw [imT_zero]; grind)
  have g3 : q3 = (0, 0, 1) := uniqT o3 okT_zero (by rw [reT_zero]; grind) (by rw [imT_zero]; grind)
  have g4 : q4 = (1, 0, 1) := uniqT o4 okT_one (by rw [reT_one]; grind) (by rw [imT_one]; grind)
  subst g1 g2 g3 g4
  exact losM_of hb hq
theorem pla_det {p q k : Int} {P : F4} {d : F3} (h : plaM p q k = some P) (hd' : detM P = some d) : d = phaT k := by
  obtain ⟨hd, hk, -⟩ := pla_some h
  obtain ⟨w, x, y, z, C, S, h1, h2, hC, hS, sq, r1, i1, r2, i2, r3, i3, r4, i4⟩ := pla_val hd hk
  rw [h] at h1
  obtain rfl := (Option.some.inj h1)
  obtain ⟨ou, ru, iu, -, -, -, -, uu⟩ := pha_ok k
  obtain ⟨-, od, rd, id⟩ := detM_val hd'
  rw [r1, i1, r2, i2, r3, i3, r4, i4] at rd id
  refine uniqT od ou ?_ ?_
  · rw [rd, ru]
    generalize (phr k : Rat) = U at *
    generalize (phi k : Rat) = V at *
    have : (C * C + S * S * U) * (S * S + C * C * U) - S * S * V * (C * C * V) - ((C * S - S * C * U) * (C * S - S * C * U) - -(S * C * V) * -(S * C * V)) = U * ((C * C + S * S) * (C * C + S * S)) := by grind
    rw [this, sq]; grind
  · rw [id, iu]
    generalize (phr k : Rat) = U at *
    generalize (phi k : Rat) = V at *
    have : (C * C + S * S * U) * (C * C * V) + S * S * V * (S * S + C * C * U) - ((C * S - S * C * U) * -(S * C * V) + -(S * C * V) * (C * S - S * C * U)) = V * ((C * C + S * S) * (C * C + S * S)) := by grind
    rw [this, sq]; grind
theorem pha_next {k : Int} (hk : inB k 0 3 = true) : inB ((k + 1) % 4) 0 3 = true ∧ phr ((k + 1) % 4) = -phi k ∧ phi ((k + 1) % 4) = phr k := by
  rcases pha_in hk with rfl | rfl | rfl | rfl <;> decide
theorem pla_next {p q k : Int} {P : F4} (h : plaM p q k = some P) : ∃ O Y, plaM p q 1 = some O ∧ plaM p q ((k + 1) % 4) = some Y ∧ ∀ X, mulM P O = some X → X = Y := by
  obtain ⟨hd, hk, -⟩ := pla_some h
  obtain ⟨n1, n2, n3⟩ := pha_next hk
  obtain ⟨w, x, y, z, C, S, h1, h2, hC, hS, sq, r1, i1, r2, i2, r3, i3, r4, i4⟩ := pla_val hd hk
  rw [h] at h1
  obtain rfl := (Option.some.inj h1)
  obtain ⟨w', x', y', z', C', S', h1', h2', hC', hS', sq', r1', i1', r2', i2', r3', i3', r4', i4'⟩ := pla_val hd (show inB 1 0 3 = true by decide)
  obtain ⟨w2, x2, y2, z2, C2, S2, h12, h22, hC2, hS2, sq2, r12, i12, r22, i22, r32, i32, r42, i42⟩ := pla_val hd n1
  refine ⟨_, _, h1', h12, ?_⟩
  rintro ⟨q1, q2, q3, q4⟩ hq
  obtain ⟨ow, ox, oy, oz⟩ := okM_of h22
  have eC : C' = C := by rw [hC', hC]
  have eS : S' = S := by rw [hS', hS]
  have eC2 : C2 = C := by rw [hC2, hC]
  have eS2 : S2 = S := by rw [hS2, hS]
  subst eC eS eC2 eS2
  obtain ⟨e1, e2, e3, e4⟩ := mulM_some hq
  obtain ⟨-, -, -, -, o1, a1, b1⟩ := inT_val e1
  obtain ⟨-, -, -, -, o2, a2, b2⟩ := inT_val e2
  obtain ⟨-, -, -, -, o3, a3, b3⟩ := inT_val e3
  obtain ⟨-, -, -, -, o4, a4, b4⟩ := inT_val e4
  have u0 : (phr 1 : Rat) = 0 := by rw [show phr 1 = 0 from rfl]; exact_mod_cast rfl
  have v0 : (phi 1 : Rat) = 1 := by rw [show phi 1 = 1 from rfl]; exact_mod_cast rfl
  have u2 : (phr ((k + 1) % 4) : Rat) = -(phi k : Rat) := by rw [n2]; exact_mod_cast rfl
  have v2 : (phi ((k + 1) % 4) : Rat) = (phr k : Rat) := by rw [n3]
  rw [u0] at r1' r2' r3' r4'
  rw [v0] at i1' i2' i3' i4'
  rw [u2] at r12 r22 r32 r42
  rw [v2] at i12 i22 i32 i42
  rw [r1, i1, r2, i2, r1', i1', r3', i3'] at a1 b1
  rw [r1, i1, r2, i2, r2', i2', r4', i4'] at a2 b2
  rw [r3, i3, r4, i4, r1', i1', r3', i3'] at a3 b3
  rw [r3, i3, r4, i4, r2', i2', r4', i4'] at a4 b4
  clear r1 i1 r2 i2 r3 i3 r4 i4 r1' i1' r2' i2' r3' i3' r4' i4' u0 v0 u2 v2 e1 e2 e3 e4 hC hS hC' hS' hC2 hS2
  generalize (phr k : Rat) = U at *
  generalize (phi k : Rat) = V at *
  have g1 : q1 = w2 := uniqT o1 ow (by rw [a1, r12]; grind) (by rw [b1, i12]; grind)
  have g2 : q2 = x2 := uniqT o2 ox (by rw [a2, r22]; grind) (by rw [b2, i22]; grind)
  have g3 : q3 = y2 := uniqT o3 oy (by rw [a3, r32]; grind) (by rw [b3, i32]; grind)
  have g4 : q4 = z2 := uniqT o4 oz (by rw [a4, r42]; grind) (by rw [b4, i42]; grind)
  rw [g1, g2, g3, g4]
/-- What a filter is. -/
theorem fil_val {p q : Int} {F : F4} (h : filM p q = some F) : ∃ a b d : F3, ∃ C S : Rat, F = (a, b, b, d) ∧ C * C + S * S = 1 ∧ okT a = true ∧ okT b = true ∧ okT d = true ∧ a.2.1 = 0 ∧ b.2.1 = 0 ∧ d.2.1 = 0 ∧ reT a = C * C ∧ reT b = C * S ∧ reT d = S * S := by
  cases hd : dirB p q with
  | false => unfold filM at h; rw [if_neg (by rw [hd]; decide)] at h; cases h
  | true =>
    obtain ⟨n, x, y, e1, e2, e3, n1, n2, bx, by', sq, oc, rc, zc, os, rs, zs, mc, ms⟩ := dir_val hd
    unfold filM at h
    rw [if_pos hd] at h
    cases ha : tT (dirC p q) (dirC p q) with
    | none => rw [ha] at h; cases h
    | some a =>
      cases hb : tT (dirC p q) (dirS p q) with
      | none => rw [ha, hb] at h; cases h
      | some b =>
        cases hf : tT (dirS p q) (dirS p q) with
        | none => rw [ha, hb, hf] at h; cases h
        | some d =>
          rw [ha, hb, hf] at h
          obtain ⟨-, -, oa, ra, ia⟩ := tT_val ha
          obtain ⟨-, -, ob, rb, ib⟩ := tT_val hb
          obtain ⟨-, -, od, rd, id⟩ := tT_val hf
          rw [im0 zc] at ra ia rb ib
          rw [im0 zs] at rb ib rd id
          have z : ∀ {u : F3}, okT u = true → imT u = 0 → u.2.1 = 0 := fun o e => real0 o e
          exact ⟨a, b, d, reT (dirC p q), reT (dirS p q), (Option.some.inj h).symm, by rw [rc, rs]; exact sq, oa, ob, od, z oa (by grind), z ob (by grind), z od (by grind), by grind, by grind, by grind⟩
theorem fil_ok {p q : Int} {F : F4} (h : filM p q = some F) : okM F = true := by
  obtain ⟨a, b, d, C, S, rfl, sq, oa, ob, od, -⟩ := fil_val h
  exact okM_mk oa ob ob od
theorem fil_adj {p q : Int} {F : F4} (h : filM p q = some F) : adjM F = some F := by
  have hk := fil_ok h
  obtain ⟨a, b, d, C, S, rfl, sq, oa, ob, od, za, zb, zd, -⟩ := fil_val h
  rw [adjM_of hk, bar_real za, bar_real zb, bar_real zd]
theorem fil_twice {p q : Int} {F X : F4} (h : filM p q = some F) (hx : mulM F F = some X) : X = F := by
  obtain ⟨a, b, d, C, S, rfl, sq, oa, ob, od, za, zb, zd, ra, rb, rd⟩ := fil_val h
  obtain ⟨q1, q2, q3, q4⟩ := X
  obtain ⟨e1, e2, e3, e4⟩ := mulM_some hx
  obtain ⟨-, -, -, -, o1, a1, b1⟩ := inT_val e1
  obtain ⟨-, -, -, -, o2, a2, b2⟩ := inT_val e2
  obtain ⟨-, -, -, -, o3, a3, b3⟩ := inT_val e3
  obtain ⟨-, -, -, -, o4, a4, b4⟩ := inT_val e4
  rw [im0 za, im0 zb] at a1 b1
  rw [im0 za, im0 zb, im0 zd] at a2 b2
  rw [im0 za, im0 zb, im0 zd] at a3 b3
  rw [im0 zb, im0 zd] at a4 b4
  have g1 : q1 = a := uniqT o1 oa (by rw [a1, ra, rb]; have : C * C * (C * C) - 0 * 0 + (C * S * (C * S) - 0 * 0) = C * C * (C * C + S * S) := by grind
                                      rw [this, sq]; grind) (by rw [b1, im0 za]; grind)
  have g2 : q2 = b := uniqT o2 ob (by rw [a2, ra, rb, rd]; have : C * C * (C * S) - 0 * 0 + (C * S * (S * S) - 0 * 0) = C * S * (C * C + S * S) := by grind
                                      rw [this, sq]; grind) (by rw [b2, im0 zb]; grind)
  have g3 : q3 = b := uniqT o3 ob (by rw [a3, ra, rb, rd]; have : C * S * (C * C) - 0 * 0 + (S * S * (C * S) - 0 * 0) = C * S * (C * C + S * S) := by grind
                                      rw [this, sq]; grind) (by rw [b3, im0 zb]; grind)
  have g4 : q4 = d := uniqT o4 od (by rw [a4, rb, rd]; have : C * S * (C * S) - 0 * 0 + (S * S * (S * S) - 0 * 0) = S * S * (C * C + S * S) := by grind
                                      rw [this, sq]; grind) (by rw [b4, im0 zd]; grind)
  rw [g1, g2, g3, g4]
theorem fil_det {p q : Int} {F : F4} {d : F3} (h : filM p q = some F) (hd : detM F = some d) : d = (0, 0, 1) := by
  obtain ⟨a, b, d', C, S, rfl, sq, oa, ob, od, za, zb, zd, ra, rb, rd⟩ := fil_val h
  obtain ⟨-, o, r, i⟩ := detM_val hd
  rw [im0 za, im0 zb, im0 zd, ra, rb, rd] at r
  rw [im0 za, im0 zb, im0 zd] at i
  exact uniqT o okT_zero (by rw [reT_zero, r]; grind) (by rw [imT_zero, i]; grind)
end Go.Proofs.YtnfbopaafciiiabDoor
