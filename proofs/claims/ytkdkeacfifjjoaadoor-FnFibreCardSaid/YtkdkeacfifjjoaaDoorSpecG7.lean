/-
  The model: FibreBack.
-/
import Derived.Test.YtkdkeacfifjjoaaDoorSpecG1
import Derived.Test.YtkdkeacfifjjoaaDoorWr
import Derived.Test.YtkdkeacfifjjoaaDoorBLawS
import Derived.Test.YtkdkeacfifjjoaaDoorBFib
import Derived.Laws.AppendOwn
namespace Go.Proofs.YtkdkeacfifjjoaaDoor
open Go.ChangeShapes Go.WideShapes Go.ChangeAt Go.RowKit
set_option linter.unusedVariables false

set_option linter.unusedSimpArgs false
theorem own_rowN {w : World} {B sz n g : Nat} {e : TypeId} {v : Value} {xs : List Value} (h : w.ownsRow B e sz v n xs) (hg : v.ownBlock = some g) : B ≤ g := by
  rcases h.2 with ⟨rfl, _⟩ | ⟨g', cap, cur, rfl, hB, _⟩
  · cases hg
  · simp only [Value.ownBlock, Option.some.injEq] at hg
    omega
theorem own_low {w : World} {B B' sz n : Nat} {e : TypeId} {v : Value} {xs : List Value} (h : w.ownsRow B e sz v n xs) (hB : B' ≤ B) : w.ownsRow B' e sz v n xs := by
  refine ⟨h.1, ?_⟩
  rcases h.2 with hn | ⟨g, cap, cur, rfl, hb, rest⟩
  · exact .inl hn
  · exact .inr ⟨g, cap, cur, rfl, Nat.le_trans hB hb, rest⟩
theorem Wr.of_own' {B : Nat} {w : World} {v : Value} {ls : List L4} (hi : ∀ l ∈ ls, i64L l) (hv : v ≠ .slice none 0 0) (h : w.ownsRow B 45 4 v ls.length (layC ls)) : ∃ g, B ≤ g ∧ g < w.heap.size ∧ Wr g w v ls := by
  rcases h.2 with ⟨rfl, h0⟩ | ⟨g, cap, cur, rfl, hB, hg, h1, h2, h3, h4⟩
  · exact absurd rfl hv
  · refine ⟨g, hB, (Array.getElem?_eq_some_iff.1 hg).1, _, cap, rfl, hi, .inr ⟨rfl, cur.toList, ?_, ?_, ?_⟩⟩
    · unfold BlkT
      simpa using hg
    · have := congrArg List.length h4
      rw [List.length_take, layC_len] at this
      omega
    · exact h4
/-- A list of sections told: a row of its own, and a flag. -/
def GaveS (ls : List L4) (k : Bool) (w : World) (e : Ending) (w' : World) : Prop :=
  ∃ v g, e = .returned (.tuple #[v, .bool k]) ∧ w.heap.size ≤ g ∧ g < w'.heap.size ∧ Wr g w' v ls ∧ Below w.heap.size w w'
/-- The same, of the program: the block need not be there if nothing is told. -/
def GaveP (ls : List L4) (k : Bool) (w : World) (e : Ending) (w' : World) : Prop :=
  ∃ v g, e = .returned (.tuple #[v, .bool k]) ∧ w.heap.size ≤ g ∧ Wr g w' v ls ∧ Below w.heap.size w w'
theorem undo_i64 {l : L4} (h : okS l = true) (hi : i64L l) : i64L (undo l) := by
  obtain ⟨⟨p, q, k⟩, t⟩ := l
  have := inB_bd (okS_out h).2.1
  obtain ⟨h1, h2, h3, h4⟩ := hi
  have key : ∀ k : Int, (k = 0 ∨ k = 1 ∨ k = 2 ∨ k = 3) → i64B (-k % 4) := by
    rintro k (rfl | rfl | rfl | rfl) <;> (unfold i64B; decide)
  exact ⟨h1, h2, key k (by omega), h4⟩
set_option maxRecDepth 100000 in
set_option maxHeartbeats 16000000 in
theorem specFbBack_any (a : Option Addr) (ls : List L4) (cap : Nat) (w : World) (h : Lys w a ls) (hn : ls.length ≤ 1048576) : Calls Tryd.prog 10 #[.slice a ls.length cap] w (GaveS (if okFb ls = true then backM ls else []) (okFb ls) w) := by
  have hi64 := h.1
  have H := Lib.hid h
  clear h
  obtain ⟨v, hv⟩ : ∃ v, okFb ls = v := ⟨_, rfl⟩
  rw [hv]
  have V := Lib.hid hv
  clear hv
  obtain ⟨i0, hi0, hz0, hz1, hz2⟩ := info_parts info_section
  cases v with
  | false =>
    show Calls _ _ _ _ (GaveS [] false w)
    go_enter Tryd.func10, Tryd.ntmps10
    go_wp2_with fail
    refine (valid_at V.out (specFbValid_any a ls cap _ (H.out.keep (show Acc w _ by repeat' (first | (with_reducible first | assumption | exact Acc.refl _ | refine Acc.drew ?_ | refine Acc.drewN ?_ _ | refine Acc.alloc ?_ _ | refine Acc.setCell ?_ ?_ _) | (refine leB ?_; omega)))) hn)).mono ?_
    rintro e W1 ⟨rfl, hb⟩
    have hown : W1.ownsRow w.heap.size 45 4 (.slice (some ⟨w.heap.size, 0, none⟩) 0 0) 0 [] := own_keep (World.ownsRow_made w #[] 0 (Nat.le_refl _) (by decide) rfl) hb
    have kaW1 : Acc w W1 := by
      refine Acc.call ?_ hb
      (repeat' (first | (with_reducible first | assumption | exact Acc.refl _ | refine Acc.drew ?_ | refine Acc.drewN ?_ _ | refine Acc.alloc ?_ _ | refine Acc.setCell ?_ ?_ _) | (refine leB ?_; omega)))
    clear hb
    have HO := Lib.hid hown
    clear hown hi0 hz0 hz1 hz2
    go_wp2_with fail
    refine bodyPost_ret (by conv => lhs; simp [results, Tryd.results10, go_sem, *]) rfl ?_
    obtain ⟨g, hg1, hg2, hg3⟩ := Wr.of_own' (ls := []) (fun l h => by cases h) (fun h => by cases h) HO.out
    exact ⟨_, g, rfl, hg1, hg2, hg3, kaW1⟩
  | true =>
    show Calls _ _ _ _ (GaveS (backM ls) true w)
    go_enter Tryd.func10, Tryd.ntmps10
    go_wp2_with fail
    refine (valid_at V.out (specFbValid_any a ls cap _ (H.out.keep (show Acc w _ by repeat' (first | (with_reducible first | assumption | exact Acc.refl _ | refine Acc.drew ?_ | refine Acc.drewN ?_ _ | refine Acc.alloc ?_ _ | refine Acc.setCell ?_ ?_ _) | (refine leB ?_; omega)))) hn)).mono ?_
    rintro e W1 ⟨rfl, hb⟩
    have hown : W1.ownsRow w.heap.size 45 4 (.slice (some ⟨w.heap.size, 0, none⟩) 0 0) 0 [] := own_keep (World.ownsRow_made w #[] 0 (Nat.le_refl _) (by decide) rfl) hb
    have kaW1 : Acc w W1 := by
      refine Acc.call ?_ hb
      (repeat' (first | (with_reducible first | assumption | exact Acc.refl _ | refine Acc.drew ?_ | refine Acc.drewN ?_ _ | refine Acc.alloc ?_ _ | refine Acc.setCell ?_ ?_ _) | (refine leB ?_; omega)))
    clear hb
    have HN := Lib.hid hi64
    clear hi64
    go_wp2_with fail
    go_loopw [5, 4] (fun i v wr => ∃ m : Nat, i = .int .i64 ((m : Int) - 1) ∧ m ≤ ls.length ∧ Acc w wr ∧ v ≠ .slice none 0 0 ∧ wr.ownsRow w.heap.size 45 4 v ((ls.drop m).map undo).reverse.length (layC ((ls.drop m).map undo).reverse)) (fun i _ _ => (intOf i + 1).toNat)
    case atStart =>
      refine ⟨ls.length, rfl, Nat.le_refl _, kaW1, (fun h => by cases h), ?_⟩
      rw [List.drop_length]
      exact hown
    case round =>
      clear hown
      obtain ⟨m, rfl, hm, ka, hnn, hown⟩ := hrel
      have HNN := Lib.hid hnn
      have HO := Lib.hid hown
      clear hnn hown
      cases m with
      | zero =>
        rw [show ((0 : Nat) : Int) - 1 = -1 from rfl]
        have HP : RowKit.Hid (wr.ownsRow w.heap.size 45 4 _ (backM ls).length (layC (backM ls))) := Lib.hid HO.out
        clear HO hi0 hz0 hz1 hz2
        go_wp2_with fail
        refine bodyPost_ret (by conv => lhs; simp [results, Tryd.results10, go_sem, *]) rfl ?_
        obtain ⟨g, hg1, hg2, hg3⟩ := Wr.of_own' (ls := backM ls) (fun l h => by
          unfold backM at h
          obtain ⟨x, hx, rfl⟩ := List.mem_map.1 (List.mem_reverse.1 h)
          exact undo_i64 (okFb_mem V.out hx) (HN.out x hx)) HNN.out HP.out
        exact ⟨_, g, rfl, hg1, hg2, hg3, ka⟩
      | succ k =>
        rw [show ((k + 1 : Nat) : Int) - 1 = (k : Int) by omega]
        have hlt : k < ls.length := hm
        obtain ⟨c, off, rfl, hc, hi, e0, e1, e2, e3⟩ := H.out.at hlt
        have HT : RowKit.Hid (ls.take (k + 1) = ls.take k ++ [ls[k]]) := Lib.hid (by rw [List.take_add_one, List.getElem?_eq_getElem hlt]; rfl)
        have HD : RowKit.Hid (ls.drop k = ls[k] :: ls.drop (k + 1)) := Lib.hid (List.drop_eq_getElem_cons hlt)
        have HM : RowKit.Hid (ls[k] ∈ ls) := Lib.hid (List.getElem_mem hlt)
        generalize ls[k] = x at hi e0 e1 e2 e3 HT HD HM
        obtain ⟨⟨n1, n2, n3⟩, q⟩ := x
        dsimp only at e0 e1 e2 e3
        have HC := Lib.hid fun (W : World) (ka : Acc w W) => And.intro ((ka.cell (p := ⟨c, off + k * 4, none⟩) hc).trans e0) (And.intro ((ka.cell (p := ⟨c, off + k * 4 + 1, none⟩) hc).trans e1) (And.intro ((ka.cell (p := ⟨c, off + k * 4 + 2, none⟩) hc).trans e2) ((ka.cell (p := ⟨c, off + k * 4 + 3, none⟩) hc).trans e3)))
        have hk1 : k + 1 ≤ ls.length := hlt
        have HI := Lib.hid hi
        clear hi e0 e1 e2 e3 hc
        obtain ⟨e0, e1, e2, e3⟩ := HC.out _ ka
        have HB : RowKit.Hid (0 ≤ n3 ∧ n3 ≤ 3) := Lib.hid (inB_bd (okS_out (okFb_mem V.out HM.out)).2.1)
        obtain ⟨hn0, hn3⟩ := HB.out
        have hk0 : (0 : Int) ≤ (k : Int) := by omega
        have hk2 : (k : Int) < (ls.length : Int) := by omega
        have hlen : ((ls.drop (k + 1)).map undo).reverse.length = ls.length - (k + 1) := by rw [List.length_reverse, List.length_map, List.length_drop]
        have h8 := (okFb_all V.out).2
        obtain ⟨acc, hacc⟩ : ∃ acc, ((ls.drop (k + 1)).map undo).reverse = acc := ⟨_, rfl⟩
        rw [hacc] at HO hlen
        have hl8 : acc.length ≤ 8 := by omega
        clear hlen
        have HAC := Lib.hid hacc
        clear hacc
        have O3 := HO.out
        have kas : w.heap.size ≤ wr.heap.size := ka.size
        go_wp2_with (first | (at_builtin; refine wpList_append_own _ rfl _ _ 23 rfl w.heap.size 45 i0 (.agg #[.int .i64 0, .int .i64 0, .int .i64 0, .int .i64 0]) 4 32 Tryd.underlying23 hi0 hz0 hz1 hz2 rfl (by decide) _ _ _ rfl (own_keep O3 (show Acc wr _ by repeat' (first | (with_reducible first | assumption | exact Acc.refl _ | refine Acc.drew ?_ | refine Acc.drewN ?_ _ | refine Acc.alloc ?_ _ | refine Acc.setCell ?_ ?_ _) | (refine leB ?_; omega)))) ⟨(wr.heap.size + 1), 0, none⟩ 1 1 [.int .i64 n1, .int .i64 n2, .int .i64 (-n3 % 4), .int .i64 q] rfl rfl ?c1 ?c2 ?c3 ?c4 ?c5 ?_) | fail)
        case c1 =>
          intro j u hj
          match j, hj with
          | 0, hj => simp at hj; subst hj; simp [Addr.add]
          | 1, hj => simp at hj; subst hj; simp [Addr.add]
          | 2, hj => simp at hj; subst hj; simp [Addr.add]
          | 3, hj => simp at hj; subst hj; simp [Addr.add]
        case c2 => intro u hu; simp at hu; rcases hu with rfl | rfl | rfl | rfl <;> rfl
        case c3 => unfold maxLen; omega
        case c4 => omega
        case c5 => first | omega | (simp; done) | (simp; omega)
        intro v' w' hown' hgrow hnil
        have HNI := Lib.hid hnil
        have HG := Lib.hid hgrow
        clear hnil hgrow O3
        go_wp2_with fail
        go_roundw
        case rel =>
          refine ⟨k, by go_num, Nat.le_of_lt hlt, ?_, (fun h => by first | exact HNI.out h | (have := (HNI.out.1 h).2; omega)), ?_⟩
          · exact Below.grown (show Acc w _ by repeat' (first | (with_reducible first | assumption | exact Acc.refl _ | refine Acc.drew ?_ | refine Acc.drewN ?_ _ | refine Acc.alloc ?_ _ | refine Acc.setCell ?_ ?_ _) | (refine leB ?_; omega))) HG.out (by simp; omega) (fun g hg => own_rowN HO.out hg)
          · rw [HD.out, List.map_cons, List.reverse_cons, HAC.out, List.length_append, layC_append]
            exact hown'
        case measure => (simp [intOf]; try omega)
end Go.Proofs.YtkdkeacfifjjoaaDoor
