/-
  The program's fibres: made of lists, told.
-/
import Derived.Test.YtkdkeacfifjjoaaGreatDoorImplG3
import Derived.Test.YtkdkeacfifjjoaaGreatDoorBImplF
import Derived.Test.YtkdkeacfifjjoaaGreatDoorBFib
import Derived.Test.YtkdkeacfifjjoaaGreatDoorImplG13
namespace Go.Proofs.YtkdkeacfifjjoaaGreatDoor
open Go.ChangeShapes Go.WideShapes Go.ChangeAt Go.RowKit
set_option linter.unusedVariables false

set_option linter.unusedSimpArgs false
set_option maxHeartbeats 2000000 in
theorem toldFb_ok (p : Option Addr) (w : World) : Calls Tryz.prog 64 #[.pointer p, .nilIface] w fun e w' => e = .returned (.tuple #[.pointer p, .bool true]) ∧ Below w.heap.size w w' := by
  go_enter Tryz.func64, Tryz.ntmps64
  go_wp2_with fail
  refine (isNone_nil _).mono ?_
  rintro e W1 ⟨rfl, hb⟩
  have kaW1 : Acc w W1 := by
    refine Acc.call ?_ hb
    (repeat' (first | (with_reducible first | assumption | exact Acc.refl _ | refine Acc.drew ?_ | refine Acc.drewN ?_ _ | refine Acc.alloc ?_ _ | refine Acc.setCell ?_ ?_ _) | (refine leB ?_; omega)))
  clear hb
  go_wp2_with fail
  refine bodyPost_ret (by conv => lhs; simp [results, Tryz.results64, go_sem, *]) rfl ⟨rfl, ?_⟩
  show Acc w _
  (repeat' (first | (with_reducible first | assumption | exact Acc.refl _ | refine Acc.drew ?_ | refine Acc.drewN ?_ _ | refine Acc.alloc ?_ _ | refine Acc.setCell ?_ ?_ _) | (refine leB ?_; omega)))
set_option maxHeartbeats 2000000 in
theorem toldFb_err (p : Option Addr) (s : ByteArray) (w : World) (hl : Laid w) : Calls Tryz.prog 64 #[.pointer p, .iface 128 (.agg #[.string s])] w fun e w' => e = .returned (.tuple #[.pointer none, .bool false]) ∧ Below w.heap.size w w' := by
  have HL := Lib.hid fun W (k : Acc w W) => hl.acc k
  clear hl
  go_enter Tryz.func64, Tryz.ntmps64
  go_wp2_with fail
  refine (isNone_hit s _ (HL.out _ (by repeat' (first | (with_reducible first | assumption | exact Acc.refl _ | refine Acc.drew ?_ | refine Acc.drewN ?_ _ | refine Acc.alloc ?_ _ | refine Acc.setCell ?_ ?_ _) | (refine leB ?_; omega))))).mono ?_
  rintro e W1 ⟨rfl, hb⟩
  have kaW1 : Acc w W1 := by
    refine Acc.call ?_ hb
    (repeat' (first | (with_reducible first | assumption | exact Acc.refl _ | refine Acc.drew ?_ | refine Acc.drewN ?_ _ | refine Acc.alloc ?_ _ | refine Acc.setCell ?_ ?_ _) | (refine leB ?_; omega)))
  clear hb
  go_wp2_with fail
  refine bodyPost_ret (by conv => lhs; simp [results, Tryz.results64, go_sem, *]) rfl ⟨rfl, ?_⟩
  show Acc w _
  (repeat' (first | (with_reducible first | assumption | exact Acc.refl _ | refine Acc.drew ?_ | refine Acc.drewN ?_ _ | refine Acc.alloc ?_ _ | refine Acc.setCell ?_ ?_ _) | (refine leB ?_; omega)))
set_option linter.unusedSimpArgs false
set_option maxHeartbeats 4000000 in
theorem undoing_any (n1 n2 n3 q : Int) (h0 : 0 ≤ n3) (h3 : n3 ≤ 3) (w : World) : Calls Tryz.prog 66 #[.agg #[.int .i64 n1, .int .i64 n2, .int .i64 n3, .int .i64 q]] w fun e w' => e = .returned (.agg #[.int .i64 n1, .int .i64 n2, .int .i64 (-n3 % 4), .int .i64 q]) ∧ Below w.heap.size w w' := by
  go_enter Tryz.func66, Tryz.ntmps66
  go_wp2_with fail
  refine bodyPost_ret (v := .agg #[.int .i64 n1, .int .i64 n2, .int .i64 (-n3 % 4), .int .i64 q]) (by simp [results, Tryz.results66, go_sem, *]) rfl ⟨rfl, ?_⟩
  show Acc w _
  (repeat' (first | (with_reducible first | assumption | exact Acc.refl _ | refine Acc.drew ?_ | refine Acc.drewN ?_ _ | refine Acc.alloc ?_ _ | refine Acc.setCell ?_ ?_ _) | (refine leB ?_; omega)))
/-- A pointer's measure. -/
def ptrM : Value → Nat
  | .pointer (some a) => a.block + 1
  | _ => 0
theorem undo_ok {l : L4} (h : okS l = true) : okS (undo l) = true := by
  obtain ⟨⟨p, q, k⟩, t⟩ := l
  have hk := pha_in (okS_out h).2.1
  unfold okS undo at *
  simp only [Bool.and_eq_true] at h ⊢
  refine ⟨⟨h.1.1, ?_⟩, h.2⟩
  rcases hk with rfl | rfl | rfl | rfl <;> decide
set_option maxRecDepth 100000 in
set_option maxHeartbeats 8000000 in
theorem fbBack_any (n₀ : Nat) (rs : List L4) (p : Option Addr) (w : World) (hf : Fib n₀ w.heap.size w p rs) (hok : ∀ s ∈ rs, okS s = true) : Calls Tryz.prog 31 #[.pointer p] w fun e w' => ∃ q, e = .returned (.pointer q) ∧ Fib w.heap.size w'.heap.size w' q (rs.map undo).reverse ∧ Below w.heap.size w w' := by
  have HF := Lib.hid hf
  have HK := Lib.hid hok
  clear hf hok
  go_enter Tryz.func31, Tryz.ntmps31
  go_wp2_with fail
  go_loopw [0, 3] (fun u v wr => ∃ (f b : Option Addr) (rem acc : List L4), u = .pointer f ∧ v = .pointer b ∧ Acc w wr ∧ (∃ n₁, n₁ ≤ w.heap.size ∧ Fib n₀ n₁ wr f rem) ∧ Fib w.heap.size wr.heap.size wr b acc ∧ (∀ s ∈ rem, okS s = true) ∧ (rs.map undo).reverse = (rem.map undo).reverse ++ acc) (fun u _ _ => ptrM u)
  case atStart => exact ⟨p, none, rs, [], rfl, rfl, Acc.refl _, ⟨_, Nat.le_refl _, HF.out⟩, rfl, HK.out, (List.append_nil _).symm⟩
  case round =>
    clear HF HK
    obtain ⟨f, b, rem, acc, rfl, rfl, ka, ⟨n₁, hn1, hf⟩, hb, hok, he⟩ := hrel
    have HB := Lib.hid hb
    have HK := Lib.hid hok
    have HE := Lib.hid he
    clear hb hok he
    cases rem with
    | nil =>
      obtain rfl : f = none := hf
      have HR : RowKit.Hid (Fib w.heap.size wr.heap.size wr b (rs.map undo).reverse) := Lib.hid (by rw [HE.out]; exact HB.out)
      clear HE HB HK
      go_wp2_with fail
      go_ret
      exact ⟨b, rfl, HR.out, ka⟩
    | cons s r =>
      obtain ⟨⟨n1, n2, n3⟩, q⟩ := s
      obtain ⟨b1, f1, rfl, hb0, hb1, Bb, hf1⟩ := hf
      have HS := HK.out _ (List.mem_cons_self ..)
      have HI := inB_bd (okS_out HS).2.1
      obtain ⟨h0, h3⟩ := HI
      have HF := Lib.hid hf1
      have Bb : Blk wr b1 [.int .i64 n1, .int .i64 n2, .int .i64 n3, .int .i64 q, .pointer f1] := Bb
      have kas : w.heap.size ≤ wr.heap.size := ka.size
      have hlt : b1 < w.heap.size := by omega
      clear hf1 HS
      have cb := Bb.cell
      have fb := Bb.free
      have lb_wr := Bb.lt
      have K0 := Lib.hid ka
      have kaw : Acc wr wr := Acc.refl _
      clear ka
      go_wp2_with fail
      refine (undoing_any n1 n2 n3 q h0 h3 _).mono ?_
      rintro e W1 ⟨rfl, hb⟩
      have Bb : Blk W1 (b1) [.int .i64 n1, .int .i64 n2, .int .i64 n3, .int .i64 q, .pointer f1] := Blk.keep hb (by repeat' (first | (with_reducible first | assumption | refine Blk.drew ?_ | refine Blk.drewN ?_ _ | apply Blk.set | (refine Blk.new ?_; focus (first | rfl | (simp; done))) | refine Blk.alloc ?_ _ | refine Blk.other ?_ ?_ _) | exact eqL rfl | (refine neB ?_; omega)))
      have cb := Bb.cell
      have fb := Bb.free
      have lb_W1 := Bb.lt
      have kaW1 : Acc wr W1 := by
        refine Acc.call ?_ hb
        (repeat' (first | (with_reducible first | assumption | exact Acc.refl _ | refine Acc.drew ?_ | refine Acc.drewN ?_ _ | refine Acc.alloc ?_ _ | refine Acc.setCell ?_ ?_ _) | (refine leB ?_; omega)))
      clear hb
      go_wp2_with fail
      go_roundw
      case rel =>
        refine ⟨f1, some ⟨W1.heap.size, 0, none⟩, r, undo ((n1, n2, n3), q) :: acc, rfl, rfl, Acc.call K0.out (show Acc wr _ by repeat' (first | (with_reducible first | assumption | exact Acc.refl _ | refine Acc.drew ?_ | refine Acc.drewN ?_ _ | refine Acc.alloc ?_ _ | refine Acc.setCell ?_ ?_ _) | (refine leB ?_; omega))), ⟨b1, Nat.le_of_lt hlt, HF.out.below (Below.mono (show Acc wr _ by repeat' (first | (with_reducible first | assumption | exact Acc.refl _ | refine Acc.drew ?_ | refine Acc.drewN ?_ _ | refine Acc.alloc ?_ _ | refine Acc.setCell ?_ ?_ _) | (refine leB ?_; omega))) (Nat.le_of_lt lb_wr))⟩, ?_, fun s hs => HK.out s (List.mem_cons_of_mem _ hs), ?_⟩
        · exact Fib.cons ((HB.out.below (show Acc wr _ by repeat' (first | (with_reducible first | assumption | exact Acc.refl _ | refine Acc.drew ?_ | refine Acc.drewN ?_ _ | refine Acc.alloc ?_ _ | refine Acc.setCell ?_ ?_ _) | (refine leB ?_; omega)))).mono kaW1.size) (Nat.le_trans kas kaW1.size) (show Blk _ _ [.int .i64 n1, .int .i64 n2, .int .i64 (-n3 % 4), .int .i64 q, .pointer b] by repeat' (first | (with_reducible first | assumption | refine Blk.drew ?_ | refine Blk.drewN ?_ _ | apply Blk.set | (refine Blk.new ?_; focus (first | rfl | (simp; done))) | refine Blk.alloc ?_ _ | refine Blk.other ?_ ?_ _) | exact eqL rfl | (refine neB ?_; omega)))
        · rw [HE.out, List.map_cons, List.reverse_cons, List.append_assoc]
          rfl
      case measure =>
        cases f1 with
        | none => simp [ptrM]
        | some f1 =>
          have : f1.block < b1 := by
            cases r with
            | nil => cases HF.out
            | cons s r =>
              obtain ⟨b2, f2, e, h1, h2, h3, h4⟩ := HF.out
              cases e
              exact h2
          simp only [ptrM]
          omega

set_option linter.unusedSimpArgs false
set_option maxRecDepth 100000 in
set_option maxHeartbeats 8000000 in
theorem toldSec_back (a : Option Addr) (ls : List L4) (cap : Nat) (w : World) (h : Lys w a ls) (hn : ls.length ≤ 1048576) (hl : Laid w)
    (K : okFb ls = true → ∀ n₀ p W, w.heap.size ≤ n₀ → n₀ ≤ W.heap.size → Acc w W → Fib n₀ W.heap.size W p ls.reverse → Calls Tryz.prog 31 #[.pointer p] W fun e w' => ∃ q, e = .returned (.pointer q) ∧ (∃ n', Fib n' w'.heap.size w' q ((ls.reverse.map undo).reverse)) ∧ Below n₀ W w') (h8 : okFb ls = true → ((ls.reverse.map undo).reverse).length ≤ 8) (hi : okFb ls = true → ∀ l ∈ ((ls.reverse.map undo).reverse).reverse, i64L l) :
    Calls Tryz.prog 30 #[.slice a ls.length cap, .func (.func 31) #[] #[]] w (GaveP (if okFb ls = true then ((ls.reverse.map undo).reverse).reverse else []) (okFb ls) w) := by
  have T := Lib.hid fun (W : World) (k : Acc w W) => fibreOf_any a ls cap W (h.keep k) hn
  clear h
  have HL := Lib.hid fun W (k : Acc w W) => hl.acc k
  clear hl
  obtain ⟨v, hv⟩ : ∃ v, okFb ls = v := ⟨_, rfl⟩
  rw [hv] at K h8 hi ⊢
  have HV := Lib.hid hv
  clear hv
  cases v with
  | false =>
    clear K h8 hi
    show Calls _ _ _ _ (GaveP [] false w)
    go_enter Tryz.func30, Tryz.ntmps30
    go_wp2_with fail
    refine (T.out _ (by repeat' (first | (with_reducible first | assumption | exact Acc.refl _ | refine Acc.drew ?_ | refine Acc.drewN ?_ _ | refine Acc.alloc ?_ _ | refine Acc.setCell ?_ ?_ _) | (refine leB ?_; omega)))).mono ?_
    rintro e W1 ⟨-, h, hb⟩
    obtain ⟨s, rfl⟩ := h HV.out
    clear h
    have kaW1 : Acc w W1 := by
      refine Acc.call ?_ hb
      (repeat' (first | (with_reducible first | assumption | exact Acc.refl _ | refine Acc.drew ?_ | refine Acc.drewN ?_ _ | refine Acc.alloc ?_ _ | refine Acc.setCell ?_ ?_ _) | (refine leB ?_; omega)))
    clear hb
    go_wp2_with fail
    refine (toldFb_err _ s _ (HL.out _ (by repeat' (first | (with_reducible first | assumption | exact Acc.refl _ | refine Acc.drew ?_ | refine Acc.drewN ?_ _ | refine Acc.alloc ?_ _ | refine Acc.setCell ?_ ?_ _) | (refine leB ?_; omega))))).mono ?_
    rintro e W2 ⟨rfl, hb⟩
    have kaW2 : Acc w W2 := by
      refine Acc.call ?_ hb
      (repeat' (first | (with_reducible first | assumption | exact Acc.refl _ | refine Acc.drew ?_ | refine Acc.drewN ?_ _ | refine Acc.alloc ?_ _ | refine Acc.setCell ?_ ?_ _) | (refine leB ?_; omega)))
    clear hb
    go_wp2_with fail
    refine bodyPost_ret (by conv => lhs; simp [results, Tryz.results30, go_sem, *]) rfl ?_
    exact ⟨_, _, rfl, Nat.le_refl _, ⟨none, 0, rfl, (fun l h => by cases h), .inl rfl⟩, (show Acc w _ by repeat' (first | (with_reducible first | assumption | exact Acc.refl _ | refine Acc.drew ?_ | refine Acc.drewN ?_ _ | refine Acc.alloc ?_ _ | refine Acc.setCell ?_ ?_ _) | (refine leB ?_; omega)))⟩
  | true =>
    have HK := Lib.hid (K rfl)
    have H8 := Lib.hid (h8 rfl)
    have HI := Lib.hid (hi rfl)
    clear K h8 hi
    obtain ⟨RS, hRS⟩ : ∃ RS, (ls.reverse.map undo).reverse = RS := ⟨_, rfl⟩
    rw [hRS] at HK H8 HI
    show Calls _ _ _ _ (GaveP ((ls.reverse.map undo).reverse).reverse true w)
    rw [hRS]
    clear hRS
    go_enter Tryz.func30, Tryz.ntmps30
    go_wp2_with fail
    refine (T.out _ (by repeat' (first | (with_reducible first | assumption | exact Acc.refl _ | refine Acc.drew ?_ | refine Acc.drewN ?_ _ | refine Acc.alloc ?_ _ | refine Acc.setCell ?_ ?_ _) | (refine leB ?_; omega)))).mono ?_
    rintro e W1 ⟨h, -, hb⟩
    obtain ⟨p, rfl, hf⟩ := h HV.out
    clear h
    have hn₀ : w.heap.size ≤ w.heap.size := Nat.le_refl _
    have ls1 := hb.size
    have kaW1 : Acc w W1 := by
      refine Acc.call ?_ hb
      (repeat' (first | (with_reducible first | assumption | exact Acc.refl _ | refine Acc.drew ?_ | refine Acc.drewN ?_ _ | refine Acc.alloc ?_ _ | refine Acc.setCell ?_ ?_ _) | (refine leB ?_; omega)))
    clear hb
    have HF := Lib.hid hf
    clear hf
    go_wp2_with fail
    refine (toldFb_ok _ _).mono ?_
    rintro e W2 ⟨rfl, hb⟩
    have hbb := Lib.hid hb
    have kaW2 : Acc w W2 := by
      refine Acc.call ?_ hb
      (repeat' (first | (with_reducible first | assumption | exact Acc.refl _ | refine Acc.drew ?_ | refine Acc.drewN ?_ _ | refine Acc.alloc ?_ _ | refine Acc.setCell ?_ ?_ _) | (refine leB ?_; omega)))
    clear hb
    go_wp2_with fail
    refine (HK.out w.heap.size _ _ (Nat.le_refl _) (accSize (by repeat' (first | (with_reducible first | assumption | exact Acc.refl _ | refine Acc.drew ?_ | refine Acc.drewN ?_ _ | refine Acc.alloc ?_ _ | refine Acc.setCell ?_ ?_ _) | (refine leB ?_; omega)))) (show Acc w _ by repeat' (first | (with_reducible first | assumption | exact Acc.refl _ | refine Acc.drew ?_ | refine Acc.drewN ?_ _ | refine Acc.alloc ?_ _ | refine Acc.setCell ?_ ?_ _) | (refine leB ?_; omega))) (HF.out.keep hbb.out)).mono ?_
    rintro e W3 ⟨q, rfl, ⟨n', hq⟩, hb⟩
    have hb' := hb
    have kaW3 : Acc w W3 := Below.trans (show Acc w _ by repeat' (first | (with_reducible first | assumption | exact Acc.refl _ | refine Acc.drew ?_ | refine Acc.drewN ?_ _ | refine Acc.alloc ?_ _ | refine Acc.setCell ?_ ?_ _) | (refine leB ?_; omega))) hb
    have HQ := Lib.hid hq
    clear hb hb' hq
    go_wp2_with fail
    refine (fbSections_any n' _ _ _ HQ.out H8.out).mono ?_
    rintro e W4 ⟨v, rfl, ho, hb⟩
    have kaW4 : Acc w W4 := Acc.call kaW3 hb
    have HO : RowKit.Hid (W4.ownsRow w.heap.size 64 4 v RS.reverse.length (layC RS.reverse)) := Lib.hid (by rw [List.length_reverse]; exact own_low ho kaW3.size)
    clear ho hb
    go_wp2_with fail
    refine bodyPost_ret (by conv => lhs; simp [results, Tryz.results30, go_sem, *]) rfl ?_
    obtain ⟨g, hg1, hg2⟩ := Wr.of_own HI.out HO.out
    exact ⟨_, g, rfl, hg1, hg2, kaW4⟩
set_option maxHeartbeats 4000000 in
theorem implFbBack_any (a : Option Addr) (ls : List L4) (cap : Nat) (w : World) (h : Lys w a ls) (hn : ls.length ≤ 1048576) (hl : Laid w) : Calls Tryz.prog 10 #[.slice a ls.length cap] w (GaveP (if okFb ls = true then backM ls else []) (okFb ls) w) := by
  have HI := h.1
  have T := toldSec_back a ls cap w h hn hl (fun ok n₀ p W h0 h1 ka hf => (fbBack_any n₀ ls.reverse p W hf (fun s hs => okFb_mem ok (List.mem_reverse.1 hs))).mono fun e w' h => by obtain ⟨q, he, hq, hb⟩ := h; exact ⟨q, he, ⟨_, hq⟩, hb.mono h1⟩) (fun ok => by rw [List.length_reverse, List.length_map, List.length_reverse]; exact (okFb_all ok).2) (fun ok l hl => by rw [List.reverse_reverse] at hl; obtain ⟨x, hx, rfl⟩ := List.mem_map.1 hl; exact undo_i64 (okFb_mem ok (List.mem_reverse.1 hx)) (HI x (List.mem_reverse.1 hx)))
  have HT := Lib.hid T
  clear T HI
  have EB : ((ls.reverse.map undo).reverse).reverse = backM ls := by rw [List.reverse_reverse]; unfold backM; rw [List.map_reverse]
  rw [EB] at HT
  clear EB
  obtain ⟨RS, hRS⟩ : ∃ RS, (if okFb ls = true then backM ls else []) = RS := ⟨_, rfl⟩
  obtain ⟨vv, hvv⟩ : ∃ v, okFb ls = v := ⟨_, rfl⟩
  rw [hRS, hvv] at HT
  rw [hRS, hvv]
  clear hvv hRS
  go_enter Tryz.func10, Tryz.ntmps10
  go_wp2_with fail
  refine HT.out.mono ?_
  rintro e W1 ⟨v, g, rfl, hg, hw, hb⟩
  have HW := Lib.hid hw
  clear hw
  go_wp2_with fail
  refine bodyPost_ret (by conv => lhs; simp [results, Tryz.results10, go_sem, *]) rfl ?_
  exact ⟨_, g, rfl, hg, HW.out, hb⟩
end Go.Proofs.YtkdkeacfifjjoaaGreatDoor
