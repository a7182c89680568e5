/- Contracts of functions, walked over the pure layer; each says for which arguments. -/
import Derived.Test.YtafeflonhbgbkaaGreatDoorIm3Ty
import Derived.Shelf.Strings.BuilderRune
import Derived.Lib.AppendIntMem
import Derived.RangeFuncNested
import Derived.RangeFuncBound
import Derived.RangeFuncCalls
import Derived.RangeFuncLeaves
import Derived.RangeFuncBox
import Derived.Shelf.Abstract
import Derived.Shelf.RegionOpen
import Derived.WalkKit
import Derived.OwnWalkIn
import Derived.TacticsInMore
import Derived.LoopNIn
import Derived.LoopIn
import Derived.Maps.AppendAt
import Derived.Test.YtafeflonhbgbkaaGreatDoorTf
import Derived.Test.YtafeflonhbgbkaaGreatDoorSp
import Derived.Test.YtafeflonhbgbkaaGreatDoorShelf
import Derived.Test.YtafeflonhbgbkaaGreatDoorBl
import Derived.Test.YtafeflonhbgbkaaGreatDoorIm
import Derived.Test.YtafeflonhbgbkaaGreatDoorIt
import Derived.Test.YtafeflonhbgbkaaGreatDoorSpl
import Derived.Test.YtafeflonhbgbkaaGreatDoorIm2
namespace Go.Proofs.YtafeflonhbgbkaaGreatDoor
open Go.RowKit Im3Ty
set_option linter.unusedVariables false
set_option linter.unusedSimpArgs false

theorem ord_lo {p : List UInt8} (h : OrdP p) : ∀ i, i < p.length → 97 + i ≤ (p.getD i 0).toNat
  | 0, hi => (h 0 hi).1
  | i + 1, hi => by
    have ih := ord_lo h i (by omega)
    have := (h (i + 1) hi).2.2 (by omega)
    rw [Nat.add_sub_cancel] at this
    omega
theorem ord_len {p : List UInt8} (h : OrdP p) : p.length ≤ 7 := by
  by_cases h0 : p.length ≤ 7
  · exact h0
  · have h1 := ord_lo h 7 (by omega)
    have h2 := (h 7 (by omega)).2.1
    omega
theorem part_len {p : List UInt8} (h : PartOk p) : p.length ≤ 7 := by
  rcases h with rfl | h
  · decide
  · exact ord_len h.2
def totL (l : List (List UInt8)) : Nat := l.foldl (fun a p => a + (p.length + 1)) 0
theorem totL_snoc (l : List (List UInt8)) (p : List UInt8) : totL (l ++ [p]) = totL l + (p.length + 1) := by unfold totL; rw [List.foldl_append]; rfl
theorem split_tot (b : UInt8) (s : List UInt8) : ∀ k, k ≤ s.length → totL (splitF b (s.take k)).1 + (splitF b (s.take k)).2.length = k
  | 0, _ => by rw [List.take_zero]; rfl
  | k + 1, h => by
    have ih := split_tot b s k (by omega)
    rw [take_snocL s k (by omega), splitF_snoc]
    split
    · simp only [totL_snoc, List.length_nil]; omega
    · simp only [List.length_append, List.length_singleton]; omega
theorem totL_le (m : Nat) (l : List (List UInt8)) (h : ∀ p ∈ l, p.length ≤ m) : totL l ≤ (m + 1) * l.length := by
  have key : ∀ (l : List (List UInt8)) (a : Nat), (∀ p ∈ l, p.length ≤ m) → l.foldl (fun a p => a + (p.length + 1)) a ≤ a + (m + 1) * l.length := by
    intro l
    induction l with
    | nil => intro a _; simp
    | cons p l ih =>
      intro a h
      have h1 := ih (a + (p.length + 1)) (fun q hq => h q (by simp [hq]))
      have h2 := h p (by simp)
      rw [List.foldl_cons, List.length_cons, Nat.mul_add]
      omega
  have := key l 0 h
  rw [Nat.zero_add] at this
  exact this
theorem split_short {s : List UInt8} (h : (splitL 32 s).length ≤ 6) (hp : ∀ j, j < (splitL 32 s).length → PartOk ((splitL 32 s).getD j [])) : s.length ≤ 48 := by
  have hall : ∀ p ∈ splitL 32 s, p.length ≤ 7 := fun p hm => by
    obtain ⟨j, hj, rfl⟩ := List.getElem_of_mem hm
    have := hp j hj
    have e : (splitL 32 s).getD j [] = (splitL 32 s)[j] := by simp [hj]
    rw [e] at this
    exact part_len this
  have h1 := split_tot 32 s s.length (Nat.le_refl _)
  rw [List.take_length] at h1
  have h2 := totL_le 7 (splitL 32 s) hall
  have h3 : totL (splitL 32 s) = totL (splitF 32 s).1 + ((splitF 32 s).2.length + 1) := by unfold splitL; rw [totL_snoc]
  omega
def spl32 (s : List UInt8) : List (List UInt8) := if s.length ≤ 4000 then splitL 32 s else []
theorem spl32_eq {s : List UInt8} (h : s.length ≤ 4000) : spl32 s = splitL 32 s := if_pos h
def prZ (l : List (List UInt8)) (k : Nat) : List Int := (l.take k).map partC ++ List.replicate (l.length - k) 0
theorem prZ_put (l : List (List UInt8)) {k : Nat} (h : k < l.length) : putAt ((prZ l k).map (.int .i64)) (k * 1) [PV.int .i64 (partC (l.getD k []))] = (prZ l (k + 1)).map (.int .i64) := by
  rw [put_map1 (PV.int .i64) _ (by simp [prZ]; omega)]
  congr 1
  unfold prZ
  rw [List.set_append_right _ _ (by simp; omega), show k - ((l.take k).map partC).length = 0 by simp; omega, show l.length - k = (l.length - (k + 1)) + 1 by omega, List.replicate_succ, List.set_cons_zero, map_take partC [] l h]
  simp
theorem prZ_end (l : List (List UInt8)) : prZ l l.length = l.map partC := by simp [prZ]
theorem prZ_len (l : List (List UInt8)) {k : Nat} (h : k ≤ l.length) : (prZ l k).length = l.length := by simp [prZ]; omega


theorem split32 (s : List UInt8) (hs : s.length ≤ 4611686018427387904) : PCalls Tryz.prog 57 [.str s, .str [32]] (· = [.own 0 9 1 (spl32 s).length ((spl32 s).map .str), .val (.bool (decide (s.length ≤ 4000)))]) := by
  refine (impl_SplitString s [32] hs (by decide)).mono ?_
  rintro _ rfl
  unfold spl32
  by_cases h : s.length ≤ 4000
  · have e : s.length ≤ 4000 ∧ [(32 : UInt8)].length = 1 := ⟨h, rfl⟩
    simp only [if_pos h, if_pos e, decide_eq_true h, decide_eq_true e]; rfl
  · have e : ¬ (s.length ≤ 4000 ∧ [(32 : UInt8)].length = 1) := fun k => h k.1
    simp only [if_neg h, if_neg e, decide_eq_false h, decide_eq_false e]

set_option maxRecDepth 4000 in
theorem impl_parseCell (p : List UInt8) (hp : p.length ≤ 4611686018427387904) : PCalls Tryz.prog 58 [.str p] (· = [.val (.int .i64 (if PartOk p then partC p else 0)), .val (.bool (decide (PartOk p)))]) := by
  refine pcalls_of_code (n := 13) az Tryz.func58 (by kernel_rfl) rfl rfl (Nat.le_of_ble_eq_true rfl) (by intro t u h; simp [Tryz.f58] at h) ?_
  refine code_seq (fun K1 hK1 => ?_)
  refine code_region ?_
  refine list_cons rfl (op_q (q_assign rfl (by decide)) ?_)
  refine list_cons rfl (op_q (q_assign rfl (by decide)) ?_)
  refine list_nil ?_
  refine hK1 _ ?_; clear hK1 K1
  refine code_seq (fun K2 hK2 => ?_)
  refine code_seq (fun K3 hK3 => ?_)
  refine code_region ?_
  refine list_cons rfl (op_q (q_move rfl (by decide)) ?_)
  refine list_nil ?_
  refine hK3 _ ?_; clear hK3 K3
  refine code_block ?_
  refine code_seq (fun K4 hK4 => ?_)
  refine code_region ?_
  refine list_cons rfl (op_q (q_seq rfl rfl (by decide)) ?_)
  refine list_cons rfl (op_q (q_assign rfl (by decide)) ?_)
  refine list_nil ?_
  refine hK4 _ ?_; clear hK4 K4
  refine code_cond_d rfl (fun h1 => ?_) (fun h1 => ?_)
  · skip
    (try simp only [Decidable.not_not] at h1)
    refine code_seq (fun K5 hK5 => ?_)
    refine code_region ?_
    refine list_cons rfl (op_q (q_assign rfl (by decide)) ?_)
    refine list_cons rfl (op_q (q_assign rfl (by decide)) ?_)
    refine list_nil ?_
    refine hK5 _ ?_; clear hK5 K5
    refine code_ret ?_
    refine blk_r ?_
    refine then_r ?_; clear hK2 K2
    refine ends_ret (cs := []) rfl rfl rfl rfl trivial ?_
    have e : ¬ PartOk p := fun k => by
      rcases k with k | k
      · rw [k] at h1; exact absurd h1 (by decide)
      · exact k.1 h1
    rw [if_neg e, decide_eq_false e]
  (try simp only [Decidable.not_not] at h1)
  refine code_seq (fun K6 hK6 => ?_)
  refine code_region ?_
  refine list_cons rfl (op_q (q_seq rfl rfl (by decide)) ?_)
  refine list_cons rfl (op_q (q_assign rfl (by decide)) ?_)
  refine list_nil ?_
  refine hK6 _ ?_; clear hK6 K6
  refine code_cond_d rfl (fun h2 => ?_) (fun h2 => ?_)
  · skip
    (try simp only [Decidable.not_not] at h2)
    refine code_seq (fun K7 hK7 => ?_)
    refine code_region ?_
    refine list_cons rfl (op_q (q_assign rfl (by decide)) ?_)
    refine list_cons rfl (op_q (q_assign rfl (by decide)) ?_)
    refine list_nil ?_
    refine hK7 _ ?_; clear hK7 K7
    refine code_ret ?_
    refine blk_r ?_
    refine then_r ?_; clear hK2 K2
    refine ends_ret (cs := []) rfl rfl rfl rfl trivial ?_
    have e : PartOk p := .inl h2
    rw [if_pos e, decide_eq_true e, partC, if_pos h2]
  (try simp only [Decidable.not_not] at h2)
  refine code_skip ?_
  refine blk_n ?_
  refine hK2 _ ?_; clear hK2 K2
  refine code_seq (fun K8 hK8 => ?_)
  refine code_region ?_
  refine list_cons rfl (op_q (q_move rfl (by decide)) ?_)
  refine list_cons rfl (op_call _ (impl_ParseBars _ (by first | omega | (simp; omega))) rfl rfl (by decide) (by decide) (by decide) rfl ?_)
  rintro _ rfl
  refine list_cons rfl (op_q (q_extract rfl rfl (by decide)) ?_)
  refine list_cons rfl (op_q (q_extract rfl rfl (by decide)) ?_)
  refine list_cons rfl (op_q (q_assign rfl (by decide)) ?_)
  refine list_cons rfl (op_q (q_assign rfl (by decide)) ?_)
  refine list_nil ?_
  refine hK8 _ ?_; clear hK8 K8
  refine codeT.imp (σ' := [(0, _), (2, _), (3, _), (4, _)]) ?_ (imp_covers ⟨rfl, rfl, rfl, rfl, trivial⟩)
  refine code_ret ?_
  refine ends_ret (cs := []) rfl rfl rfl rfl trivial ?_
  by_cases e : OrdP p
  · have e2 : PartOk p := .inr ⟨h1, e⟩
    rw [if_pos e, if_pos e2, decide_eq_true e, decide_eq_true e2, partC, if_neg h2]
  · have e2 : ¬ PartOk p := fun k => by
      rcases k with k | k
      · exact h2 k
      · exact e k.2
    rw [if_neg e, if_neg e2, decide_eq_false e, decide_eq_false e2]

set_option maxRecDepth 4000 in
theorem impl_ParseRow (s : List UInt8) (hs : s.length ≤ 4611686018427387904) : PCalls Tryz.prog 29 [.str s] (· = [.own 0 3 1 (if PRowP s then prowF s else []).length ((if PRowP s then prowF s else []).map (.int .i64)), .val (.bool (decide (PRowP s)))]) := by
  refine pcalls_of_code (n := 51) az Tryz.func29 (by kernel_rfl) rfl rfl (Nat.le_of_ble_eq_true rfl) (by intro t u h; simp [Tryz.f29] at h) ?_
  refine code_seq (fun K1 hK1 => ?_)
  refine code_region ?_
  refine list_cons rfl (op_q (q_assign rfl (by decide)) ?_)
  refine list_cons rfl (op_q (q_assign rfl (by decide)) ?_)
  refine list_nil ?_
  refine hK1 _ ?_; clear hK1 K1
  refine code_seq (fun K2 hK2 => ?_)
  refine code_seq (fun K3 hK3 => ?_)
  refine code_region ?_
  refine list_cons rfl (op_q (q_move rfl (by decide)) ?_)
  refine list_cons rfl (op_q (q_seq rfl rfl (by decide)) ?_)
  refine list_nil ?_
  refine hK3 _ ?_; clear hK3 K3
  refine code_cond_d rfl (fun h1 => ?_) (fun h1 => ?_)
  · skip
    (try simp only [Decidable.not_not] at h1)
    refine code_seq (fun K4 hK4 => ?_)
    refine code_region ?_
    refine list_cons rfl (op_buildSlice sl_25 (parts := []) rfl rfl rfl (by decide) (by decide) (by decide) rfl ?_)
    refine list_cons rfl (op_q (q_assign rfl (by decide)) ?_)
    refine list_cons rfl (op_q (q_assign rfl (by decide)) ?_)
    refine list_nil ?_
    refine hK4 _ ?_; clear hK4 K4
    refine code_ret ?_
    refine then_r ?_; clear hK2 K2
    refine ends_ret (cs := []) rfl rfl rfl rfl trivial ?_
    have e : PRowP s := .inl h1
    simp only [if_pos e, decide_eq_true e, prowF, if_pos h1]; rfl
  (try simp only [Decidable.not_not] at h1)
  refine code_skip ?_
  refine hK2 _ ?_; clear hK2 K2
  refine code_seq (fun K5 hK5 => ?_)
  refine code_region ?_
  refine list_cons rfl (op_q (q_move rfl (by decide)) ?_)
  refine list_cons rfl (op_call _ (split32 _ hs) rfl rfl (by decide) (by decide) (by decide) rfl ?_)
  rintro _ rfl
  refine list_cons rfl (op_q (q_move rfl (by decide)) ?_)
  refine list_cons rfl (op_q (q_extract rfl rfl (by decide)) ?_)
  refine list_cons rfl (op_q (q_extract rfl rfl (by decide)) ?_)
  refine list_cons rfl (op_q (q_assign rfl (by decide)) ?_)
  refine list_cons rfl (op_q (q_assign rfl (by decide)) ?_)
  refine list_nil ?_
  refine hK5 _ ?_; clear hK5 K5
  refine codeT.imp (σ' := [(0, _), (2, _), (3, _), (4, _), (5, _)]) ?_ (imp_covers ⟨rfl, rfl, rfl, rfl, rfl, trivial⟩)
  refine code_seq (fun K6 hK6 => ?_)
  refine code_seq (fun K7 hK7 => ?_)
  refine code_region ?_
  refine list_cons rfl (op_q (q_move rfl (by decide)) ?_)
  refine list_cons rfl (op_q (by first | exact q_notd rfl (by decide) | exact q_not rfl (by decide)) ?_)
  refine list_cons rfl (op_q (q_move rfl (by decide)) ?_)
  refine list_guard_d rfl rfl rfl rfl (by decide) rfl (by decide) (fun h2 => ?_) (fun h2 => ?_)
  · simp only [Bool.false_eq_true, if_true, if_false, Decidable.not_not] at h2
    refine id (op_q (q_move rfl (by decide)) ?_)
    refine list_guard_y rfl rfl rfl rfl (by decide) rfl ?_
    refine id (op_q (q_len_sl Tryz.underlying56 rfl rfl (by decide)) ?_)
    refine list_guard_y rfl rfl rfl rfl (by decide) rfl ?_
    refine id (op_q (q_gt rfl rfl (by decide)) ?_)
    refine list_cons rfl (op_q (q_pick rfl rfl (by decide)) ?_)
    refine list_nil ?_
    refine hK7 _ ?_; clear hK7 K7
    refine code_cond_d rfl (fun h3 => ?_) (fun h3 => ?_)
    · skip
      (try simp only [Decidable.not_not] at h3)
      refine code_seq (fun K8 hK8 => ?_)
      refine code_region ?_
      refine list_cons rfl (op_buildSlice sl_25 (parts := []) rfl rfl rfl (by decide) (by decide) (by decide) rfl ?_)
      refine list_cons rfl (op_q (q_assign rfl (by decide)) ?_)
      refine list_cons rfl (op_q (q_assign rfl (by decide)) ?_)
      refine list_nil ?_
      refine hK8 _ ?_; clear hK8 K8
      refine codeT.imp (σ' := [(0, _), (2, _), (3, _), (4, _), (5, _)]) ?_ (imp_covers ⟨rfl, rfl, rfl, rfl, rfl, trivial⟩)
      refine code_ret ?_
      refine then_r ?_; clear hK6 K6
      refine ends_ret (cs := []) rfl rfl rfl rfl trivial ?_
      first
        | (have e : ¬ PRowP s := fun k => by
             rcases k with k | k
             · exact h1 k
             · have h32 := spl32_eq (s := s) (by omega); rw [h32] at h3; have := k.2.1; omega
           simp only [if_neg e, decide_eq_false e]; rfl)
        | (have e : ¬ PRowP s := fun k => by
             rcases k with k | k
             · exact h1 k
             · have := k.1; omega
           simp only [if_neg e, decide_eq_false e]; rfl)
    (try simp only [Decidable.not_not] at h3)
    refine code_skip ?_
    refine hK6 _ ?_; clear hK6 K6
    refine codeT.imp (σ' := [(0, _), (2, _), (3, _), (4, _), (5, _)]) ?_ (imp_covers ⟨rfl, rfl, rfl, rfl, rfl, trivial⟩)
    refine code_seq (fun K9 hK9 => ?_)
    refine code_region ?_
    refine list_cons rfl (op_q (q_move rfl (by decide)) ?_)
    refine list_cons rfl (op_q (q_len_sl Tryz.underlying56 rfl rfl (by decide)) ?_)
    refine list_cons rfl (op_make sl_25 rfl rfl (by omega) (by decide) (by decide) rfl ?_)
    refine list_cons rfl (op_q (q_assign rfl (by decide)) ?_)
    refine list_nil ?_
    refine hK9 _ ?_; clear hK9 K9
    refine code_seq (fun K10 hK10 => ?_)
    refine code_seq (fun K11 hK11 => ?_)
    refine code_region ?_
    refine list_cons rfl (op_q (q_move rfl (by decide)) ?_)
    refine list_cons rfl (op_q (q_len_sl Tryz.underlying56 rfl rfl (by decide)) ?_)
    refine list_cons rfl (op_q (q_move rfl (by decide)) ?_)
    refine list_nil ?_
    refine hK11 _ ?_; clear hK11 K11
    refine code_block ?_
    refine code_loop (X := PV × Bool × Bool × Nat × List PV × Int) (fun x => [(0, .val (.str s)), (2, .val x.1), (3, .val (.bool x.2.1)), (4, .own 16 9 1 (spl32 s).length ((spl32 s).map .str)), (5, .val (.bool x.2.2.1)), (6, .own 29 3 1 x.2.2.2.1 x.2.2.2.2.1), (30, .own 16 9 1 (spl32 s).length ((spl32 s).map .str)), (31, .val (.int .i64 (spl32 s).length)), (32, .val (.int .i64 x.2.2.2.2.2))]) (fun x => 0 ≤ x.2.2.2.2.2 ∧ x.2.2.2.2.2 ≤ (spl32 s).length ∧ x.2.2.2.1 = (spl32 s).length ∧ x.2.2.2.2.1 = (prZ (spl32 s) x.2.2.2.2.2.toNat).map (.int .i64) ∧ ∀ j, j < x.2.2.2.2.2.toNat → PartOk ((spl32 s).getD j [])) (fun x => (spl32 s).length - x.2.2.2.2.2.toNat) (_, _, _, _, _, _) (imp_covers ⟨rfl, rfl, rfl, rfl, rfl, rfl, rfl, rfl, rfl, trivial⟩) ?_ ?_
    · (try dsimp only)
      refine ⟨by omega, by omega, rfl, ?_, fun j hj => by simp at hj⟩
      refine (zeros_map1 (PV.int .i64) 0 _).trans ?_
      simp [prZ]
    · intro x hI
      obtain ⟨t2_p, t3, ok, row_n, row_c, t32⟩ := x
      replace hI : 0 ≤ t32 ∧ t32 ≤ (spl32 s).length ∧ row_n = (spl32 s).length ∧ row_c = (prZ (spl32 s) t32.toNat).map (.int .i64) ∧ ∀ j, j < t32.toNat → PartOk ((spl32 s).getD j []) := hI
      show codeT _ _ _ [(0, .val (.str s)), (2, .val t2_p), (3, .val (.bool t3)), (4, .own 16 9 1 (spl32 s).length ((spl32 s).map .str)), (5, .val (.bool ok)), (6, .own 29 3 1 row_n row_c), (30, .own 16 9 1 (spl32 s).length ((spl32 s).map .str)), (31, .val (.int .i64 (spl32 s).length)), (32, .val (.int .i64 t32))] _
      obtain ⟨i1, i2, rfl, rfl, i5⟩ := hI
      have hzl := prZ_len (spl32 s) (k := t32.toNat) (by omega)
      have hsl := splitL_len 32 s
      have hsp := split_part 32 s t32.toNat
      have h32 := spl32_eq (s := s) (by omega)
      rw [← h32] at hsl hsp
      refine code_seq (fun K12 hK12 => ?_)
      refine code_region ?_
      refine list_cons rfl (op_q (q_lt rfl rfl (by decide)) ?_)
      refine list_nil ?_
      refine hK12 _ ?_; clear hK12 K12
      refine code_seq (fun K13 hK13 => ?_)
      refine code_cond_d rfl (fun h4 => ?_) (fun h4 => ?_)
      · skip
        (try simp only [Decidable.not_not] at h4)
        refine code_skip ?_
        refine hK13 _ ?_; clear hK13 K13
        refine code_seq (fun K14 hK14 => ?_)
        refine code_block ?_
        refine code_seq (fun K15 hK15 => ?_)
        refine code_region ?_
        refine list_cons rfl (op_q (q_move rfl (by decide)) ?_)
        refine list_cons rfl (op_q (q_indexAddr_own sl_56 rfl rfl (by omega) (by omega) (by decide)) ?_)
        refine list_cons rfl (op_q (q_load one_9 4 rfl rfl rfl (by first | rfl | exact get_map1 _ [] _ (by first | omega | (simp; omega))) (by decide)) ?_)
        refine list_cons rfl (op_q (q_assign rfl (by decide)) ?_)
        refine list_cons rfl (op_q (q_assign rfl (by decide)) ?_)
        refine list_nil ?_
        refine hK15 _ ?_; clear hK15 K15
        refine code_seq (fun K16 hK16 => ?_)
        refine code_region ?_
        refine list_cons rfl (op_q (q_move rfl (by decide)) ?_)
        refine list_cons rfl (op_call _ (impl_parseCell _ (by omega)) rfl rfl (by decide) (by decide) (by decide) rfl ?_)
        rintro _ rfl
        refine list_cons rfl (op_q (q_move rfl (by decide)) ?_)
        refine list_cons rfl (op_q (q_extract rfl rfl (by decide)) ?_)
        refine list_cons rfl (op_q (q_extract rfl rfl (by decide)) ?_)
        refine list_cons rfl (op_q (q_assign rfl (by decide)) ?_)
        refine list_cons rfl (op_q (q_assign rfl (by decide)) ?_)
        refine list_nil ?_
        refine hK16 _ ?_; clear hK16 K16
        refine codeT.imp (σ' := [(0, _), (2, _), (3, _), (4, _), (5, _), (6, _), (7, _), (8, _), (9, _), (10, _), (30, _), (31, _), (32, _)]) ?_ (imp_covers ⟨rfl, rfl, rfl, rfl, rfl, rfl, rfl, rfl, rfl, rfl, rfl, rfl, rfl, trivial⟩)
        refine code_seq (fun K17 hK17 => ?_)
        refine code_seq (fun K18 hK18 => ?_)
        refine code_region ?_
        refine list_cons rfl (op_q (q_move rfl (by decide)) ?_)
        refine list_cons rfl (op_q (by first | exact q_notd rfl (by decide) | exact q_not rfl (by decide)) ?_)
        refine list_nil ?_
        refine hK18 _ ?_; clear hK18 K18
        refine code_cond_d rfl (fun h5 => ?_) (fun h5 => ?_)
        · skip
          (try simp only [Decidable.not_not] at h5)
          refine code_seq (fun K19 hK19 => ?_)
          refine code_region ?_
          refine list_cons rfl (op_buildSlice sl_25 (parts := []) rfl rfl rfl (by decide) (by decide) (by decide) rfl ?_)
          refine list_cons rfl (op_q (q_assign rfl (by decide)) ?_)
          refine list_cons rfl (op_q (q_assign rfl (by decide)) ?_)
          refine list_nil ?_
          refine hK19 _ ?_; clear hK19 K19
          refine code_ret ?_
          refine then_r ?_; clear hK17 K17
          refine blk_r ?_
          refine then_r ?_; clear hK14 K14
          refine then_r ?_
          refine blk_r ?_
          refine then_r ?_; clear hK10 K10
          refine ends_ret (cs := []) rfl rfl rfl rfl trivial ?_
          have e : ¬ PRowP s := fun k => by
            rcases k with k | k
            · exact h1 k
            · exact h5 (by rw [h32]; exact k.2.2 t32.toNat (by rw [← h32]; omega))
          simp only [if_neg e, decide_eq_false e]; rfl
        (try simp only [Decidable.not_not] at h5)
        refine code_skip ?_
        refine hK17 _ ?_; clear hK17 K17
        refine code_region ?_
        refine list_cons rfl (op_q (q_move rfl (by decide)) ?_)
        refine list_cons rfl (op_q (q_move rfl (by decide)) ?_)
        refine list_cons rfl (op_q (q_move rfl (by decide)) ?_)
        refine list_cons rfl (op_q (q_indexAddr_own sl_25 rfl rfl (by omega) (by omega) (by decide)) ?_)
        refine list_cons rfl (op_store (one_3).2 6 [6, 45] (by intro t ht; simp only [List.mem_cons, List.not_mem_nil, or_false] at ht; rcases ht with rfl | rfl <;> rfl) (.inl rfl) rfl rfl rfl rfl rfl rfl (by first | decide | omega | exact Nat.le_refl _ | (simp; done) | (simp; omega)) (by decide) rfl ?_)
        refine list_nil ?_
        refine blk_n ?_
        refine hK14 _ ?_; clear hK14 K14
        refine codeT.imp (σ' := [(0, _), (2, _), (3, _), (4, _), (5, _), (6, _), (7, _), (8, _), (9, _), (10, _), (30, _), (31, _), (32, _)]) ?_ (imp_covers ⟨rfl, rfl, rfl, rfl, rfl, rfl, rfl, rfl, rfl, rfl, rfl, rfl, rfl, trivial⟩)
        refine code_region ?_
        refine list_cons rfl (op_q (by first | exact q_addI rfl rfl (by decide) (by omega) (by omega) | exact q_ib rfl rfl rfl (by decide)) ?_)
        refine list_cons rfl (op_q (q_move rfl (by decide)) ?_)
        refine list_nil ?_
        refine then_n ⟨(_, _, _, _, _, _), imp_covers ⟨rfl, rfl, rfl, rfl, rfl, rfl, rfl, rfl, rfl, trivial⟩, ?_, ?_⟩
        · (try dsimp only)
          refine ⟨by omega, by omega, rfl, ?_, fun j hj => ?_⟩
          · rw [show (t32 + 1).toNat = t32.toNat + 1 by omega, ← prZ_put (spl32 s) (by omega), if_pos h5]; rfl
          · by_cases e : j = t32.toNat
            · subst e; exact h5
            · exact i5 j (by omega)
        · (try dsimp only); omega
      (try simp only [Decidable.not_not] at h4)
      refine code_exit ?_
      refine then_x ?_; clear hK13 K13
      refine then_x ?_
      refine blk_hit ?_
      refine hK10 _ ?_; clear hK10 K10
      refine code_seq (fun K20 hK20 => ?_)
      refine code_region ?_
      refine list_cons rfl (op_q (q_move rfl (by decide)) ?_)
      refine list_cons rfl (op_q (q_assign rfl (by decide)) ?_)
      refine list_cons rfl (op_q (q_assign rfl (by decide)) ?_)
      refine list_nil ?_
      refine hK20 _ ?_; clear hK20 K20
      refine code_ret ?_
      refine ends_ret (cs := []) rfl rfl rfl rfl trivial ?_
      rw [show t32.toNat = (spl32 s).length by omega] at i5
      have e : PRowP s := .inr ⟨split_short (by rw [← h32]; omega) (fun j hj => by rw [← h32]; exact i5 j (by rw [h32]; exact hj)), by rw [← h32]; omega, fun j hj => by rw [← h32]; exact i5 j (by rw [h32]; exact hj)⟩
      rw [show t32.toNat = (spl32 s).length by omega, prZ_end, h32]
      simp only [if_pos e, decide_eq_true e, prowF, if_neg h1, List.length_map]
  simp only [Bool.false_eq_true, if_true, if_false, Decidable.not_not] at h2
  refine list_guard_n rfl rfl rfl rfl (by decide) rfl ?_
  refine list_guard_n rfl rfl rfl rfl (by decide) rfl ?_
  refine list_cons rfl (op_q (q_pick rfl rfl (by decide)) ?_)
  refine list_nil ?_
  refine hK7 _ ?_; clear hK7 K7
  refine code_cond_t rfl ?_
  refine code_seq (fun K21 hK21 => ?_)
  refine code_region ?_
  refine list_cons rfl (op_buildSlice sl_25 (parts := []) rfl rfl rfl (by decide) (by decide) (by decide) rfl ?_)
  refine list_cons rfl (op_q (q_assign rfl (by decide)) ?_)
  refine list_cons rfl (op_q (q_assign rfl (by decide)) ?_)
  refine list_nil ?_
  refine hK21 _ ?_; clear hK21 K21
  refine code_ret ?_
  refine then_r ?_; clear hK6 K6
  refine ends_ret (cs := []) rfl rfl rfl rfl trivial ?_
  have e : ¬ PRowP s := fun k => by
    rcases k with k | k
    · exact h1 k
    · have := k.1; omega
  simp only [if_neg e, decide_eq_false e]; rfl

end Go.Proofs.YtafeflonhbgbkaaGreatDoor
