/- Contracts of functions, walked over the pure layer; each says for which arguments. -/
import Derived.Test.YthgiialammjcbabLwTy
import Derived.RangeFuncNested
import Derived.RangeFuncBound
import Derived.RangeFuncCalls
import Derived.RangeFuncLeaves
import Derived.RangeFuncBox
import Derived.Shelf.Abstract
import Derived.Shelf.RegionOpen
import Derived.WalkKit
import Derived.OwnWalkIn
import Derived.TacticsInMore
import Derived.LoopNIn
import Derived.LoopIn
import Derived.Maps.AppendAt
import Derived.Test.YthgiialammjcbabTf
import Derived.Test.YthgiialammjcbabSp
import Derived.Test.YthgiialammjcbabDr
import Derived.Test.YthgiialammjcbabShelf
import Derived.Test.YthgiialammjcbabDr1
import Derived.Test.YthgiialammjcbabSpl
import Derived.Test.YthgiialammjcbabJn
import Derived.Test.YthgiialammjcbabLv
namespace Go.Proofs.Ythgiialammjcbab
open Go.RowKit LwTy
set_option linter.unusedVariables false
set_option linter.unusedSimpArgs false

theorem split_nomem (b : UInt8) (s : List UInt8) : ∀ k, k ≤ s.length → (∀ p ∈ (splitF b (s.take k)).1, b ∉ p) ∧ b ∉ (splitF b (s.take k)).2
  | 0, _ => by rw [List.take_zero]; exact ⟨fun p hp => absurd hp (by simp [splitF]), by simp [splitF]⟩
  | k + 1, h => by
    have ih := split_nomem b s k (by omega)
    rw [take_snocL s k (by omega), splitF_snoc]
    split
    · refine ⟨fun p hp => ?_, by simp⟩
      rcases List.mem_append.1 hp with hp | hp
      · exact ih.1 p hp
      · simp only [List.mem_singleton] at hp; subst hp; exact ih.2
    · rename_i hne
      refine ⟨ih.1, ?_⟩
      simp only [List.mem_append, List.mem_singleton, not_or]
      exact ⟨ih.2, fun e => hne e.symm⟩
theorem split_join (b : UInt8) (s : List UInt8) : ∀ k, k ≤ s.length → Lib.join ((splitF b (s.take k)).1 ++ [(splitF b (s.take k)).2]) [b] = s.take k
  | 0, _ => by rw [List.take_zero]; rfl
  | k + 1, h => by
    have ih := split_join b s k (by omega)
    rw [take_snocL s k (by omega), splitF_snoc]
    generalize (splitF b (s.take k)).1 = p at ih ⊢
    generalize (splitF b (s.take k)).2 = r at ih ⊢
    by_cases hc : s.getD k 0 = b
    · rw [if_pos hc]
      show Lib.join ((p ++ [r]) ++ [[]]) [b] = _
      rw [join_snoc [b] _ _ (by simp), ih, hc, List.append_nil]
    · rw [if_neg hc]
      show Lib.join (p ++ [r ++ [s.getD k 0]]) [b] = _
      cases p with
      | nil =>
        rw [List.nil_append, Lib.join_one] at ih ⊢
        rw [ih]
      | cons q t =>
        rw [join_snoc [b] _ _ (by simp)] at ih ⊢
        rw [← ih]; simp only [List.append_assoc]
theorem split_join_all (b : UInt8) (s : List UInt8) : Lib.join (splitL b s) [b] = s := by
  have := split_join b s s.length (Nat.le_refl _)
  rwa [List.take_length] at this
theorem split_ok (b : UInt8) (s : List UInt8) (h : s.length ≤ 4000) : JoinOk (splitL b s) b := by
  have h0 : 0 < (splitL b s).length := by unfold splitL; simp
  have h1 := join_len b (splitL b s) (splitL b s).length h0 (Nat.le_refl _)
  rw [List.take_length, split_join_all] at h1
  refine ⟨by omega, fun j hj => ?_⟩
  have h2 := split_nomem b s s.length (Nat.le_refl _)
  rw [List.take_length] at h2
  have e : (splitL b s).getD j [] = (splitL b s)[j] := by simp [hj]
  have hm : (splitL b s)[j] ∈ splitL b s := List.getElem_mem hj
  rw [e]
  unfold splitL at hm
  rcases List.mem_append.1 hm with hm | hm
  · exact h2.1 _ hm
  · simp only [List.mem_singleton] at hm
    have : (splitL b s)[j] = (splitF b s).2 := hm
    rw [this]; exact h2.2
theorem less_asym : ∀ {a b : List UInt8}, Op.bytesLess a b = true → Op.bytesLess b a = false
  | [], [], h => by simp [Op.bytesLess] at h
  | [], _ :: _, _ => by simp [Op.bytesLess]
  | _ :: _, [], h => by simp [Op.bytesLess] at h
  | x :: a, y :: b, h => by
    simp only [Op.bytesLess, Bool.or_eq_true, decide_eq_true_eq, Bool.and_eq_true, beq_iff_eq] at h
    simp only [Op.bytesLess, Bool.or_eq_false_iff, decide_eq_false_iff_not, Bool.and_eq_false_iff, beq_eq_false_iff_ne]
    rcases h with h | ⟨rfl, h⟩
    · exact ⟨fun k => absurd (UInt8.lt_trans h k) (UInt8.lt_irrefl _), .inl (fun e => absurd (e ▸ h) (UInt8.lt_irrefl _))⟩
    · exact ⟨UInt8.lt_irrefl _, .inr (less_asym h)⟩
theorem getD_leS {l : List (List UInt8)} {m : Nat} (h : ∀ x ∈ l, x.length ≤ m) (k : Nat) : (l.getD k []).length ≤ m := by
  by_cases hk : k < l.length
  · exact h _ (getD_memS hk)
  · have : l.getD k [] = [] := by unfold List.getD; rw [List.getElem?_eq_none (by omega)]; rfl
    rw [this]; simp

set_option maxRecDepth 4000 in
set_option maxHeartbeats 16000000 in
theorem FnSplitJoin_law (code : List UInt8) (p0 : code.length ≤ 9223372036854775807) : MCalls Try.prog 3 true none [.sl code.length (bytesP code)] fun rs _ => rs = [.val (.bool true)] := by
  refine mcalls_of_code (n := 104) az Try.func3 (by kernel_rfl) rfl rfl (Nat.le_of_ble_eq_true rfl) (by intro t u h; simp [Try.f3] at h) ?_
  refine code_seq (fun K1 hK1 => ?_)
  refine code_region ?_
  refine list_cons rfl (op_q (q_assign rfl (by decide)) ?_)
  refine list_nil ?_
  refine hK1 _ ?_; clear hK1 K1
  refine code_seq (fun K2 hK2 => ?_)
  refine code_seq (fun K3 hK3 => ?_)
  refine code_region ?_
  refine list_cons rfl (op_q (q_move rfl (by decide)) ?_)
  refine list_cons rfl (op_call _ (vBig_c _) rfl rfl (by decide) (by decide) (by decide) rfl ?_)
  rintro _ rfl
  refine list_nil ?_
  refine hK3 _ ?_; clear hK3 K3
  refine codeT.imp (σ' := [(0, .ext _), (2, .val (.bool _)), (18, .val (.bool _))]) ?_ (imp_covers ⟨rfl, rfl, rfl, trivial⟩)
  refine code_cond_d rfl (fun h1 => ?_) (fun h1 => ?_)
  · skip
    (try simp only [Decidable.not_not] at h1)
    refine code_seq (fun K4 hK4 => ?_)
    refine code_region ?_
    refine list_cons rfl (op_q (q_assign rfl (by decide)) ?_)
    refine list_nil ?_
    refine hK4 _ ?_; clear hK4 K4
    refine code_ret ?_
    refine then_r ?_; clear hK2 K2
    refine ends_ret (cs := []) rfl rfl rfl rfl trivial ?_
    first
    | rfl
    | (exfalso; omega)
    | (have k : ¬ (s.length ≤ 4000 ∧ sep.length = 1) := by omega
       simp only [if_neg k]; rfl)
    | (have k : s.length ≤ 4000 ∧ sep.length = 1 := by omega
       have kj : sep.length = 1 ∧ 0 < (if s.length ≤ 4000 ∧ sep.length = 1 then splitL (sep.getD 0 0) s else []).length ∧ JoinOk (if s.length ≤ 4000 ∧ sep.length = 1 then splitL (sep.getD 0 0) s else []) (sep.getD 0 0) := ⟨k.2, by rw [if_pos k]; unfold splitL; simp, by rw [if_pos k]; exact split_ok _ _ k.1⟩
       first
       | exact absurd kj h1
       | (rw [decide_eq_true]
          rw [if_pos kj, if_pos k]
          have e := split_join_all (sep.getD 0 0) s
          rw [← getD_u8 sep 0 k.2] at e
          exact e))
  · skip
    (try simp only [Decidable.not_not] at h1)
    refine code_skip ?_
    refine hK2 _ ?_; clear hK2 K2
    refine code_seq (fun K5 hK5 => ?_)
    refine code_region ?_
    refine list_cons rfl (op_q (q_move rfl (by decide)) ?_)
    refine list_cons rfl (op_callM (DrawSplitString_c _ ?_) (.tmp 0) 0 [] [.tmp 20] _ rfl rfl (by intro y hy; cases hy) (by decide) (by decide) (by decide) rfl (by intro h; cases h) ?_)
    · first | assumption | omega | (simp; omega)
    rintro _ _ ⟨s, sep, hs, hsep, rfl⟩
    have hsl : (if s.length ≤ 4000 ∧ sep.length = 1 then splitL (sep.getD 0 0) s else []).length ≤ 1099511627776 := by
      split
      · have := splitL_len (sep.getD 0 0) s; omega
      · simp
    have hjs : ∀ k, ((if s.length ≤ 4000 ∧ sep.length = 1 then splitL (sep.getD 0 0) s else []).getD k []).length ≤ 4611686018427387904 := by
      intro k
      split
      · have := split_part (sep.getD 0 0) s k; omega
      · simp
    refine list_cons rfl (op_q (q_move rfl (by decide)) ?_)
    refine list_cons rfl (op_q (q_extract rfl rfl (by decide)) ?_)
    refine list_cons rfl (op_q (q_extract rfl rfl (by decide)) ?_)
    refine list_cons rfl (op_q (q_assign rfl (by decide)) ?_)
    refine list_cons rfl (op_q (q_assign rfl (by decide)) ?_)
    refine list_nil ?_
    refine hK5 _ ?_; clear hK5 K5
    refine codeT.imp (σ' := [(0, .ext _), (2, .val (.bool _)), (3, .val (.str _)), (4, .val (.str _))]) ?_ (imp_covers ⟨rfl, rfl, rfl, rfl, trivial⟩)
    refine code_seq (fun K6 hK6 => ?_)
    refine code_region ?_
    refine list_cons rfl (op_q (q_move rfl (by decide)) ?_)
    refine list_cons rfl (op_q (q_move rfl (by decide)) ?_)
    refine list_cons rfl (op_call _ (impl_SplitString _ _ (by first | omega | (simp; omega)) (by first | omega | (simp; omega))) rfl rfl (by decide) (by decide) (by decide) rfl ?_)
    rintro _ rfl
    refine list_cons rfl (op_q (q_move rfl (by decide)) ?_)
    refine list_cons rfl (op_q (q_extract rfl rfl (by decide)) ?_)
    refine list_cons rfl (op_q (q_extract rfl rfl (by decide)) ?_)
    refine list_cons rfl (op_q (q_assign rfl (by decide)) ?_)
    refine list_cons rfl (op_q (q_assign rfl (by decide)) ?_)
    refine list_nil ?_
    refine hK6 _ ?_; clear hK6 K6
    refine codeT.imp (σ' := [(0, .ext _), (2, .val (.bool _)), (3, .val (.str _)), (4, .val (.str _)), (5, .own 27 9 1 _ _), (6, .val (.bool _))]) ?_ (imp_covers ⟨rfl, rfl, rfl, rfl, rfl, rfl, trivial⟩)
    refine code_seq (fun K7 hK7 => ?_)
    refine code_region ?_
    refine list_cons rfl (op_q (q_move rfl (by decide)) ?_)
    refine list_cons rfl (op_callM (DrawJoinStrings_c _ ?_) (.tmp 0) 0 [] [.tmp 31] _ rfl rfl (by intro y hy; cases hy) (by decide) (by decide) (by decide) rfl (by intro h; cases h) ?_)
    · first | assumption | omega | (simp; omega)
    rintro _ _ ⟨l, t, ⟨hl1, hl2⟩, ht, rfl⟩
    have hjb : ∀ k, (l.getD k []).length ≤ 4611686018427387904 := fun k => Nat.le_trans (getD_leS hl2 k) (by decide)
    refine list_cons rfl (op_q (q_move rfl (by decide)) ?_)
    refine list_cons rfl (op_q (q_extract rfl rfl (by decide)) ?_)
    refine list_cons rfl (op_q (q_extract rfl rfl (by decide)) ?_)
    refine list_cons rfl (op_q (q_assign rfl (by decide)) ?_)
    refine list_cons rfl (op_q (q_assign rfl (by decide)) ?_)
    refine list_nil ?_
    refine hK7 _ ?_; clear hK7 K7
    refine codeT.imp (σ' := [(0, .ext _), (2, .val (.bool _)), (3, .val (.str _)), (4, .val (.str _)), (5, .own 27 9 1 _ _), (6, .val (.bool _)), (7, .own 32 9 1 _ _), (8, .val (.str _))]) ?_ (imp_covers ⟨rfl, rfl, rfl, rfl, rfl, rfl, rfl, rfl, trivial⟩)
    refine code_seq (fun K8 hK8 => ?_)
    refine code_region ?_
    refine list_cons rfl (op_q (q_move rfl (by decide)) ?_)
    refine list_cons rfl (op_q (q_move rfl (by decide)) ?_)
    refine list_cons rfl (op_call _ (implJoin_c _ _ (by first | omega | assumption) (by assumption)) rfl rfl (by decide) (by decide) (by decide) rfl ?_)
    rintro _ rfl
    refine list_cons rfl (op_q (q_move rfl (by decide)) ?_)
    refine list_cons rfl (op_q (q_extract rfl rfl (by decide)) ?_)
    refine list_cons rfl (op_q (q_extract rfl rfl (by decide)) ?_)
    refine list_cons rfl (op_q (q_assign rfl (by decide)) ?_)
    refine list_cons rfl (op_q (q_assign rfl (by decide)) ?_)
    refine list_nil ?_
    refine hK8 _ ?_; clear hK8 K8
    refine codeT.imp (σ' := [(0, .ext _), (2, .val (.bool _)), (3, .val (.str _)), (4, .val (.str _)), (5, .own 27 9 1 _ _), (6, .val (.bool _)), (7, .own 32 9 1 _ _), (8, .val (.str _)), (9, .val (.str _)), (10, .val (.bool _))]) ?_ (imp_covers ⟨rfl, rfl, rfl, rfl, rfl, rfl, rfl, rfl, rfl, rfl, trivial⟩)
    refine code_seq (fun K9 hK9 => ?_)
    refine code_region ?_
    refine list_cons rfl (op_q (q_move rfl (by decide)) ?_)
    refine list_cons rfl (op_q (q_move rfl (by decide)) ?_)
    refine list_cons rfl (op_call _ (specJoin_c _ _ (by omega) (by assumption)) rfl rfl (by decide) (by decide) (by decide) rfl ?_)
    rintro _ rfl
    refine list_cons rfl (op_q (q_move rfl (by decide)) ?_)
    refine list_cons rfl (op_q (q_extract rfl rfl (by decide)) ?_)
    refine list_cons rfl (op_q (q_extract rfl rfl (by decide)) ?_)
    refine list_cons rfl (op_q (q_assign rfl (by decide)) ?_)
    refine list_cons rfl (op_q (q_assign rfl (by decide)) ?_)
    refine list_nil ?_
    refine hK9 _ ?_; clear hK9 K9
    refine codeT.imp (σ' := [(0, .ext _), (2, .val (.bool _)), (3, .val (.str _)), (4, .val (.str _)), (5, .own 27 9 1 _ _), (6, .val (.bool _)), (7, .own 32 9 1 _ _), (8, .val (.str _)), (9, .val (.str _)), (10, .val (.bool _)), (11, .val (.str _)), (12, .val (.bool _))]) ?_ (imp_covers ⟨rfl, rfl, rfl, rfl, rfl, rfl, rfl, rfl, rfl, rfl, rfl, rfl, trivial⟩)
    refine code_seq (fun K10 hK10 => ?_)
    refine code_region ?_
    refine list_cons rfl (op_q (q_move rfl (by decide)) ?_)
    refine list_cons rfl (op_callM (DrawLessString_c _ ?_) (.tmp 0) 0 [] [.tmp 48] _ rfl rfl (by intro y hy; cases hy) (by decide) (by decide) (by decide) rfl (by intro h; cases h) ?_)
    · first | assumption | omega | (simp; omega)
    rintro _ _ ⟨u, v, hu, hv, rfl⟩
    refine list_cons rfl (op_q (q_move rfl (by decide)) ?_)
    refine list_cons rfl (op_q (q_extract rfl rfl (by decide)) ?_)
    refine list_cons rfl (op_q (q_extract rfl rfl (by decide)) ?_)
    refine list_cons rfl (op_q (q_assign rfl (by decide)) ?_)
    refine list_cons rfl (op_q (q_assign rfl (by decide)) ?_)
    refine list_nil ?_
    refine hK10 _ ?_; clear hK10 K10
    refine codeT.imp (σ' := [(0, .ext _), (2, .val (.bool _)), (3, .val (.str _)), (4, .val (.str _)), (5, .own 27 9 1 _ _), (6, .val (.bool _)), (7, .own 32 9 1 _ _), (8, .val (.str _)), (9, .val (.str _)), (10, .val (.bool _)), (11, .val (.str _)), (12, .val (.bool _)), (13, .val (.str _)), (14, .val (.str _))]) ?_ (imp_covers ⟨rfl, rfl, rfl, rfl, rfl, rfl, rfl, rfl, rfl, rfl, rfl, rfl, rfl, rfl, trivial⟩)
    refine code_seq (fun K11 hK11 => ?_)
    refine code_seq (fun K12 hK12 => ?_)
    refine code_region ?_
    refine list_cons rfl (op_q (q_move rfl (by decide)) ?_)
    refine list_cons rfl (op_q (q_move rfl (by decide)) ?_)
    refine list_cons rfl (op_q (q_sne rfl rfl (by decide)) ?_)
    refine list_cons rfl (op_q (q_move rfl (by decide)) ?_)
    refine list_guard_d rfl rfl rfl rfl (by decide) rfl (by decide) (fun h2 => ?_) (fun h2 => ?_)
    · simp only [Bool.false_eq_true, if_true, if_false, Decidable.not_not] at h2
      refine id (op_q (q_move rfl (by decide)) ?_)
      refine list_guard_y rfl rfl rfl rfl (by decide) rfl ?_
      refine id (op_q (q_move rfl (by decide)) ?_)
      refine list_guard_y rfl rfl rfl rfl (by decide) rfl ?_
      refine id (op_q (q_bne Try.underlying4 rfl rfl (by decide)) ?_)
      refine list_cons rfl (op_q (q_pick rfl rfl (by decide)) ?_)
      refine list_cons rfl (op_q (q_move rfl (by decide)) ?_)
      refine list_guard_d rfl rfl rfl rfl (by decide) rfl (by decide) (fun h3 => ?_) (fun h3 => ?_)
      · simp only [Bool.false_eq_true, if_true, if_false, Decidable.not_not] at h3
        refine id (op_q (q_move rfl (by decide)) ?_)
        refine list_guard_y rfl rfl rfl rfl (by decide) rfl ?_
        refine id (op_q (q_move rfl (by decide)) ?_)
        refine list_guard_y rfl rfl rfl rfl (by decide) rfl ?_
        refine id (op_call _ (implLess_c _ _) rfl rfl (by decide) (by decide) (by decide) rfl ?_)
        rintro _ rfl
        refine list_guard_y rfl rfl rfl rfl (by decide) rfl ?_
        refine id (op_q (q_move rfl (by decide)) ?_)
        refine list_guard_y rfl rfl rfl rfl (by decide) rfl ?_
        refine id (op_q (q_move rfl (by decide)) ?_)
        refine list_guard_y rfl rfl rfl rfl (by decide) rfl ?_
        refine id (op_call _ (specLess_c _ _) rfl rfl (by decide) (by decide) (by decide) rfl ?_)
        rintro _ rfl
        refine list_guard_y rfl rfl rfl rfl (by decide) rfl ?_
        refine id (op_q (q_bne Try.underlying4 rfl rfl (by decide)) ?_)
        refine list_cons rfl (op_q (q_pick rfl rfl (by decide)) ?_)
        refine list_cons rfl (op_q (q_move rfl (by decide)) ?_)
        refine list_guard_d rfl rfl rfl rfl (by decide) rfl (by decide) (fun h4 => ?_) (fun h4 => ?_)
        · simp only [Bool.false_eq_true, if_true, if_false, Decidable.not_not] at h4
          refine id (op_q (q_move rfl (by decide)) ?_)
          refine list_guard_y rfl rfl rfl rfl (by decide) rfl ?_
          refine id (op_q (q_move rfl (by decide)) ?_)
          refine list_guard_y rfl rfl rfl rfl (by decide) rfl ?_
          refine id (op_call _ (implLess_c _ _) rfl rfl (by decide) (by decide) (by decide) rfl ?_)
          rintro _ rfl
          refine list_guard_y rfl rfl rfl rfl (by decide) rfl ?_
          refine id (op_q (q_move rfl (by decide)) ?_)
          refine list_guard_d rfl rfl rfl rfl (by decide) rfl (by decide) (fun h5 => ?_) (fun h5 => ?_)
          · simp only [Bool.false_eq_true, if_true, if_false, Decidable.not_not] at h5
            refine id (op_q (q_move rfl (by decide)) ?_)
            refine list_guard_y rfl rfl rfl rfl (by decide) rfl ?_
            refine id (op_q (q_move rfl (by decide)) ?_)
            refine list_guard_y rfl rfl rfl rfl (by decide) rfl ?_
            refine id (op_call _ (implLess_c _ _) rfl rfl (by decide) (by decide) (by decide) rfl ?_)
            rintro _ rfl
            refine list_guard_y rfl rfl rfl rfl (by decide) rfl ?_
            refine id (op_q (q_pick rfl rfl (by decide)) ?_)
            refine list_cons rfl (op_q (q_pick rfl rfl (by decide)) ?_)
            refine list_nil ?_
            refine hK12 _ ?_; clear hK12 K12
            refine codeT.imp (σ' := [(0, .ext _), (2, .val (.bool _)), (3, .val (.str _)), (4, .val (.str _)), (5, .own 27 9 1 _ _), (6, .val (.bool _)), (7, .own 32 9 1 _ _), (8, .val (.str _)), (9, .val (.str _)), (10, .val (.bool _)), (11, .val (.str _)), (12, .val (.bool _)), (13, .val (.str _)), (14, .val (.str _)), (78, .val (.bool _))]) ?_ (imp_covers ⟨rfl, rfl, rfl, rfl, rfl, rfl, rfl, rfl, rfl, rfl, rfl, rfl, rfl, rfl, rfl, trivial⟩)
            refine code_cond_d rfl (fun h6 => ?_) (fun h6 => ?_)
            · skip
              (try simp only [Decidable.not_not] at h6)
              exfalso
              have k := less_asym (a := u) (b := v) (by assumption)
              rw [k] at h6
              cases h6
            · skip
              (try simp only [Decidable.not_not] at h6)
              refine code_skip ?_
              refine hK11 _ ?_; clear hK11 K11
              refine code_seq (fun K13 hK13 => ?_)
              refine code_seq (fun K14 hK14 => ?_)
              refine code_region ?_
              refine list_cons rfl (op_q (q_move rfl (by decide)) ?_)
              refine list_cons rfl (op_q (q_len_str Try.underlying9 rfl (by decide)) ?_)
              refine list_cons rfl (op_q (q_ne rfl rfl (by decide)) ?_)
              refine list_nil ?_
              refine hK14 _ ?_; clear hK14 K14
              refine code_cond_d rfl (fun h7 => ?_) (fun h7 => ?_)
              · skip
                (try simp only [Decidable.not_not] at h7)
                refine code_seq (fun K15 hK15 => ?_)
                refine code_region ?_
                refine list_cons rfl (op_q (q_move rfl (by decide)) ?_)
                refine list_cons rfl (op_q (by first | exact q_notd rfl (by decide) | exact q_not rfl (by decide)) ?_)
                refine list_cons rfl (op_q (q_move rfl (by decide)) ?_)
                refine list_guard_d rfl rfl rfl rfl (by decide) rfl (by decide) (fun h8 => ?_) (fun h8 => ?_)
                · simp only [Bool.false_eq_true, if_true, if_false, Decidable.not_not] at h8
                  refine id (op_q (q_move rfl (by decide)) ?_)
                  refine list_guard_y rfl rfl rfl rfl (by decide) rfl ?_
                  refine id (op_q (q_len_sl Try.underlying26 rfl rfl (by decide)) ?_)
                  refine list_guard_y rfl rfl rfl rfl (by decide) rfl ?_
                  refine id (op_q (q_eq rfl rfl (by decide)) ?_)
                  refine list_cons rfl (op_q (q_pick rfl rfl (by decide)) ?_)
                  refine list_cons rfl (op_q (q_assign rfl (by decide)) ?_)
                  refine list_nil ?_
                  refine hK15 _ ?_; clear hK15 K15
                  refine codeT.imp (σ' := [(0, .ext _), (2, .val (.bool _)), (3, .val (.str _)), (4, .val (.str _)), (5, .own 27 9 1 _ _), (6, .val (.bool _)), (7, .own 32 9 1 _ _), (8, .val (.str _)), (9, .val (.str _)), (10, .val (.bool _)), (11, .val (.str _)), (12, .val (.bool _)), (13, .val (.str _)), (14, .val (.str _))]) ?_ (imp_covers ⟨rfl, rfl, rfl, rfl, rfl, rfl, rfl, rfl, rfl, rfl, rfl, rfl, rfl, rfl, trivial⟩)
                  refine code_ret ?_
                  refine then_r ?_; clear hK13 K13
                  refine ends_ret (cs := []) rfl rfl rfl rfl trivial ?_
                  first
                  | rfl
                  | (exfalso; omega)
                  | (have k : ¬ (s.length ≤ 4000 ∧ sep.length = 1) := by omega
                     simp only [if_neg k]; rfl)
                  | (have k : s.length ≤ 4000 ∧ sep.length = 1 := by omega
                     have kj : sep.length = 1 ∧ 0 < (if s.length ≤ 4000 ∧ sep.length = 1 then splitL (sep.getD 0 0) s else []).length ∧ JoinOk (if s.length ≤ 4000 ∧ sep.length = 1 then splitL (sep.getD 0 0) s else []) (sep.getD 0 0) := ⟨k.2, by rw [if_pos k]; unfold splitL; simp, by rw [if_pos k]; exact split_ok _ _ k.1⟩
                     first
                     | exact absurd kj h8
                     | (rw [decide_eq_true]
                        rw [if_pos kj, if_pos k]
                        have e := split_join_all (sep.getD 0 0) s
                        rw [← getD_u8 sep 0 k.2] at e
                        exact e))
                · simp only [Bool.false_eq_true, if_true, if_false, Decidable.not_not] at h8
                  refine list_guard_nT rfl rfl rfl rfl (by decide) (by decide) ?_
                  refine list_guard_nT rfl rfl rfl rfl (by decide) (by decide) ?_
                  refine list_cons rfl (op_q (q_pick rfl rfl (by decide)) ?_)
                  refine list_cons rfl (op_q (q_assign rfl (by decide)) ?_)
                  refine list_nil ?_
                  refine hK15 _ ?_; clear hK15 K15
                  refine codeT.imp (σ' := [(0, .ext _), (2, .val (.bool _)), (3, .val (.str _)), (4, .val (.str _)), (5, .own 27 9 1 _ _), (6, .val (.bool _)), (7, .own 32 9 1 _ _), (8, .val (.str _)), (9, .val (.str _)), (10, .val (.bool _)), (11, .val (.str _)), (12, .val (.bool _)), (13, .val (.str _)), (14, .val (.str _))]) ?_ (imp_covers ⟨rfl, rfl, rfl, rfl, rfl, rfl, rfl, rfl, rfl, rfl, rfl, rfl, rfl, rfl, trivial⟩)
                  refine code_ret ?_
                  refine then_r ?_; clear hK13 K13
                  refine ends_ret (cs := []) rfl rfl rfl rfl trivial ?_
                  first
                  | rfl
                  | (exfalso; omega)
                  | (have k : ¬ (s.length ≤ 4000 ∧ sep.length = 1) := by omega
                     simp only [if_neg k]; rfl)
                  | (have k : s.length ≤ 4000 ∧ sep.length = 1 := by omega
                     have kj : sep.length = 1 ∧ 0 < (if s.length ≤ 4000 ∧ sep.length = 1 then splitL (sep.getD 0 0) s else []).length ∧ JoinOk (if s.length ≤ 4000 ∧ sep.length = 1 then splitL (sep.getD 0 0) s else []) (sep.getD 0 0) := ⟨k.2, by rw [if_pos k]; unfold splitL; simp, by rw [if_pos k]; exact split_ok _ _ k.1⟩
                     first
                     | exact absurd kj h8
                     | (rw [decide_eq_true]
                        rw [if_pos kj, if_pos k]
                        have e := split_join_all (sep.getD 0 0) s
                        rw [← getD_u8 sep 0 k.2] at e
                        exact e))
              · skip
                (try simp only [Decidable.not_not] at h7)
                refine code_skip ?_
                refine hK13 _ ?_; clear hK13 K13
                refine code_seq (fun K16 hK16 => ?_)
                refine code_region ?_
                refine list_cons rfl (op_q (q_move rfl (by decide)) ?_)
                refine list_cons rfl (op_q (q_move rfl (by decide)) ?_)
                refine list_cons rfl (op_call _ (implJoin_c _ _ (by first | omega | assumption) (by assumption)) rfl rfl (by decide) (by decide) (by decide) rfl ?_)
                rintro _ rfl
                refine list_cons rfl (op_q (q_move rfl (by decide)) ?_)
                refine list_cons rfl (op_q (q_extract rfl rfl (by decide)) ?_)
                refine list_cons rfl (op_q (q_extract rfl rfl (by decide)) ?_)
                refine list_cons rfl (op_q (q_assign rfl (by decide)) ?_)
                refine list_cons rfl (op_q (q_assign rfl (by decide)) ?_)
                refine list_nil ?_
                refine hK16 _ ?_; clear hK16 K16
                refine codeT.imp (σ' := [(0, .ext _), (2, .val (.bool _)), (3, .val (.str _)), (4, .val (.str _)), (5, .own 27 9 1 _ _), (6, .val (.bool _)), (7, .own 32 9 1 _ _), (8, .val (.str _)), (9, .val (.str _)), (10, .val (.bool _)), (11, .val (.str _)), (12, .val (.bool _)), (13, .val (.str _)), (14, .val (.str _)), (15, .val (.str _)), (16, .val (.bool _))]) ?_ (imp_covers ⟨rfl, rfl, rfl, rfl, rfl, rfl, rfl, rfl, rfl, rfl, rfl, rfl, rfl, rfl, rfl, rfl, trivial⟩)
                refine code_seq (fun K17 hK17 => ?_)
                refine code_region ?_
                refine list_cons rfl (op_q (q_move rfl (by decide)) ?_)
                refine list_cons rfl (op_q (q_move rfl (by decide)) ?_)
                refine list_guard_d rfl rfl rfl rfl (by decide) rfl (by decide) (fun h9 => ?_) (fun h9 => ?_)
                · simp only [Bool.false_eq_true, if_true, if_false, Decidable.not_not] at h9
                  refine id (op_q (q_move rfl (by decide)) ?_)
                  refine list_cons rfl (op_q (q_pick rfl rfl (by decide)) ?_)
                  refine list_cons rfl (op_q (q_move rfl (by decide)) ?_)
                  refine list_guard_d rfl rfl rfl rfl (by decide) rfl (by decide) (fun h10 => ?_) (fun h10 => ?_)
                  · simp only [Bool.false_eq_true, if_true, if_false, Decidable.not_not] at h10
                    refine id (op_q (q_move rfl (by decide)) ?_)
                    refine list_guard_y rfl rfl rfl rfl (by decide) rfl ?_
                    refine id (op_q (q_move rfl (by decide)) ?_)
                    refine list_guard_y rfl rfl rfl rfl (by decide) rfl ?_
                    refine id (op_q (q_seq rfl rfl (by decide)) ?_)
                    refine list_cons rfl (op_q (q_pick rfl rfl (by decide)) ?_)
                    refine list_cons rfl (op_q (q_assign rfl (by decide)) ?_)
                    refine list_nil ?_
                    refine hK17 _ ?_; clear hK17 K17
                    refine codeT.imp (σ' := [(0, .ext _), (2, .val (.bool _)), (3, .val (.str _)), (4, .val (.str _)), (5, .own 27 9 1 _ _), (6, .val (.bool _)), (7, .own 32 9 1 _ _), (8, .val (.str _)), (9, .val (.str _)), (10, .val (.bool _)), (11, .val (.str _)), (12, .val (.bool _)), (13, .val (.str _)), (14, .val (.str _)), (15, .val (.str _)), (16, .val (.bool _))]) ?_ (imp_covers ⟨rfl, rfl, rfl, rfl, rfl, rfl, rfl, rfl, rfl, rfl, rfl, rfl, rfl, rfl, rfl, rfl, trivial⟩)
                    refine code_ret ?_
                    refine ends_ret (cs := []) rfl rfl rfl rfl trivial ?_
                    first
                    | rfl
                    | (exfalso; omega)
                    | (have k : ¬ (s.length ≤ 4000 ∧ sep.length = 1) := by omega
                       simp only [if_neg k]; rfl)
                    | (have k : s.length ≤ 4000 ∧ sep.length = 1 := by omega
                       have kj : sep.length = 1 ∧ 0 < (if s.length ≤ 4000 ∧ sep.length = 1 then splitL (sep.getD 0 0) s else []).length ∧ JoinOk (if s.length ≤ 4000 ∧ sep.length = 1 then splitL (sep.getD 0 0) s else []) (sep.getD 0 0) := ⟨k.2, by rw [if_pos k]; unfold splitL; simp, by rw [if_pos k]; exact split_ok _ _ k.1⟩
                       first
                       | exact absurd kj h10
                       | (rw [decide_eq_true]
                          rw [if_pos kj, if_pos k]
                          have e := split_join_all (sep.getD 0 0) s
                          rw [← getD_u8 sep 0 k.2] at e
                          exact e))
                  · simp only [Bool.false_eq_true, if_true, if_false, Decidable.not_not] at h10
                    refine list_guard_nT rfl rfl rfl rfl (by decide) (by decide) ?_
                    refine list_guard_nT rfl rfl rfl rfl (by decide) (by decide) ?_
                    refine list_cons rfl (op_q (q_pick rfl rfl (by decide)) ?_)
                    refine list_cons rfl (op_q (q_assign rfl (by decide)) ?_)
                    refine list_nil ?_
                    refine hK17 _ ?_; clear hK17 K17
                    refine codeT.imp (σ' := [(0, .ext _), (2, .val (.bool _)), (3, .val (.str _)), (4, .val (.str _)), (5, .own 27 9 1 _ _), (6, .val (.bool _)), (7, .own 32 9 1 _ _), (8, .val (.str _)), (9, .val (.str _)), (10, .val (.bool _)), (11, .val (.str _)), (12, .val (.bool _)), (13, .val (.str _)), (14, .val (.str _)), (15, .val (.str _)), (16, .val (.bool _))]) ?_ (imp_covers ⟨rfl, rfl, rfl, rfl, rfl, rfl, rfl, rfl, rfl, rfl, rfl, rfl, rfl, rfl, rfl, rfl, trivial⟩)
                    refine code_ret ?_
                    refine ends_ret (cs := []) rfl rfl rfl rfl trivial ?_
                    first
                    | rfl
                    | (exfalso; omega)
                    | (have k : ¬ (s.length ≤ 4000 ∧ sep.length = 1) := by omega
                       simp only [if_neg k]; rfl)
                    | (have k : s.length ≤ 4000 ∧ sep.length = 1 := by omega
                       have kj : sep.length = 1 ∧ 0 < (if s.length ≤ 4000 ∧ sep.length = 1 then splitL (sep.getD 0 0) s else []).length ∧ JoinOk (if s.length ≤ 4000 ∧ sep.length = 1 then splitL (sep.getD 0 0) s else []) (sep.getD 0 0) := ⟨k.2, by rw [if_pos k]; unfold splitL; simp, by rw [if_pos k]; exact split_ok _ _ k.1⟩
                       first
                       | exact absurd kj h10
                       | (rw [decide_eq_true]
                          rw [if_pos kj, if_pos k]
                          have e := split_join_all (sep.getD 0 0) s
                          rw [← getD_u8 sep 0 k.2] at e
                          exact e))
                · simp only [Bool.false_eq_true, if_true, if_false, Decidable.not_not] at h9
                  refine list_cons rfl (op_q (q_pick rfl rfl (by decide)) ?_)
                  refine list_cons rfl (op_q (q_move rfl (by decide)) ?_)
                  refine list_guard_nT rfl rfl rfl rfl (by decide) (by decide) ?_
                  refine list_guard_nT rfl rfl rfl rfl (by decide) (by decide) ?_
                  refine list_guard_nT rfl rfl rfl rfl (by decide) (by decide) ?_
                  refine list_cons rfl (op_q (q_pick rfl rfl (by decide)) ?_)
                  refine list_cons rfl (op_q (q_assign rfl (by decide)) ?_)
                  refine list_nil ?_
                  refine hK17 _ ?_; clear hK17 K17
                  refine codeT.imp (σ' := [(0, .ext _), (2, .val (.bool _)), (3, .val (.str _)), (4, .val (.str _)), (5, .own 27 9 1 _ _), (6, .val (.bool _)), (7, .own 32 9 1 _ _), (8, .val (.str _)), (9, .val (.str _)), (10, .val (.bool _)), (11, .val (.str _)), (12, .val (.bool _)), (13, .val (.str _)), (14, .val (.str _)), (15, .val (.str _)), (16, .val (.bool _))]) ?_ (imp_covers ⟨rfl, rfl, rfl, rfl, rfl, rfl, rfl, rfl, rfl, rfl, rfl, rfl, rfl, rfl, rfl, rfl, trivial⟩)
                  refine code_ret ?_
                  refine ends_ret (cs := []) rfl rfl rfl rfl trivial ?_
                  first
                  | rfl
                  | (exfalso; omega)
                  | (have k : ¬ (s.length ≤ 4000 ∧ sep.length = 1) := by omega
                     simp only [if_neg k]; rfl)
                  | (have k : s.length ≤ 4000 ∧ sep.length = 1 := by omega
                     have kj : sep.length = 1 ∧ 0 < (if s.length ≤ 4000 ∧ sep.length = 1 then splitL (sep.getD 0 0) s else []).length ∧ JoinOk (if s.length ≤ 4000 ∧ sep.length = 1 then splitL (sep.getD 0 0) s else []) (sep.getD 0 0) := ⟨k.2, by rw [if_pos k]; unfold splitL; simp, by rw [if_pos k]; exact split_ok _ _ k.1⟩
                     first
                     | exact absurd kj h9
                     | (rw [decide_eq_true]
                        rw [if_pos kj, if_pos k]
                        have e := split_join_all (sep.getD 0 0) s
                        rw [← getD_u8 sep 0 k.2] at e
                        exact e))
          · simp only [Bool.false_eq_true, if_true, if_false, Decidable.not_not] at h5
            refine list_guard_nT rfl rfl rfl rfl (by decide) (by decide) ?_
            refine list_guard_nT rfl rfl rfl rfl (by decide) (by decide) ?_
            refine list_guard_y rfl rfl rfl rfl (by decide) rfl ?_
            refine id (op_q (q_pick rfl rfl (by decide)) ?_)
            refine list_cons rfl (op_q (q_pick rfl rfl (by decide)) ?_)
            refine list_nil ?_
            refine hK12 _ ?_; clear hK12 K12
            refine codeT.imp (σ' := [(0, .ext _), (2, .val (.bool _)), (3, .val (.str _)), (4, .val (.str _)), (5, .own 27 9 1 _ _), (6, .val (.bool _)), (7, .own 32 9 1 _ _), (8, .val (.str _)), (9, .val (.str _)), (10, .val (.bool _)), (11, .val (.str _)), (12, .val (.bool _)), (13, .val (.str _)), (14, .val (.str _)), (78, .val (.bool _))]) ?_ (imp_covers ⟨rfl, rfl, rfl, rfl, rfl, rfl, rfl, rfl, rfl, rfl, rfl, rfl, rfl, rfl, rfl, trivial⟩)
            refine code_cond_f rfl ?_
            refine code_skip ?_
            refine hK11 _ ?_; clear hK11 K11
            refine code_seq (fun K18 hK18 => ?_)
            refine code_seq (fun K19 hK19 => ?_)
            refine code_region ?_
            refine list_cons rfl (op_q (q_move rfl (by decide)) ?_)
            refine list_cons rfl (op_q (q_len_str Try.underlying9 rfl (by decide)) ?_)
            refine list_cons rfl (op_q (q_ne rfl rfl (by decide)) ?_)
            refine list_nil ?_
            refine hK19 _ ?_; clear hK19 K19
            refine code_cond_d rfl (fun h11 => ?_) (fun h11 => ?_)
            · skip
              (try simp only [Decidable.not_not] at h11)
              refine code_seq (fun K20 hK20 => ?_)
              refine code_region ?_
              refine list_cons rfl (op_q (q_move rfl (by decide)) ?_)
              refine list_cons rfl (op_q (by first | exact q_notd rfl (by decide) | exact q_not rfl (by decide)) ?_)
              refine list_cons rfl (op_q (q_move rfl (by decide)) ?_)
              refine list_guard_d rfl rfl rfl rfl (by decide) rfl (by decide) (fun h12 => ?_) (fun h12 => ?_)
              · simp only [Bool.false_eq_true, if_true, if_false, Decidable.not_not] at h12
                refine id (op_q (q_move rfl (by decide)) ?_)
                refine list_guard_y rfl rfl rfl rfl (by decide) rfl ?_
                refine id (op_q (q_len_sl Try.underlying26 rfl rfl (by decide)) ?_)
                refine list_guard_y rfl rfl rfl rfl (by decide) rfl ?_
                refine id (op_q (q_eq rfl rfl (by decide)) ?_)
                refine list_cons rfl (op_q (q_pick rfl rfl (by decide)) ?_)
                refine list_cons rfl (op_q (q_assign rfl (by decide)) ?_)
                refine list_nil ?_
                refine hK20 _ ?_; clear hK20 K20
                refine codeT.imp (σ' := [(0, .ext _), (2, .val (.bool _)), (3, .val (.str _)), (4, .val (.str _)), (5, .own 27 9 1 _ _), (6, .val (.bool _)), (7, .own 32 9 1 _ _), (8, .val (.str _)), (9, .val (.str _)), (10, .val (.bool _)), (11, .val (.str _)), (12, .val (.bool _)), (13, .val (.str _)), (14, .val (.str _))]) ?_ (imp_covers ⟨rfl, rfl, rfl, rfl, rfl, rfl, rfl, rfl, rfl, rfl, rfl, rfl, rfl, rfl, trivial⟩)
                refine code_ret ?_
                refine then_r ?_; clear hK18 K18
                refine ends_ret (cs := []) rfl rfl rfl rfl trivial ?_
                first
                | rfl
                | (exfalso; omega)
                | (have k : ¬ (s.length ≤ 4000 ∧ sep.length = 1) := by omega
                   simp only [if_neg k]; rfl)
                | (have k : s.length ≤ 4000 ∧ sep.length = 1 := by omega
                   have kj : sep.length = 1 ∧ 0 < (if s.length ≤ 4000 ∧ sep.length = 1 then splitL (sep.getD 0 0) s else []).length ∧ JoinOk (if s.length ≤ 4000 ∧ sep.length = 1 then splitL (sep.getD 0 0) s else []) (sep.getD 0 0) := ⟨k.2, by rw [if_pos k]; unfold splitL; simp, by rw [if_pos k]; exact split_ok _ _ k.1⟩
                   first
                   | exact absurd kj h12
                   | (rw [decide_eq_true]
                      rw [if_pos kj, if_pos k]
                      have e := split_join_all (sep.getD 0 0) s
                      rw [← getD_u8 sep 0 k.2] at e
                      exact e))
              · simp only [Bool.false_eq_true, if_true, if_false, Decidable.not_not] at h12
                refine list_guard_nT rfl rfl rfl rfl (by decide) (by decide) ?_
                refine list_guard_nT rfl rfl rfl rfl (by decide) (by decide) ?_
                refine list_cons rfl (op_q (q_pick rfl rfl (by decide)) ?_)
                refine list_cons rfl (op_q (q_assign rfl (by decide)) ?_)
                refine list_nil ?_
                refine hK20 _ ?_; clear hK20 K20
                refine codeT.imp (σ' := [(0, .ext _), (2, .val (.bool _)), (3, .val (.str _)), (4, .val (.str _)), (5, .own 27 9 1 _ _), (6, .val (.bool _)), (7, .own 32 9 1 _ _), (8, .val (.str _)), (9, .val (.str _)), (10, .val (.bool _)), (11, .val (.str _)), (12, .val (.bool _)), (13, .val (.str _)), (14, .val (.str _))]) ?_ (imp_covers ⟨rfl, rfl, rfl, rfl, rfl, rfl, rfl, rfl, rfl, rfl, rfl, rfl, rfl, rfl, trivial⟩)
                refine code_ret ?_
                refine then_r ?_; clear hK18 K18
                refine ends_ret (cs := []) rfl rfl rfl rfl trivial ?_
                first
                | rfl
                | (exfalso; omega)
                | (have k : ¬ (s.length ≤ 4000 ∧ sep.length = 1) := by omega
                   simp only [if_neg k]; rfl)
                | (have k : s.length ≤ 4000 ∧ sep.length = 1 := by omega
                   have kj : sep.length = 1 ∧ 0 < (if s.length ≤ 4000 ∧ sep.length = 1 then splitL (sep.getD 0 0) s else []).length ∧ JoinOk (if s.length ≤ 4000 ∧ sep.length = 1 then splitL (sep.getD 0 0) s else []) (sep.getD 0 0) := ⟨k.2, by rw [if_pos k]; unfold splitL; simp, by rw [if_pos k]; exact split_ok _ _ k.1⟩
                   first
                   | exact absurd kj h12
                   | (rw [decide_eq_true]
                      rw [if_pos kj, if_pos k]
                      have e := split_join_all (sep.getD 0 0) s
                      rw [← getD_u8 sep 0 k.2] at e
                      exact e))
            · skip
              (try simp only [Decidable.not_not] at h11)
              refine code_skip ?_
              refine hK18 _ ?_; clear hK18 K18
              refine code_seq (fun K21 hK21 => ?_)
              refine code_region ?_
              refine list_cons rfl (op_q (q_move rfl (by decide)) ?_)
              refine list_cons rfl (op_q (q_move rfl (by decide)) ?_)
              refine list_cons rfl (op_call _ (implJoin_c _ _ (by first | omega | assumption) (by assumption)) rfl rfl (by decide) (by decide) (by decide) rfl ?_)
              rintro _ rfl
              refine list_cons rfl (op_q (q_move rfl (by decide)) ?_)
              refine list_cons rfl (op_q (q_extract rfl rfl (by decide)) ?_)
              refine list_cons rfl (op_q (q_extract rfl rfl (by decide)) ?_)
              refine list_cons rfl (op_q (q_assign rfl (by decide)) ?_)
              refine list_cons rfl (op_q (q_assign rfl (by decide)) ?_)
              refine list_nil ?_
              refine hK21 _ ?_; clear hK21 K21
              refine codeT.imp (σ' := [(0, .ext _), (2, .val (.bool _)), (3, .val (.str _)), (4, .val (.str _)), (5, .own 27 9 1 _ _), (6, .val (.bool _)), (7, .own 32 9 1 _ _), (8, .val (.str _)), (9, .val (.str _)), (10, .val (.bool _)), (11, .val (.str _)), (12, .val (.bool _)), (13, .val (.str _)), (14, .val (.str _)), (15, .val (.str _)), (16, .val (.bool _))]) ?_ (imp_covers ⟨rfl, rfl, rfl, rfl, rfl, rfl, rfl, rfl, rfl, rfl, rfl, rfl, rfl, rfl, rfl, rfl, trivial⟩)
              refine code_seq (fun K22 hK22 => ?_)
              refine code_region ?_
              refine list_cons rfl (op_q (q_move rfl (by decide)) ?_)
              refine list_cons rfl (op_q (q_move rfl (by decide)) ?_)
              refine list_guard_d rfl rfl rfl rfl (by decide) rfl (by decide) (fun h13 => ?_) (fun h13 => ?_)
              · simp only [Bool.false_eq_true, if_true, if_false, Decidable.not_not] at h13
                refine id (op_q (q_move rfl (by decide)) ?_)
                refine list_cons rfl (op_q (q_pick rfl rfl (by decide)) ?_)
                refine list_cons rfl (op_q (q_move rfl (by decide)) ?_)
                refine list_guard_d rfl rfl rfl rfl (by decide) rfl (by decide) (fun h14 => ?_) (fun h14 => ?_)
                · simp only [Bool.false_eq_true, if_true, if_false, Decidable.not_not] at h14
                  refine id (op_q (q_move rfl (by decide)) ?_)
                  refine list_guard_y rfl rfl rfl rfl (by decide) rfl ?_
                  refine id (op_q (q_move rfl (by decide)) ?_)
                  refine list_guard_y rfl rfl rfl rfl (by decide) rfl ?_
                  refine id (op_q (q_seq rfl rfl (by decide)) ?_)
                  refine list_cons rfl (op_q (q_pick rfl rfl (by decide)) ?_)
                  refine list_cons rfl (op_q (q_assign rfl (by decide)) ?_)
                  refine list_nil ?_
                  refine hK22 _ ?_; clear hK22 K22
                  refine codeT.imp (σ' := [(0, .ext _), (2, .val (.bool _)), (3, .val (.str _)), (4, .val (.str _)), (5, .own 27 9 1 _ _), (6, .val (.bool _)), (7, .own 32 9 1 _ _), (8, .val (.str _)), (9, .val (.str _)), (10, .val (.bool _)), (11, .val (.str _)), (12, .val (.bool _)), (13, .val (.str _)), (14, .val (.str _)), (15, .val (.str _)), (16, .val (.bool _))]) ?_ (imp_covers ⟨rfl, rfl, rfl, rfl, rfl, rfl, rfl, rfl, rfl, rfl, rfl, rfl, rfl, rfl, rfl, rfl, trivial⟩)
                  refine code_ret ?_
                  refine ends_ret (cs := []) rfl rfl rfl rfl trivial ?_
                  first
                  | rfl
                  | (exfalso; omega)
                  | (have k : ¬ (s.length ≤ 4000 ∧ sep.length = 1) := by omega
                     simp only [if_neg k]; rfl)
                  | (have k : s.length ≤ 4000 ∧ sep.length = 1 := by omega
                     have kj : sep.length = 1 ∧ 0 < (if s.length ≤ 4000 ∧ sep.length = 1 then splitL (sep.getD 0 0) s else []).length ∧ JoinOk (if s.length ≤ 4000 ∧ sep.length = 1 then splitL (sep.getD 0 0) s else []) (sep.getD 0 0) := ⟨k.2, by rw [if_pos k]; unfold splitL; simp, by rw [if_pos k]; exact split_ok _ _ k.1⟩
                     first
                     | exact absurd kj h14
                     | (rw [decide_eq_true]
                        rw [if_pos kj, if_pos k]
                        have e := split_join_all (sep.getD 0 0) s
                        rw [← getD_u8 sep 0 k.2] at e
                        exact e))
                · simp only [Bool.false_eq_true, if_true, if_false, Decidable.not_not] at h14
                  refine list_guard_nT rfl rfl rfl rfl (by decide) (by decide) ?_
                  refine list_guard_nT rfl rfl rfl rfl (by decide) (by decide) ?_
                  refine list_cons rfl (op_q (q_pick rfl rfl (by decide)) ?_)
                  refine list_cons rfl (op_q (q_assign rfl (by decide)) ?_)
                  refine list_nil ?_
                  refine hK22 _ ?_; clear hK22 K22
                  refine codeT.imp (σ' := [(0, .ext _), (2, .val (.bool _)), (3, .val (.str _)), (4, .val (.str _)), (5, .own 27 9 1 _ _), (6, .val (.bool _)), (7, .own 32 9 1 _ _), (8, .val (.str _)), (9, .val (.str _)), (10, .val (.bool _)), (11, .val (.str _)), (12, .val (.bool _)), (13, .val (.str _)), (14, .val (.str _)), (15, .val (.str _)), (16, .val (.bool _))]) ?_ (imp_covers ⟨rfl, rfl, rfl, rfl, rfl, rfl, rfl, rfl, rfl, rfl, rfl, rfl, rfl, rfl, rfl, rfl, trivial⟩)
                  refine code_ret ?_
                  refine ends_ret (cs := []) rfl rfl rfl rfl trivial ?_
                  first
                  | rfl
                  | (exfalso; omega)
                  | (have k : ¬ (s.length ≤ 4000 ∧ sep.length = 1) := by omega
                     simp only [if_neg k]; rfl)
                  | (have k : s.length ≤ 4000 ∧ sep.length = 1 := by omega
                     have kj : sep.length = 1 ∧ 0 < (if s.length ≤ 4000 ∧ sep.length = 1 then splitL (sep.getD 0 0) s else []).length ∧ JoinOk (if s.length ≤ 4000 ∧ sep.length = 1 then splitL (sep.getD 0 0) s else []) (sep.getD 0 0) := ⟨k.2, by rw [if_pos k]; unfold splitL; simp, by rw [if_pos k]; exact split_ok _ _ k.1⟩
                     first
                     | exact absurd kj h14
                     | (rw [decide_eq_true]
                        rw [if_pos kj, if_pos k]
                        have e := split_join_all (sep.getD 0 0) s
                        rw [← getD_u8 sep 0 k.2] at e
                        exact e))
              · simp only [Bool.false_eq_true, if_true, if_false, Decidable.not_not] at h13
                refine list_cons rfl (op_q (q_pick rfl rfl (by decide)) ?_)
                refine list_cons rfl (op_q (q_move rfl (by decide)) ?_)
                refine list_guard_nT rfl rfl rfl rfl (by decide) (by decide) ?_
                refine list_guard_nT rfl rfl rfl rfl (by decide) (by decide) ?_
                refine list_guard_nT rfl rfl rfl rfl (by decide) (by decide) ?_
                refine list_cons rfl (op_q (q_pick rfl rfl (by decide)) ?_)
                refine list_cons rfl (op_q (q_assign rfl (by decide)) ?_)
                refine list_nil ?_
                refine hK22 _ ?_; clear hK22 K22
                refine codeT.imp (σ' := [(0, .ext _), (2, .val (.bool _)), (3, .val (.str _)), (4, .val (.str _)), (5, .own 27 9 1 _ _), (6, .val (.bool _)), (7, .own 32 9 1 _ _), (8, .val (.str _)), (9, .val (.str _)), (10, .val (.bool _)), (11, .val (.str _)), (12, .val (.bool _)), (13, .val (.str _)), (14, .val (.str _)), (15, .val (.str _)), (16, .val (.bool _))]) ?_ (imp_covers ⟨rfl, rfl, rfl, rfl, rfl, rfl, rfl, rfl, rfl, rfl, rfl, rfl, rfl, rfl, rfl, rfl, trivial⟩)
                refine code_ret ?_
                refine ends_ret (cs := []) rfl rfl rfl rfl trivial ?_
                first
                | rfl
                | (exfalso; omega)
                | (have k : ¬ (s.length ≤ 4000 ∧ sep.length = 1) := by omega
                   simp only [if_neg k]; rfl)
                | (have k : s.length ≤ 4000 ∧ sep.length = 1 := by omega
                   have kj : sep.length = 1 ∧ 0 < (if s.length ≤ 4000 ∧ sep.length = 1 then splitL (sep.getD 0 0) s else []).length ∧ JoinOk (if s.length ≤ 4000 ∧ sep.length = 1 then splitL (sep.getD 0 0) s else []) (sep.getD 0 0) := ⟨k.2, by rw [if_pos k]; unfold splitL; simp, by rw [if_pos k]; exact split_ok _ _ k.1⟩
                   first
                   | exact absurd kj h13
                   | (rw [decide_eq_true]
                      rw [if_pos kj, if_pos k]
                      have e := split_join_all (sep.getD 0 0) s
                      rw [← getD_u8 sep 0 k.2] at e
                      exact e))
        · simp only [Bool.false_eq_true, if_true, if_false, Decidable.not_not] at h4
          exfalso
          first | exact absurd rfl h4 | exact h4 trivial | (simp at h4; done)
      · simp only [Bool.false_eq_true, if_true, if_false, Decidable.not_not] at h3
        exfalso
        first | exact absurd rfl h3 | exact h3 trivial | (simp at h3; done)
    · simp only [Bool.false_eq_true, if_true, if_false, Decidable.not_not] at h2
      exfalso
      first | exact absurd rfl h2 | exact h2 trivial | (simp at h2; done)

end Go.Proofs.Ythgiialammjcbab
