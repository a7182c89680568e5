/- Contracts of functions, walked over the pure layer; each says for which arguments. -/
import Derived.Test.YtdlckhdalbagmaaDoorI4rTy
import Derived.Test.YtdlckhdalbagmaaDoorTf
import Derived.Test.YtdlckhdalbagmaaDoorSp
import Derived.Test.YtdlckhdalbagmaaDoorShelf
import Derived.Test.YtdlckhdalbagmaaDoorS4
import Derived.Test.YtdlckhdalbagmaaDoorIm
import Derived.Test.YtdlckhdalbagmaaDoorI4
namespace Go.Proofs.YtdlckhdalbagmaaDoor
open Go.RowKit I4rTy
set_option linter.unusedVariables false
set_option linter.unusedSimpArgs false

set_option maxRecDepth 4000 in
theorem numbersFrom_it (n c k : Int) (h : Cn n k) (h0 : 0 ≤ c) (h1 : c ≤ 1000) : ITer Tryd.prog 144 [.ptr [.int .i64 n], .ptr [.int .i64 c], .ptr [.int .i64 k]] (c.toNat) (fun i => [.int .i64 (atC n k i)]) := by
  refine iter_of_code (n := 18) Tryd.func144 (by kernel_rfl) rfl rfl (Nat.le_of_ble_eq_true rfl) rfl (fun Y hYN hYe => ?_)
  have hk := Cn_bd h
  refine codeY_imp (σ' := [(0, _), (1, _), (2, _), (3, _)]) rfl (imp_covers ⟨rfl, rfl, rfl, rfl, trivial⟩) ?_
  refine codeY_seq (fun K1 hK1 => ?_)
  refine codeY_of rfl rfl ?_
  refine code_region ?_
  refine list_cons rfl (op_q (q_load_rd one_3 rfl (.inl ⟨_, (by first | rfl | exact congrArg (SV.rpar _) (drop_map1 _ 0 _ (by first | omega | (simp; omega)))), rfl⟩) (by decide)) ?_)
  refine list_cons rfl (op_q (q_assign rfl (by decide)) ?_)
  refine list_nil ?_
  refine thy_n ?_
  refine hK1 _ _ ?_; clear hK1 K1
  refine codeY_imp (σ' := [(0, _), (1, _), (2, _), (3, _), (5, _)]) rfl (imp_covers ⟨rfl, rfl, rfl, rfl, rfl, trivial⟩) ?_
  refine codeY_seq (fun K2 hK2 => ?_)
  refine codeY_of rfl rfl ?_
  refine code_region ?_
  refine list_cons rfl (op_q (q_load_rd one_3 rfl (.inl ⟨_, (by first | rfl | exact congrArg (SV.rpar _) (drop_map1 _ 0 _ (by first | omega | (simp; omega)))), rfl⟩) (by decide)) ?_)
  refine list_cons rfl (op_q (q_move rfl (by decide)) ?_)
  refine list_nil ?_
  refine thy_n ?_
  refine hK2 _ _ ?_; clear hK2 K2
  refine codeY_imp (σ' := [(0, _), (1, _), (2, _), (3, _), (5, _), (7, _), (8, _)]) rfl (imp_covers ⟨rfl, rfl, rfl, rfl, rfl, rfl, rfl, trivial⟩) ?_
  refine codeY_block ?_
  refine codeY_loop (X := Int × Int × Int) (fun x => [(0, .yld Y.l), (1, .rpar 1 [.int .i64 n]), (2, .rpar 2 [.int .i64 c]), (3, .rpar 3 [.int .i64 k]), (5, .val (.int .i64 x.1)), (7, .val (.int .i64 x.2.1)), (8, .val (.int .i64 x.2.2))]) (fun x => (false, x.2.2.toNat)) (fun x => 0 ≤ x.2.2 ∧ x.2.2 ≤ c ∧ x.2.1 = c ∧ x.1 = atC n k x.2.2.toNat) (fun x => (c - x.2.2).toNat) (_, _, _) rfl (imp_covers ⟨rfl, rfl, rfl, rfl, rfl, rfl, rfl, trivial⟩) rfl ?_ ?_
  · (try dsimp only)
    exact ⟨by omega, by omega, rfl, (atC_0 h).symm⟩
  · intro x hI
    obtain ⟨n_, t7, t8⟩ := x
    replace hI : 0 ≤ t8 ∧ t8 ≤ c ∧ t7 = c ∧ n_ = atC n k t8.toNat := hI
    show codeY _ _ _ [(0, .yld Y.l), (1, .rpar 1 [.int .i64 n]), (2, .rpar 2 [.int .i64 c]), (3, .rpar 3 [.int .i64 k]), (5, .val (.int .i64 n_)), (7, .val (.int .i64 t7)), (8, .val (.int .i64 t8))] (false, t8.toNat) _
    obtain ⟨i1, i2, rfl, rfl⟩ := hI
    have ha := atC_ok h t8.toNat
    have hn := Cn_bd ha
    refine codeY_seq (fun K3 hK3 => ?_)
    refine codeY_of rfl rfl ?_
    refine code_region ?_
    refine list_cons rfl (op_q (q_lt rfl rfl (by decide)) ?_)
    refine list_nil ?_
    refine thy_n ?_
    refine hK3 _ _ ?_; clear hK3 K3
    refine codeY_imp (σ' := [(0, _), (1, _), (2, _), (3, _), (5, _), (7, _), (8, _), (9, _)]) rfl (imp_covers ⟨rfl, rfl, rfl, rfl, rfl, rfl, rfl, rfl, trivial⟩) ?_
    refine codeY_seq (fun K4 hK4 => ?_)
    refine codeY_of rfl rfl ?_
    refine code_cond_d rfl (fun h1 => ?_) (fun h1 => ?_)
    · skip
      (try simp only [Decidable.not_not] at h1)
      refine code_skip ?_
      refine thy_n ?_
      refine hK4 _ _ ?_; clear hK4 K4
      refine codeY_imp (σ' := [(0, _), (1, _), (2, _), (3, _), (5, _), (7, _), (8, _)]) rfl (imp_covers ⟨rfl, rfl, rfl, rfl, rfl, rfl, rfl, trivial⟩) ?_
      refine codeY_seq (fun K5 hK5 => ?_)
      refine codeY_block ?_
      refine codeY_seq (fun K6 hK6 => ?_)
      refine codeY_seq (fun K7 hK7 => ?_)
      refine codeY_region ?_
      refine listY_op rfl rfl (op_q (q_move rfl (by decide)) ?_)
      refine listY_op rfl rfl (op_q (q_move rfl (by decide)) ?_)
      refine listY_yield (k := t8.toNat) rfl rfl (by rw [hYe]; rfl) (by rw [hYe]; rfl) (by rw [hYN]; omega) rfl (by decide) (.inr trivial) ?_ ?_
      · skip
        refine listY_op rfl rfl (op_q (by first | exact q_notd rfl (by decide) | exact q_not rfl (by decide)) ?_)
        refine listY_nil ?_
        refine thy_n ?_
        refine hK7 _ _ ?_; clear hK7 K7
        refine codeY_imp (σ' := [(0, _), (1, _), (2, _), (3, _), (5, _), (7, _), (8, _), (13, _)]) rfl (imp_covers ⟨rfl, rfl, rfl, rfl, rfl, rfl, rfl, rfl, trivial⟩) ?_
        refine codeY_of rfl rfl ?_
        refine code_cond_f rfl ?_
        refine code_skip ?_
        refine thy_n ?_
        refine hK6 _ _ ?_; clear hK6 K6
        refine codeY_imp (σ' := [(0, _), (1, _), (2, _), (3, _), (5, _), (7, _), (8, _)]) rfl (imp_covers ⟨rfl, rfl, rfl, rfl, rfl, rfl, rfl, trivial⟩) ?_
        refine codeY_of rfl rfl ?_
        refine code_region ?_
        refine list_cons rfl (op_q (q_move rfl (by decide)) ?_)
        refine list_cons rfl (op_q (q_load_rd one_3 rfl (.inl ⟨_, (by first | rfl | exact congrArg (SV.rpar _) (drop_map1 _ 0 _ (by first | omega | (simp; omega)))), rfl⟩) (by decide)) ?_)
        refine list_cons rfl (op_call _ (impl_afterStep _ _ (by assumption)) rfl rfl (by decide) (by decide) (by decide) rfl ?_)
        rintro _ rfl
        refine list_cons rfl (op_q (q_assign rfl (by decide)) ?_)
        refine list_nil ?_
        refine bly_n ?_
        refine thy_n ?_
        refine hK5 _ _ ?_; clear hK5 K5
        refine codeY_imp (σ' := [(0, _), (1, _), (2, _), (3, _), (5, _), (7, _), (8, _)]) rfl (imp_covers ⟨rfl, rfl, rfl, rfl, rfl, rfl, rfl, trivial⟩) ?_
        refine codeY_of rfl rfl ?_
        refine code_region ?_
        refine list_cons rfl (op_q (by first | exact q_addI rfl rfl (by decide) (by omega) (by omega) | exact q_ib rfl rfl rfl (by decide)) ?_)
        refine list_cons rfl (op_q (q_move rfl (by decide)) ?_)
        refine list_nil ?_
        refine thy_n ⟨(_, _, _), rfl, imp_covers ⟨rfl, rfl, rfl, rfl, rfl, rfl, rfl, trivial⟩, ?_, ?_, ?_⟩
        · (try dsimp only); (first | rfl | (congr 1; omega) | (simp; omega))
        · (try dsimp only)
          exact ⟨by omega, by omega, rfl, by rw [show (t8 + 1).toNat = t8.toNat + 1 by omega]; exact (atC_succ n k _).symm⟩
        · (try dsimp only); omega
      · skip
        refine listY_op rfl rfl (op_q (by first | exact q_notd rfl (by decide) | exact q_not rfl (by decide)) ?_)
        refine listY_nil ?_
        refine thy_n ?_
        refine hK7 _ _ ?_; clear hK7 K7
        refine codeY_imp (σ' := [(0, _), (1, _), (2, _), (3, _), (5, _), (7, _), (8, _), (13, _)]) rfl (imp_covers ⟨rfl, rfl, rfl, rfl, rfl, rfl, rfl, rfl, trivial⟩) ?_
        refine codeY_of rfl rfl ?_
        refine code_cond_t rfl ?_
        refine code_ret ?_
        refine thy_r ?_
        refine bly_r ?_
        refine thy_r ?_
        refine thy_r ?_
        refine bly_r ?_
        exact ⟨.inr rfl, .inl ⟨rfl, by (try dsimp only); omega⟩⟩
    (try simp only [Decidable.not_not] at h1)
    refine code_exit ?_
    refine thy_x ?_; clear hK4 K4
    refine thy_x ?_
    refine bly_hit ?_
    exact ⟨.inl rfl, .inr (by simp; omega)⟩

set_option maxRecDepth 4000 in
theorem impl_numbersFrom (n c k : Int) : PCalls Tryd.prog 86 [.int .i64 n, .int .i64 c, .int .i64 k] (· = [.frz 0 (.clo 144 [.ptr [.int .i64 n], .ptr [.int .i64 c], .ptr [.int .i64 k]])]) := by
  refine pcalls_of_code (n := 8) az Tryd.func86 (by kernel_rfl) rfl rfl (Nat.le_of_ble_eq_true rfl) (by intro t u h; simp [Tryd.f86] at h) ?_
  refine code_seq (fun K1 hK1 => ?_)
  refine code_region ?_
  refine list_cons rfl (op_box rfl (.inl ⟨rfl, rfl⟩) (by decide) (by decide) rfl ?_)
  refine list_cons rfl (op_box rfl (.inl ⟨rfl, rfl⟩) (by decide) (by decide) rfl ?_)
  refine list_cons rfl (op_box rfl (.inl ⟨rfl, rfl⟩) (by decide) (by decide) rfl ?_)
  refine list_cons rfl (op_q (q_deadconst (by decide)) ?_)
  refine list_nil ?_
  refine hK1 _ ?_; clear hK1 K1
  refine code_seq (fun K2 hK2 => ?_)
  refine code_region ?_
  refine list_cons rfl (op_makeFunc (xs := [.tmp 3, .tmp 4, .tmp 5]) rfl rfl rfl (by decide) (by decide) rfl ?_)
  refine list_cons rfl (op_q (q_assign rfl (by decide)) ?_)
  refine list_nil ?_
  refine hK2 _ ?_; clear hK2 K2
  refine codeT.imp (σ' := [(0, _), (1, _), (2, _), (3, _), (4, _), (5, _), (6, _)]) ?_ (imp_covers ⟨rfl, rfl, rfl, rfl, rfl, rfl, rfl, trivial⟩)
  refine code_ret ?_
  refine ends_ret (cs := []) rfl rfl rfl rfl trivial ?_
  rfl

set_option maxRecDepth 4000 in
theorem impl_RunChanges (n s k : Int) : PCalls Tryd.prog 17 [.int .i64 n, .int .i64 s, .int .i64 k] (· = [.val (.int .i64 (if Cn n k ∧ 0 ≤ s ∧ s ≤ 1000 then runC n k s.toNat else 0)), .val (.bool (decide (Cn n k ∧ 0 ≤ s ∧ s ≤ 1000)))]) := by
  refine pcalls_of_code (n := 34) az Tryd.func17 (by kernel_rfl) rfl rfl (Nat.le_of_ble_eq_true rfl) (by intro t u h; simp [Tryd.f17] at h; rcases h with ⟨_, rfl⟩ | ⟨_, rfl⟩ <;> first | exact resTy_one (one_3).1 rfl | exact resTy_one (one_4).1 rfl) ?_
  refine code_seq (fun K1 hK1 => ?_)
  refine code_region ?_
  refine list_cons rfl (op_box rfl (.inl ⟨rfl, rfl⟩) (by decide) (by decide) rfl ?_)
  refine list_cons rfl (op_alloc zt_3 (by decide) (by decide) rfl ?_)
  refine list_cons rfl (op_alloc zt_4 (by decide) (by decide) rfl ?_)
  refine list_nil ?_
  refine hK1 _ ?_; clear hK1 K1
  refine code_seq (fun K2 hK2 => ?_)
  refine code_seq (fun K3 hK3 => ?_)
  refine code_region ?_
  refine list_cons rfl (op_q (q_move rfl (by decide)) ?_)
  refine list_cons rfl (op_q (q_move rfl (by decide)) ?_)
  refine list_cons rfl (op_q (q_load_box1 one_3 rfl rfl (by decide)) ?_)
  refine list_cons rfl (op_call _ (impl_isRun _ _ _) rfl rfl (by decide) (by decide) (by decide) rfl ?_)
  rintro _ rfl
  refine list_cons rfl (op_q (by first | exact q_notd rfl (by decide) | exact q_not rfl (by decide)) ?_)
  refine list_nil ?_
  refine hK3 _ ?_; clear hK3 K3
  refine codeT.imp (σ' := [(0, _), (1, _), (2, _), (5, _), (6, _), (7, _), (16, _)]) ?_ (imp_covers ⟨rfl, rfl, rfl, rfl, rfl, rfl, rfl, trivial⟩)
  refine code_cond_d rfl (fun h1 => ?_) (fun h1 => ?_)
  · skip
    (try simp only [Decidable.not_not] at h1)
    refine code_seq (fun K4 hK4 => ?_)
    refine code_region ?_
    refine list_cons rfl (op_store (one_3).2 6 [6] (by intro t ht; simp only [List.mem_cons, List.not_mem_nil, or_false] at ht; subst ht; rfl) (.inr ⟨rfl, _, rfl⟩) rfl rfl rfl rfl rfl rfl (by first | decide | omega | exact Nat.le_refl _ | (simp; done) | (simp; omega)) (by decide) rfl ?_)
    refine list_cons rfl (op_store (one_4).2 7 [7] (by intro t ht; simp only [List.mem_cons, List.not_mem_nil, or_false] at ht; subst ht; rfl) (.inr ⟨rfl, _, rfl⟩) rfl rfl rfl rfl rfl rfl (by first | decide | omega | exact Nat.le_refl _ | (simp; done) | (simp; omega)) (by decide) rfl ?_)
    refine list_nil ?_
    refine hK4 _ ?_; clear hK4 K4
    refine codeT.imp (σ' := [(0, _), (1, _), (2, _), (5, _), (6, _), (7, _)]) ?_ (imp_covers ⟨rfl, rfl, rfl, rfl, rfl, rfl, trivial⟩)
    refine code_ret ?_
    refine then_r ?_; clear hK2 K2
    refine ends_ret (cs := []) rfl rfl rfl rfl trivial ?_
    have e : ¬ (Cn n k ∧ 0 ≤ s ∧ s ≤ 1000) := by assumption
    simp only [if_neg e, decide_eq_false e]
  (try simp only [Decidable.not_not] at h1)
  refine code_skip ?_
  refine hK2 _ ?_; clear hK2 K2
  refine code_seq (fun K5 hK5 => ?_)
  refine code_region ?_
  refine list_cons rfl (op_alloc zt_3 (by decide) (by decide) rfl ?_)
  refine list_cons rfl (op_store (one_3).2 8 [8] (by intro t ht; simp only [List.mem_cons, List.not_mem_nil, or_false] at ht; subst ht; rfl) (.inr ⟨rfl, _, rfl⟩) rfl rfl rfl rfl rfl rfl (by first | decide | omega | exact Nat.le_refl _ | (simp; done) | (simp; omega)) (by decide) rfl ?_)
  refine list_nil ?_
  refine hK5 _ ?_; clear hK5 K5
  refine codeT.imp (σ' := [(0, _), (1, _), (2, _), (5, _), (6, _), (7, _), (8, _)]) ?_ (imp_covers ⟨rfl, rfl, rfl, rfl, rfl, rfl, rfl, trivial⟩)
  refine code_seq (fun K6 hK6 => ?_)
  refine code_seq (fun K7 hK7 => ?_)
  refine code_region ?_
  refine list_cons rfl (op_q (q_move rfl (by decide)) ?_)
  refine list_cons rfl (op_q (q_move rfl (by decide)) ?_)
  refine list_cons rfl (op_q (q_load_box1 one_3 rfl rfl (by decide)) ?_)
  refine list_cons rfl (op_call _ (impl_numbersFrom _ _ _) rfl rfl (by decide) (by decide) (by decide) rfl ?_)
  rintro _ rfl
  refine listT.imp ?_ imp_unfrz
  refine list_nil ?_
  refine hK7 _ ?_; clear hK7 K7
  refine codeT.imp (σ' := [(0, _), (1, _), (2, _), (5, _), (6, _), (7, _), (8, _), (20, _)]) ?_ (imp_covers ⟨rfl, rfl, rfl, rfl, rfl, rfl, rfl, rfl, trivial⟩)
  refine code_block ?_
  refine code_rangeFunc (numbersFrom_it n s k (by exact h1.1) (by exact h1.2.1) (by exact h1.2.2)) ((fun (s0 s1 s2 s5 s6 s7 : SV) (i : Nat) => ([(0, s0), (1, s1), (2, s2), (5, s5), (6, s6), (7, s7), (8, .box 8 3 [.int .i64 (runC n k i)])] : St)) _ _ _ _ _ _) (fun i => True) (trivial) rfl rfl rfl (by decide) rfl (fun _ _ => ⟨rfl, rfl⟩) (fun _ => rfl) rfl rfl (imp_covers ⟨rfl, rfl, rfl, rfl, rfl, rfl, rfl, trivial⟩) (fun i hi hIi => ?_) (fun hIi => ?_)
  · intro K8 hK8
    refine codeT.imp (σ' := [(21, .val (.int .i64 (atC n k i))), (0, _), (1, _), (2, _), (5, _), (6, _), (7, _), (8, _)]) ?_ (imp_covers ⟨rfl, rfl, rfl, rfl, rfl, rfl, rfl, rfl, trivial⟩)
    have hk := Cn_bd h1.1
    have hr := runC_le (n := n) (k := k) (by omega) i
    have ha := atC_ok h1.1 i
    have hs := stepC_le (n := atC n k i) (k := k) (by omega)
    refine code_region ?_
    refine list_cons rfl (op_q (q_assign rfl (by decide)) ?_)
    refine list_nil ?_
    refine hK8 _ rfl ?_; clear hK8 K8
    refine codeT.imp (σ' := [(0, _), (1, _), (2, _), (5, _), (6, _), (7, _), (8, _), (9, _), (21, _)]) ?_ (imp_covers ⟨rfl, rfl, rfl, rfl, rfl, rfl, rfl, rfl, rfl, trivial⟩)
    refine code_block ?_
    refine code_seq (fun K9 hK9 => ?_)
    refine code_region ?_
    refine list_cons rfl (op_q (q_move rfl (by decide)) ?_)
    refine list_cons rfl (op_q (q_load_box1 one_3 rfl rfl (by decide)) ?_)
    refine list_cons rfl (op_call _ (impl_StepChangesY (atC n k i) k ha) rfl rfl (by decide) (by decide) (by decide) rfl ?_)
    rintro _ rfl
    refine list_cons rfl (op_q (q_move rfl (by decide)) ?_)
    refine list_cons rfl (op_q (q_extract rfl rfl (by decide)) ?_)
    refine list_cons rfl (op_q (q_extract rfl rfl (by decide)) ?_)
    refine list_cons rfl (op_q (q_assign rfl (by decide)) ?_)
    refine list_cons rfl (op_q (q_assign rfl (by decide)) ?_)
    refine list_nil ?_
    refine hK9 _ ?_; clear hK9 K9
    refine codeT.imp (σ' := [(0, _), (1, _), (2, _), (5, _), (6, _), (7, _), (8, _), (9, _), (10, _), (11, _), (21, _)]) ?_ (imp_covers ⟨rfl, rfl, rfl, rfl, rfl, rfl, rfl, rfl, rfl, rfl, rfl, trivial⟩)
    refine code_seq (fun K10 hK10 => ?_)
    refine code_seq (fun K11 hK11 => ?_)
    refine code_region ?_
    refine list_cons rfl (op_q (q_move rfl (by decide)) ?_)
    refine list_cons rfl (op_q (by first | exact q_notd rfl (by decide) | exact q_not rfl (by decide)) ?_)
    refine list_nil ?_
    refine hK11 _ ?_; clear hK11 K11
    refine code_cond_f rfl ?_
    refine code_skip ?_
    refine hK10 _ ?_; clear hK10 K10
    refine code_region ?_
    refine list_cons rfl (op_q (q_load_box1 one_3 rfl rfl (by decide)) ?_)
    refine list_cons rfl (op_q (q_move rfl (by decide)) ?_)
    refine list_cons rfl (op_q (by first | exact q_addI rfl rfl (by decide) (by omega) (by omega) | exact q_ib rfl rfl rfl (by decide)) ?_)
    refine list_cons rfl (op_store (one_3).2 8 [8] (by intro t ht; simp only [List.mem_cons, List.not_mem_nil, or_false] at ht; subst ht; rfl) (.inr ⟨rfl, _, rfl⟩) rfl rfl rfl rfl rfl rfl (by first | decide | omega | exact Nat.le_refl _ | (simp; done) | (simp; omega)) (by decide) rfl ?_)
    refine list_nil ?_
    refine blk_n ?_
    refine rp_n ⟨trivial, imp_covers ⟨rfl, rfl, rfl, rfl, rfl, rfl, rfl, trivial⟩⟩
  · skip
    refine blk_n ?_
    refine hK6 _ ?_; clear hK6 K6
    refine codeT.imp (σ' := [(0, _), (1, _), (2, _), (5, _), (6, _), (7, _), (8, _)]) ?_ (imp_covers ⟨rfl, rfl, rfl, rfl, rfl, rfl, rfl, trivial⟩)
    refine code_seq (fun K12 hK12 => ?_)
    refine code_region ?_
    refine list_cons rfl (op_q (q_load_box1 one_3 rfl rfl (by decide)) ?_)
    refine list_cons rfl (op_store (one_3).2 6 [6] (by intro t ht; simp only [List.mem_cons, List.not_mem_nil, or_false] at ht; subst ht; rfl) (.inr ⟨rfl, _, rfl⟩) rfl rfl rfl rfl rfl rfl (by first | decide | omega | exact Nat.le_refl _ | (simp; done) | (simp; omega)) (by decide) rfl ?_)
    refine list_cons rfl (op_store (one_4).2 7 [7] (by intro t ht; simp only [List.mem_cons, List.not_mem_nil, or_false] at ht; subst ht; rfl) (.inr ⟨rfl, _, rfl⟩) rfl rfl rfl rfl rfl rfl (by first | decide | omega | exact Nat.le_refl _ | (simp; done) | (simp; omega)) (by decide) rfl ?_)
    refine list_nil ?_
    refine hK12 _ ?_; clear hK12 K12
    refine codeT.imp (σ' := [(0, _), (1, _), (2, _), (5, _), (6, _), (7, _), (8, _)]) ?_ (imp_covers ⟨rfl, rfl, rfl, rfl, rfl, rfl, rfl, trivial⟩)
    refine code_ret ?_
    refine ends_ret (cs := []) rfl rfl rfl rfl trivial ?_
    have e : Cn n k ∧ 0 ≤ s ∧ s ≤ 1000 := h1
    simp only [if_pos e, decide_eq_true e]

set_option maxRecDepth 4000 in
theorem impl_LightOf (n s k : Int) : PCalls Tryd.prog 22 [.int .i64 n, .int .i64 s, .int .i64 k] (· = [.val (.int .i64 (if (Cn n k ∧ 0 ≤ s ∧ s ≤ 1000) ∧ s ≠ 0 then lightC n k s.toNat else 0)), .val (.bool (decide ((Cn n k ∧ 0 ≤ s ∧ s ≤ 1000) ∧ s ≠ 0)))]) := by
  refine pcalls_of_code (n := 49) az Tryd.func22 (by kernel_rfl) rfl rfl (Nat.le_of_ble_eq_true rfl) (by intro t u h; simp [Tryd.f22] at h; rcases h with ⟨_, rfl⟩ | ⟨_, rfl⟩ <;> first | exact resTy_one (one_3).1 rfl | exact resTy_one (one_4).1 rfl) ?_
  refine code_seq (fun K1 hK1 => ?_)
  refine code_region ?_
  refine list_cons rfl (op_box rfl (.inl ⟨rfl, rfl⟩) (by decide) (by decide) rfl ?_)
  refine list_cons rfl (op_alloc zt_3 (by decide) (by decide) rfl ?_)
  refine list_cons rfl (op_alloc zt_4 (by decide) (by decide) rfl ?_)
  refine list_nil ?_
  refine hK1 _ ?_; clear hK1 K1
  refine code_seq (fun K2 hK2 => ?_)
  refine code_seq (fun K3 hK3 => ?_)
  refine code_region ?_
  refine list_cons rfl (op_q (q_move rfl (by decide)) ?_)
  refine list_cons rfl (op_q (q_move rfl (by decide)) ?_)
  refine list_cons rfl (op_q (q_load_box1 one_3 rfl rfl (by decide)) ?_)
  refine list_cons rfl (op_call _ (impl_isRun _ _ _) rfl rfl (by decide) (by decide) (by decide) rfl ?_)
  rintro _ rfl
  refine list_cons rfl (op_q (by first | exact q_notd rfl (by decide) | exact q_not rfl (by decide)) ?_)
  refine list_cons rfl (op_q (q_move rfl (by decide)) ?_)
  refine list_guard_d rfl rfl rfl rfl (by decide) rfl (by decide) (fun h1 => ?_) (fun h1 => ?_)
  · simp only [Bool.false_eq_true, if_true, if_false, Decidable.not_not] at h1
    refine id (op_q (q_move rfl (by decide)) ?_)
    refine list_guard_y rfl rfl rfl rfl (by decide) rfl ?_
    refine id (op_q (q_eq rfl rfl (by decide)) ?_)
    refine list_cons rfl (op_q (q_pick rfl rfl (by decide)) ?_)
    refine list_nil ?_
    refine hK3 _ ?_; clear hK3 K3
    refine codeT.imp (σ' := [(0, _), (1, _), (2, _), (5, _), (6, _), (7, _), (22, _)]) ?_ (imp_covers ⟨rfl, rfl, rfl, rfl, rfl, rfl, rfl, trivial⟩)
    refine code_cond_d rfl (fun h2 => ?_) (fun h2 => ?_)
    · skip
      (try simp only [Decidable.not_not] at h2)
      refine code_seq (fun K4 hK4 => ?_)
      refine code_region ?_
      refine list_cons rfl (op_store (one_3).2 6 [6] (by intro t ht; simp only [List.mem_cons, List.not_mem_nil, or_false] at ht; subst ht; rfl) (.inr ⟨rfl, _, rfl⟩) rfl rfl rfl rfl rfl rfl (by first | decide | omega | exact Nat.le_refl _ | (simp; done) | (simp; omega)) (by decide) rfl ?_)
      refine list_cons rfl (op_store (one_4).2 7 [7] (by intro t ht; simp only [List.mem_cons, List.not_mem_nil, or_false] at ht; subst ht; rfl) (.inr ⟨rfl, _, rfl⟩) rfl rfl rfl rfl rfl rfl (by first | decide | omega | exact Nat.le_refl _ | (simp; done) | (simp; omega)) (by decide) rfl ?_)
      refine list_nil ?_
      refine hK4 _ ?_; clear hK4 K4
      refine codeT.imp (σ' := [(0, _), (1, _), (2, _), (5, _), (6, _), (7, _)]) ?_ (imp_covers ⟨rfl, rfl, rfl, rfl, rfl, rfl, trivial⟩)
      refine code_ret ?_
      refine then_r ?_; clear hK2 K2
      refine ends_ret (cs := []) rfl rfl rfl rfl trivial ?_
      first
        | (have e : ¬ ((Cn n k ∧ 0 ≤ s ∧ s ≤ 1000) ∧ s ≠ 0) := by (first | exact fun h => h.2 (by assumption) | exact fun h => absurd h.1 (by assumption))
           simp only [if_neg e, decide_eq_false e]; done)
        | (have e : (Cn n k ∧ 0 ≤ s ∧ s ≤ 1000) ∧ s ≠ 0 := ⟨by assumption, by assumption⟩
           simp only [if_pos e, decide_eq_true e])
    (try simp only [Decidable.not_not] at h2)
    refine code_skip ?_
    refine hK2 _ ?_; clear hK2 K2
    refine code_seq (fun K5 hK5 => ?_)
    refine code_region ?_
    refine list_cons rfl (op_alloc zt_3 (by decide) (by decide) rfl ?_)
    refine list_cons rfl (op_store (one_3).2 8 [8] (by intro t ht; simp only [List.mem_cons, List.not_mem_nil, or_false] at ht; subst ht; rfl) (.inr ⟨rfl, _, rfl⟩) rfl rfl rfl rfl rfl rfl (by first | decide | omega | exact Nat.le_refl _ | (simp; done) | (simp; omega)) (by decide) rfl ?_)
    refine list_nil ?_
    refine hK5 _ ?_; clear hK5 K5
    refine codeT.imp (σ' := [(0, _), (1, _), (2, _), (5, _), (6, _), (7, _), (8, _)]) ?_ (imp_covers ⟨rfl, rfl, rfl, rfl, rfl, rfl, rfl, trivial⟩)
    refine code_seq (fun K6 hK6 => ?_)
    refine code_seq (fun K7 hK7 => ?_)
    refine code_region ?_
    refine list_cons rfl (op_q (q_move rfl (by decide)) ?_)
    refine list_cons rfl (op_q (q_move rfl (by decide)) ?_)
    refine list_cons rfl (op_q (q_load_box1 one_3 rfl rfl (by decide)) ?_)
    refine list_cons rfl (op_call _ (impl_numbersFrom _ _ _) rfl rfl (by decide) (by decide) (by decide) rfl ?_)
    rintro _ rfl
    refine listT.imp ?_ imp_unfrz
    refine list_nil ?_
    refine hK7 _ ?_; clear hK7 K7
    refine codeT.imp (σ' := [(0, _), (1, _), (2, _), (5, _), (6, _), (7, _), (8, _), (26, _)]) ?_ (imp_covers ⟨rfl, rfl, rfl, rfl, rfl, rfl, rfl, rfl, trivial⟩)
    refine code_block ?_
    refine code_rangeFunc (numbersFrom_it n s k (by exact h1.1) (by exact h1.2.1) (by exact h1.2.2)) ((fun (s0 s1 s2 s5 s6 s7 : SV) (i : Nat) => ([(0, s0), (1, s1), (2, s2), (5, s5), (6, s6), (7, s7), (8, .box 8 3 [.int .i64 (lightC n k i)])] : St)) _ _ _ _ _ _) (fun i => True) (trivial) rfl rfl rfl (by decide) rfl (fun _ _ => ⟨rfl, rfl⟩) (fun _ => rfl) rfl rfl (imp_covers ⟨rfl, rfl, rfl, rfl, rfl, rfl, rfl, trivial⟩) (fun i hi hIi => ?_) (fun hIi => ?_)
    · intro K8 hK8
      refine codeT.imp (σ' := [(27, .val (.int .i64 (atC n k i))), (0, _), (1, _), (2, _), (5, _), (6, _), (7, _), (8, _)]) ?_ (imp_covers ⟨rfl, rfl, rfl, rfl, rfl, rfl, rfl, rfl, trivial⟩)
      have hk := Cn_bd h1.1
      have hr := lightC_le (n := n) (k := k) (by omega) (by omega) i
      have ha := atC_ok h1.1 i
      have hs := litF_le (rowC (atC n k i) k)
      have hw : RowP (rowC (atC n k i) k) := rowC_row (by omega)
      have hwl : ((rowC (atC n k i) k).length : Int) = k := rowC_len _ (by omega)
      refine code_region ?_
      refine list_cons rfl (op_q (q_assign rfl (by decide)) ?_)
      refine list_nil ?_
      refine hK8 _ rfl ?_; clear hK8 K8
      refine codeT.imp (σ' := [(0, _), (1, _), (2, _), (5, _), (6, _), (7, _), (8, _), (9, _), (27, _)]) ?_ (imp_covers ⟨rfl, rfl, rfl, rfl, rfl, rfl, rfl, rfl, rfl, trivial⟩)
      refine code_block ?_
      refine code_seq (fun K9 hK9 => ?_)
      refine code_region ?_
      refine list_cons rfl (op_q (q_move rfl (by decide)) ?_)
      refine list_cons rfl (op_q (q_load_box1 one_3 rfl rfl (by decide)) ?_)
      refine list_cons rfl (op_call _ (impl_CounterRow (atC n k i) k) rfl rfl (by decide) (by decide) (by decide) rfl ?_)
      rintro _ rfl; simp only [if_pos ha, decide_eq_true ha]
      refine list_cons rfl (op_q (q_move rfl (by decide)) ?_)
      refine list_cons rfl (op_q (q_extract rfl rfl (by decide)) ?_)
      refine list_cons rfl (op_q (q_extract rfl rfl (by decide)) ?_)
      refine list_cons rfl (op_q (q_assign rfl (by decide)) ?_)
      refine list_cons rfl (op_q (q_assign rfl (by decide)) ?_)
      refine list_nil ?_
      refine hK9 _ ?_; clear hK9 K9
      refine codeT.imp (σ' := [(0, _), (1, _), (2, _), (5, _), (6, _), (7, _), (8, _), (9, _), (10, _), (11, _), (27, _)]) ?_ (imp_covers ⟨rfl, rfl, rfl, rfl, rfl, rfl, rfl, rfl, rfl, rfl, rfl, trivial⟩)
      refine code_seq (fun K10 hK10 => ?_)
      refine code_region ?_
      refine list_cons rfl (op_q (q_move rfl (by decide)) ?_)
      refine list_cons rfl (op_call _ (impl_LitOf (rowC (atC n k i) k) (by omega)) rfl rfl (by decide) (by decide) (by decide) rfl ?_)
      rintro _ rfl; simp only [if_pos hw, decide_eq_true hw]
      refine list_cons rfl (op_q (q_move rfl (by decide)) ?_)
      refine list_cons rfl (op_q (q_extract rfl rfl (by decide)) ?_)
      refine list_cons rfl (op_q (q_extract rfl rfl (by decide)) ?_)
      refine list_cons rfl (op_q (q_assign rfl (by decide)) ?_)
      refine list_cons rfl (op_q (q_assign rfl (by decide)) ?_)
      refine list_nil ?_
      refine hK10 _ ?_; clear hK10 K10
      refine codeT.imp (σ' := [(0, _), (1, _), (2, _), (5, _), (6, _), (7, _), (8, _), (9, _), (10, _), (11, _), (12, _), (13, _), (27, _)]) ?_ (imp_covers ⟨rfl, rfl, rfl, rfl, rfl, rfl, rfl, rfl, rfl, rfl, rfl, rfl, rfl, trivial⟩)
      refine code_seq (fun K11 hK11 => ?_)
      refine code_seq (fun K12 hK12 => ?_)
      refine code_region ?_
      refine list_cons rfl (op_q (q_move rfl (by decide)) ?_)
      refine list_cons rfl (op_q (by first | exact q_notd rfl (by decide) | exact q_not rfl (by decide)) ?_)
      refine list_cons rfl (op_q (q_move rfl (by decide)) ?_)
      refine list_guard_y rfl rfl rfl rfl (by decide) rfl ?_
      refine id (op_q (q_move rfl (by decide)) ?_)
      refine list_guard_y rfl rfl rfl rfl (by decide) rfl ?_
      refine id (op_q (by first | exact q_notd rfl (by decide) | exact q_not rfl (by decide)) ?_)
      refine list_cons rfl (op_q (q_pick rfl rfl (by decide)) ?_)
      refine list_nil ?_
      refine hK12 _ ?_; clear hK12 K12
      refine code_cond_f rfl ?_
      refine code_skip ?_
      refine hK11 _ ?_; clear hK11 K11
      refine code_region ?_
      refine list_cons rfl (op_q (q_load_box1 one_3 rfl rfl (by decide)) ?_)
      refine list_cons rfl (op_q (q_move rfl (by decide)) ?_)
      refine list_cons rfl (op_q (by first | exact q_addI rfl rfl (by decide) (by omega) (by omega) | exact q_ib rfl rfl rfl (by decide)) ?_)
      refine list_cons rfl (op_store (one_3).2 8 [8] (by intro t ht; simp only [List.mem_cons, List.not_mem_nil, or_false] at ht; subst ht; rfl) (.inr ⟨rfl, _, rfl⟩) rfl rfl rfl rfl rfl rfl (by first | decide | omega | exact Nat.le_refl _ | (simp; done) | (simp; omega)) (by decide) rfl ?_)
      refine list_nil ?_
      refine blk_n ?_
      refine rp_n ⟨trivial, imp_covers ⟨rfl, rfl, rfl, rfl, rfl, rfl, rfl, trivial⟩⟩
    · skip
      refine blk_n ?_
      refine hK6 _ ?_; clear hK6 K6
      refine codeT.imp (σ' := [(0, _), (1, _), (2, _), (5, _), (6, _), (7, _), (8, _)]) ?_ (imp_covers ⟨rfl, rfl, rfl, rfl, rfl, rfl, rfl, trivial⟩)
      refine code_seq (fun K13 hK13 => ?_)
      refine code_region ?_
      refine list_cons rfl (op_q (q_load_box1 one_3 rfl rfl (by decide)) ?_)
      refine list_cons rfl (op_store (one_3).2 6 [6] (by intro t ht; simp only [List.mem_cons, List.not_mem_nil, or_false] at ht; subst ht; rfl) (.inr ⟨rfl, _, rfl⟩) rfl rfl rfl rfl rfl rfl (by first | decide | omega | exact Nat.le_refl _ | (simp; done) | (simp; omega)) (by decide) rfl ?_)
      refine list_cons rfl (op_store (one_4).2 7 [7] (by intro t ht; simp only [List.mem_cons, List.not_mem_nil, or_false] at ht; subst ht; rfl) (.inr ⟨rfl, _, rfl⟩) rfl rfl rfl rfl rfl rfl (by first | decide | omega | exact Nat.le_refl _ | (simp; done) | (simp; omega)) (by decide) rfl ?_)
      refine list_nil ?_
      refine hK13 _ ?_; clear hK13 K13
      refine codeT.imp (σ' := [(0, _), (1, _), (2, _), (5, _), (6, _), (7, _), (8, _)]) ?_ (imp_covers ⟨rfl, rfl, rfl, rfl, rfl, rfl, rfl, trivial⟩)
      refine code_ret ?_
      refine ends_ret (cs := []) rfl rfl rfl rfl trivial ?_
      first
        | (have e : ¬ ((Cn n k ∧ 0 ≤ s ∧ s ≤ 1000) ∧ s ≠ 0) := by (first | exact fun h => h.2 (by assumption) | exact fun h => absurd h.1 (by assumption))
           simp only [if_neg e, decide_eq_false e]; done)
        | (have e : (Cn n k ∧ 0 ≤ s ∧ s ≤ 1000) ∧ s ≠ 0 := ⟨by assumption, by assumption⟩
           simp only [if_pos e, decide_eq_true e])
  simp only [Bool.false_eq_true, if_true, if_false, Decidable.not_not] at h1
  refine list_guard_n rfl rfl rfl rfl (by decide) rfl ?_
  refine list_cons rfl (op_q (q_pick rfl rfl (by decide)) ?_)
  refine list_nil ?_
  refine hK3 _ ?_; clear hK3 K3
  refine code_cond_t rfl ?_
  refine code_seq (fun K14 hK14 => ?_)
  refine code_region ?_
  refine list_cons rfl (op_store (one_3).2 6 [6] (by intro t ht; simp only [List.mem_cons, List.not_mem_nil, or_false] at ht; subst ht; rfl) (.inr ⟨rfl, _, rfl⟩) rfl rfl rfl rfl rfl rfl (by first | decide | omega | exact Nat.le_refl _ | (simp; done) | (simp; omega)) (by decide) rfl ?_)
  refine list_cons rfl (op_store (one_4).2 7 [7] (by intro t ht; simp only [List.mem_cons, List.not_mem_nil, or_false] at ht; subst ht; rfl) (.inr ⟨rfl, _, rfl⟩) rfl rfl rfl rfl rfl rfl (by first | decide | omega | exact Nat.le_refl _ | (simp; done) | (simp; omega)) (by decide) rfl ?_)
  refine list_nil ?_
  refine hK14 _ ?_; clear hK14 K14
  refine codeT.imp (σ' := [(0, _), (1, _), (2, _), (5, _), (6, _), (7, _)]) ?_ (imp_covers ⟨rfl, rfl, rfl, rfl, rfl, rfl, trivial⟩)
  refine code_ret ?_
  refine then_r ?_; clear hK2 K2
  refine ends_ret (cs := []) rfl rfl rfl rfl trivial ?_
  first
    | (have e : ¬ ((Cn n k ∧ 0 ≤ s ∧ s ≤ 1000) ∧ s ≠ 0) := by (first | exact fun h => h.2 (by assumption) | exact fun h => absurd h.1 (by assumption))
       simp only [if_neg e, decide_eq_false e]; done)
    | (have e : (Cn n k ∧ 0 ≤ s ∧ s ≤ 1000) ∧ s ≠ 0 := ⟨by assumption, by assumption⟩
       simp only [if_pos e, decide_eq_true e])

set_option maxRecDepth 4000 in
set_option maxHeartbeats 2000000 in
theorem impl_FirstOver (n k ch : Int) : PCalls Tryd.prog 34 [.int .i64 n, .int .i64 k, .int .i64 ch] (· = [.val (.int .i64 (if Cn n k ∧ 0 ≤ ch then overV (overC n k ch) else 0)), .val (.bool (decide (Cn n k ∧ 0 ≤ ch ∧ (overC n k ch).isSome = true)))]) := by
  refine pcalls_of_code (n := 45) az Tryd.func34 (by kernel_rfl) rfl rfl (Nat.le_of_ble_eq_true rfl) (by intro t u h; simp [Tryd.f34] at h; rcases h with ⟨_, rfl⟩ | ⟨_, rfl⟩ <;> first | exact resTy_one (one_3).1 rfl | exact resTy_one (one_4).1 rfl) ?_
  refine code_seq (fun K1 hK1 => ?_)
  refine code_region ?_
  refine list_cons rfl (op_box rfl (.inl ⟨rfl, rfl⟩) (by decide) (by decide) rfl ?_)
  refine list_cons rfl (op_box rfl (.inl ⟨rfl, rfl⟩) (by decide) (by decide) rfl ?_)
  refine list_cons rfl (op_alloc zt_3 (by decide) (by decide) rfl ?_)
  refine list_cons rfl (op_alloc zt_4 (by decide) (by decide) rfl ?_)
  refine list_nil ?_
  refine hK1 _ ?_; clear hK1 K1
  refine code_seq (fun K2 hK2 => ?_)
  refine code_seq (fun K3 hK3 => ?_)
  refine code_region ?_
  refine list_cons rfl (op_q (q_move rfl (by decide)) ?_)
  refine list_cons rfl (op_q (q_load_box1 one_3 rfl rfl (by decide)) ?_)
  refine list_cons rfl (op_call _ (impl_isShown _ _) rfl rfl (by decide) (by decide) (by decide) rfl ?_)
  rintro _ rfl
  refine list_cons rfl (op_q (by first | exact q_notd rfl (by decide) | exact q_not rfl (by decide)) ?_)
  refine list_cons rfl (op_q (q_move rfl (by decide)) ?_)
  refine list_guard_d rfl rfl rfl rfl (by decide) rfl (by decide) (fun h1 => ?_) (fun h1 => ?_)
  · simp only [Bool.false_eq_true, if_true, if_false, Decidable.not_not] at h1
    refine id (op_q (q_load_box1 one_3 rfl rfl (by decide)) ?_)
    refine list_guard_y rfl rfl rfl rfl (by decide) rfl ?_
    refine id (op_q (q_lt rfl rfl (by decide)) ?_)
    refine list_cons rfl (op_q (q_pick rfl rfl (by decide)) ?_)
    refine list_nil ?_
    refine hK3 _ ?_; clear hK3 K3
    refine codeT.imp (σ' := [(0, _), (1, _), (2, _), (4, _), (5, _), (6, _), (7, _), (20, _)]) ?_ (imp_covers ⟨rfl, rfl, rfl, rfl, rfl, rfl, rfl, rfl, trivial⟩)
    refine code_cond_d rfl (fun h2 => ?_) (fun h2 => ?_)
    · skip
      (try simp only [Decidable.not_not] at h2)
      refine code_seq (fun K4 hK4 => ?_)
      refine code_region ?_
      refine list_cons rfl (op_store (one_3).2 6 [6] (by intro t ht; simp only [List.mem_cons, List.not_mem_nil, or_false] at ht; subst ht; rfl) (.inr ⟨rfl, _, rfl⟩) rfl rfl rfl rfl rfl rfl (by first | decide | omega | exact Nat.le_refl _ | (simp; done) | (simp; omega)) (by decide) rfl ?_)
      refine list_cons rfl (op_store (one_4).2 7 [7] (by intro t ht; simp only [List.mem_cons, List.not_mem_nil, or_false] at ht; subst ht; rfl) (.inr ⟨rfl, _, rfl⟩) rfl rfl rfl rfl rfl rfl (by first | decide | omega | exact Nat.le_refl _ | (simp; done) | (simp; omega)) (by decide) rfl ?_)
      refine list_nil ?_
      refine hK4 _ ?_; clear hK4 K4
      refine codeT.imp (σ' := [(0, _), (1, _), (2, _), (4, _), (5, _), (6, _), (7, _)]) ?_ (imp_covers ⟨rfl, rfl, rfl, rfl, rfl, rfl, rfl, trivial⟩)
      refine code_ret ?_
      refine then_r ?_; clear hK2 K2
      refine ends_ret (cs := []) rfl rfl rfl rfl trivial ?_
      first
        | (have e : ¬ (Cn n k ∧ 0 ≤ ch) := by (first | exact fun h => absurd h.1 (by assumption) | (rintro ⟨_, h⟩; omega))
           have e2 : ¬ (Cn n k ∧ 0 ≤ ch ∧ (overC n k ch).isSome = true) := fun h => e ⟨h.1, h.2.1⟩
           rw [decide_eq_false e2, if_neg e]; done)
        | (exfalso; omega)
        | (have e := overC_some (n := n) (k := k) (i := i) (by omega) (by assumption) hIi.2
           have e3 : Cn n k ∧ 0 ≤ ch := ⟨h1, by omega⟩
           have e2 : Cn n k ∧ 0 ≤ ch ∧ (overC n k ch).isSome = true := ⟨h1, by omega, by rw [e]; rfl⟩
           rw [if_pos e3, decide_eq_true e2, e]; rfl)
        | (have e := overC_none (n := n) (k := k) (ch := ch) (fun j hj => by
             by_cases hjn : j < N1
             · exact hIi.2 j hjn
             · have : j = N1 := by omega
               subst this; omega)
           have e3 : Cn n k ∧ 0 ≤ ch := ⟨h1, by omega⟩
           have e2 : ¬ (Cn n k ∧ 0 ≤ ch ∧ (overC n k ch).isSome = true) := fun h => by rw [e] at h; exact absurd h.2.2 (by simp)
           rw [if_pos e3, decide_eq_false e2, e]; rfl)
        | (have e := overC_some (n := n) (k := k) (i := N1) (by omega) (by omega) hIi.2
           have e3 : Cn n k ∧ 0 ≤ ch := ⟨h1, by omega⟩
           have e2 : Cn n k ∧ 0 ≤ ch ∧ (overC n k ch).isSome = true := ⟨h1, by omega, by rw [e]; rfl⟩
           rw [if_pos e3, decide_eq_true e2, e]; rfl)
    (try simp only [Decidable.not_not] at h2)
    refine code_skip ?_
    refine hK2 _ ?_; clear hK2 K2
    refine code_seq (fun K5 hK5 => ?_)
    refine code_region ?_
    refine list_cons rfl (op_alloc zt_3 (by decide) (by decide) rfl ?_)
    refine list_cons rfl (op_alloc zt_3 (by decide) (by decide) rfl ?_)
    refine list_cons rfl (op_store (one_3).2 8 [8] (by intro t ht; simp only [List.mem_cons, List.not_mem_nil, or_false] at ht; subst ht; rfl) (.inr ⟨rfl, _, rfl⟩) rfl rfl rfl rfl rfl rfl (by first | decide | omega | exact Nat.le_refl _ | (simp; done) | (simp; omega)) (by decide) rfl ?_)
    refine list_cons rfl (op_store (one_3).2 9 [9] (by intro t ht; simp only [List.mem_cons, List.not_mem_nil, or_false] at ht; subst ht; rfl) (.inr ⟨rfl, _, rfl⟩) rfl rfl rfl rfl rfl rfl (by first | decide | omega | exact Nat.le_refl _ | (simp; done) | (simp; omega)) (by decide) rfl ?_)
    refine list_nil ?_
    refine hK5 _ ?_; clear hK5 K5
    refine codeT.imp (σ' := [(0, _), (1, _), (2, _), (4, _), (5, _), (6, _), (7, _), (8, _), (9, _)]) ?_ (imp_covers ⟨rfl, rfl, rfl, rfl, rfl, rfl, rfl, rfl, rfl, trivial⟩)
    refine code_seq (fun K6 hK6 => ?_)
    refine code_seq (fun K7 hK7 => ?_)
    refine code_region ?_
    refine list_cons rfl (op_q (q_move rfl (by decide)) ?_)
    refine list_cons rfl (op_q (q_load_box1 one_3 rfl rfl (by decide)) ?_)
    refine list_cons rfl (op_call _ (impl_numbersFrom _ _ _) rfl rfl (by decide) (by decide) (by decide) rfl ?_)
    rintro _ rfl
    refine listT.imp ?_ imp_unfrz
    refine list_nil ?_
    refine hK7 _ ?_; clear hK7 K7
    refine codeT.imp (σ' := [(0, _), (1, _), (2, _), (4, _), (5, _), (6, _), (7, _), (8, _), (9, _), (23, _)]) ?_ (imp_covers ⟨rfl, rfl, rfl, rfl, rfl, rfl, rfl, rfl, rfl, rfl, trivial⟩)
    refine code_block ?_
    obtain ⟨N1, hN1, hit⟩ : ∃ N1 : Nat, N1 = 1000 ∧ ITer Tryd.prog 144 [.ptr [.int .i64 n], .ptr [.int .i64 1000], .ptr [.int .i64 k]] N1 (fun i => [.int .i64 (atC n k i)]) := ⟨_, rfl, numbersFrom_it n 1000 k (by assumption) (by omega) (by omega)⟩
    refine code_rangeFunc (hit) ((fun (s0 s1 s2 s4 s5 s6 s7 : SV) (i : Nat) => ([(0, s0), (1, s1), (2, s2), (4, s4), (5, s5), (6, s6), (7, s7), (8, .box 8 3 [.int .i64 (runC n k i)]), (9, .box 9 3 [.int .i64 (i : Int)])] : St)) _ _ _ _ _ _ _) (fun i => (i : Nat) ≤ 1000 ∧ ∀ j, j < i → ¬ ch ≤ runC n k j) (⟨by omega, fun j hj => absurd hj (by omega)⟩) rfl rfl rfl (by decide) rfl (fun _ _ => ⟨rfl, rfl⟩) (fun _ => rfl) rfl rfl (imp_covers ⟨rfl, rfl, rfl, rfl, rfl, rfl, rfl, rfl, rfl, trivial⟩) (fun i hi hIi => ?_) (fun hIi => ?_)
    · intro K8 hK8
      refine codeT.imp (σ' := [(24, .val (.int .i64 (atC n k i))), (0, _), (1, _), (2, _), (4, _), (5, _), (6, _), (7, _), (8, _), (9, _)]) ?_ (imp_covers ⟨rfl, rfl, rfl, rfl, rfl, rfl, rfl, rfl, rfl, rfl, trivial⟩)
      have hi2 : (i : Int) < 1000 := by omega
      have hk := Cn_bd h1
      have hr := runC_le (n := n) (k := k) (by omega) i
      have ha := atC_ok h1 i
      have hs := stepC_le (n := atC n k i) (k := k) (by omega)
      refine code_region ?_
      refine list_cons rfl (op_q (q_assign rfl (by decide)) ?_)
      refine list_nil ?_
      refine hK8 _ rfl ?_; clear hK8 K8
      refine codeT.imp (σ' := [(0, _), (1, _), (2, _), (4, _), (5, _), (6, _), (7, _), (8, _), (9, _), (10, _), (24, _)]) ?_ (imp_covers ⟨rfl, rfl, rfl, rfl, rfl, rfl, rfl, rfl, rfl, rfl, rfl, trivial⟩)
      refine code_block ?_
      refine code_seq (fun K9 hK9 => ?_)
      refine code_seq (fun K10 hK10 => ?_)
      refine code_region ?_
      refine list_cons rfl (op_q (q_load_box1 one_3 rfl rfl (by decide)) ?_)
      refine list_cons rfl (op_q (q_load_box1 one_3 rfl rfl (by decide)) ?_)
      refine list_cons rfl (op_q (q_ge rfl rfl (by decide)) ?_)
      refine list_nil ?_
      refine hK10 _ ?_; clear hK10 K10
      refine code_cond_d rfl (fun h3 => ?_) (fun h3 => ?_)
      · skip
        (try simp only [Decidable.not_not] at h3)
        refine code_exit ?_
        refine then_x ?_; clear hK9 K9
        refine blk_miss (by decide) ?_
        refine rp_exit [(0, _), (1, _), (2, _), (4, _), (5, _), (6, _), (7, _), (8, _), (9, _)] (imp_covers ⟨rfl, rfl, rfl, rfl, rfl, rfl, rfl, rfl, rfl, trivial⟩) rfl ?_
        refine blk_hit ?_
        refine hK6 _ ?_; clear hK6 K6
        refine code_seq (fun K11 hK11 => ?_)
        refine code_seq (fun K12 hK12 => ?_)
        refine code_region ?_
        refine list_cons rfl (op_q (q_load_box1 one_3 rfl rfl (by decide)) ?_)
        refine list_cons rfl (op_q (q_load_box1 one_3 rfl rfl (by decide)) ?_)
        refine list_cons rfl (op_q (q_lt rfl rfl (by decide)) ?_)
        refine list_nil ?_
        refine hK12 _ ?_; clear hK12 K12
        refine code_cond_d rfl (fun h4 => ?_) (fun h4 => ?_)
        · skip
          (try simp only [Decidable.not_not] at h4)
          refine code_seq (fun K13 hK13 => ?_)
          refine code_region ?_
          refine list_cons rfl (op_store (one_3).2 6 [6] (by intro t ht; simp only [List.mem_cons, List.not_mem_nil, or_false] at ht; subst ht; rfl) (.inr ⟨rfl, _, rfl⟩) rfl rfl rfl rfl rfl rfl (by first | decide | omega | exact Nat.le_refl _ | (simp; done) | (simp; omega)) (by decide) rfl ?_)
          refine list_cons rfl (op_store (one_4).2 7 [7] (by intro t ht; simp only [List.mem_cons, List.not_mem_nil, or_false] at ht; subst ht; rfl) (.inr ⟨rfl, _, rfl⟩) rfl rfl rfl rfl rfl rfl (by first | decide | omega | exact Nat.le_refl _ | (simp; done) | (simp; omega)) (by decide) rfl ?_)
          refine list_nil ?_
          refine hK13 _ ?_; clear hK13 K13
          refine codeT.imp (σ' := [(0, _), (1, _), (2, _), (4, _), (5, _), (6, _), (7, _), (8, _), (9, _)]) ?_ (imp_covers ⟨rfl, rfl, rfl, rfl, rfl, rfl, rfl, rfl, rfl, trivial⟩)
          refine code_ret ?_
          refine then_r ?_; clear hK11 K11
          refine ends_ret (cs := []) rfl rfl rfl rfl trivial ?_
          first
            | (have e : ¬ (Cn n k ∧ 0 ≤ ch) := by (first | exact fun h => absurd h.1 (by assumption) | (rintro ⟨_, h⟩; omega))
               have e2 : ¬ (Cn n k ∧ 0 ≤ ch ∧ (overC n k ch).isSome = true) := fun h => e ⟨h.1, h.2.1⟩
               rw [decide_eq_false e2, if_neg e]; done)
            | (exfalso; omega)
            | (have e := overC_some (n := n) (k := k) (i := i) (by omega) (by assumption) hIi.2
               have e3 : Cn n k ∧ 0 ≤ ch := ⟨h1, by omega⟩
               have e2 : Cn n k ∧ 0 ≤ ch ∧ (overC n k ch).isSome = true := ⟨h1, by omega, by rw [e]; rfl⟩
               rw [if_pos e3, decide_eq_true e2, e]; rfl)
            | (have e := overC_none (n := n) (k := k) (ch := ch) (fun j hj => by
                 by_cases hjn : j < N1
                 · exact hIi.2 j hjn
                 · have : j = N1 := by omega
                   subst this; omega)
               have e3 : Cn n k ∧ 0 ≤ ch := ⟨h1, by omega⟩
               have e2 : ¬ (Cn n k ∧ 0 ≤ ch ∧ (overC n k ch).isSome = true) := fun h => by rw [e] at h; exact absurd h.2.2 (by simp)
               rw [if_pos e3, decide_eq_false e2, e]; rfl)
            | (have e := overC_some (n := n) (k := k) (i := N1) (by omega) (by omega) hIi.2
               have e3 : Cn n k ∧ 0 ≤ ch := ⟨h1, by omega⟩
               have e2 : Cn n k ∧ 0 ≤ ch ∧ (overC n k ch).isSome = true := ⟨h1, by omega, by rw [e]; rfl⟩
               rw [if_pos e3, decide_eq_true e2, e]; rfl)
        (try simp only [Decidable.not_not] at h4)
        refine code_skip ?_
        refine hK11 _ ?_; clear hK11 K11
        refine code_seq (fun K14 hK14 => ?_)
        refine code_region ?_
        refine list_cons rfl (op_q (q_load_box1 one_3 rfl rfl (by decide)) ?_)
        refine list_cons rfl (op_store (one_3).2 6 [6] (by intro t ht; simp only [List.mem_cons, List.not_mem_nil, or_false] at ht; subst ht; rfl) (.inr ⟨rfl, _, rfl⟩) rfl rfl rfl rfl rfl rfl (by first | decide | omega | exact Nat.le_refl _ | (simp; done) | (simp; omega)) (by decide) rfl ?_)
        refine list_cons rfl (op_store (one_4).2 7 [7] (by intro t ht; simp only [List.mem_cons, List.not_mem_nil, or_false] at ht; subst ht; rfl) (.inr ⟨rfl, _, rfl⟩) rfl rfl rfl rfl rfl rfl (by first | decide | omega | exact Nat.le_refl _ | (simp; done) | (simp; omega)) (by decide) rfl ?_)
        refine list_nil ?_
        refine hK14 _ ?_; clear hK14 K14
        refine codeT.imp (σ' := [(0, _), (1, _), (2, _), (4, _), (5, _), (6, _), (7, _), (8, _), (9, _)]) ?_ (imp_covers ⟨rfl, rfl, rfl, rfl, rfl, rfl, rfl, rfl, rfl, trivial⟩)
        refine code_ret ?_
        refine ends_ret (cs := []) rfl rfl rfl rfl trivial ?_
        first
          | (have e : ¬ (Cn n k ∧ 0 ≤ ch) := by (first | exact fun h => absurd h.1 (by assumption) | (rintro ⟨_, h⟩; omega))
             have e2 : ¬ (Cn n k ∧ 0 ≤ ch ∧ (overC n k ch).isSome = true) := fun h => e ⟨h.1, h.2.1⟩
             rw [decide_eq_false e2, if_neg e]; done)
          | (exfalso; omega)
          | (have e := overC_some (n := n) (k := k) (i := i) (by omega) (by assumption) hIi.2
             have e3 : Cn n k ∧ 0 ≤ ch := ⟨h1, by omega⟩
             have e2 : Cn n k ∧ 0 ≤ ch ∧ (overC n k ch).isSome = true := ⟨h1, by omega, by rw [e]; rfl⟩
             rw [if_pos e3, decide_eq_true e2, e]; rfl)
          | (have e := overC_none (n := n) (k := k) (ch := ch) (fun j hj => by
               by_cases hjn : j < N1
               · exact hIi.2 j hjn
               · have : j = N1 := by omega
                 subst this; omega)
             have e3 : Cn n k ∧ 0 ≤ ch := ⟨h1, by omega⟩
             have e2 : ¬ (Cn n k ∧ 0 ≤ ch ∧ (overC n k ch).isSome = true) := fun h => by rw [e] at h; exact absurd h.2.2 (by simp)
             rw [if_pos e3, decide_eq_false e2, e]; rfl)
          | (have e := overC_some (n := n) (k := k) (i := N1) (by omega) (by omega) hIi.2
             have e3 : Cn n k ∧ 0 ≤ ch := ⟨h1, by omega⟩
             have e2 : Cn n k ∧ 0 ≤ ch ∧ (overC n k ch).isSome = true := ⟨h1, by omega, by rw [e]; rfl⟩
             rw [if_pos e3, decide_eq_true e2, e]; rfl)
      (try simp only [Decidable.not_not] at h3)
      refine code_skip ?_
      refine hK9 _ ?_; clear hK9 K9
      refine code_seq (fun K15 hK15 => ?_)
      refine code_region ?_
      refine list_cons rfl (op_q (q_move rfl (by decide)) ?_)
      refine list_cons rfl (op_q (q_load_box1 one_3 rfl rfl (by decide)) ?_)
      refine list_cons rfl (op_call _ (impl_StepChangesY (atC n k i) k ha) rfl rfl (by decide) (by decide) (by decide) rfl ?_)
      rintro _ rfl
      refine list_cons rfl (op_q (q_move rfl (by decide)) ?_)
      refine list_cons rfl (op_q (q_extract rfl rfl (by decide)) ?_)
      refine list_cons rfl (op_q (q_extract rfl rfl (by decide)) ?_)
      refine list_cons rfl (op_q (q_assign rfl (by decide)) ?_)
      refine list_cons rfl (op_q (q_assign rfl (by decide)) ?_)
      refine list_nil ?_
      refine hK15 _ ?_; clear hK15 K15
      refine codeT.imp (σ' := [(0, _), (1, _), (2, _), (4, _), (5, _), (6, _), (7, _), (8, _), (9, _), (10, _), (11, _), (12, _), (24, _)]) ?_ (imp_covers ⟨rfl, rfl, rfl, rfl, rfl, rfl, rfl, rfl, rfl, rfl, rfl, rfl, rfl, trivial⟩)
      refine code_seq (fun K16 hK16 => ?_)
      refine code_seq (fun K17 hK17 => ?_)
      refine code_region ?_
      refine list_cons rfl (op_q (q_move rfl (by decide)) ?_)
      refine list_cons rfl (op_q (by first | exact q_notd rfl (by decide) | exact q_not rfl (by decide)) ?_)
      refine list_nil ?_
      refine hK17 _ ?_; clear hK17 K17
      refine code_cond_f rfl ?_
      refine code_skip ?_
      refine hK16 _ ?_; clear hK16 K16
      refine code_seq (fun K18 hK18 => ?_)
      refine code_region ?_
      refine list_cons rfl (op_q (q_load_box1 one_3 rfl rfl (by decide)) ?_)
      refine list_cons rfl (op_q (q_move rfl (by decide)) ?_)
      refine list_cons rfl (op_q (by first | exact q_addI rfl rfl (by decide) (by omega) (by omega) | exact q_ib rfl rfl rfl (by decide)) ?_)
      refine list_cons rfl (op_store (one_3).2 8 [8] (by intro t ht; simp only [List.mem_cons, List.not_mem_nil, or_false] at ht; subst ht; rfl) (.inr ⟨rfl, _, rfl⟩) rfl rfl rfl rfl rfl rfl (by first | decide | omega | exact Nat.le_refl _ | (simp; done) | (simp; omega)) (by decide) rfl ?_)
      refine list_nil ?_
      refine hK18 _ ?_; clear hK18 K18
      refine codeT.imp (σ' := [(0, _), (1, _), (2, _), (4, _), (5, _), (6, _), (7, _), (8, _), (9, _), (10, _), (11, _), (12, _), (24, _)]) ?_ (imp_covers ⟨rfl, rfl, rfl, rfl, rfl, rfl, rfl, rfl, rfl, rfl, rfl, rfl, rfl, trivial⟩)
      refine code_region ?_
      refine list_cons rfl (op_q (q_load_box1 one_3 rfl rfl (by decide)) ?_)
      refine list_cons rfl (op_q (by first | exact q_addI rfl rfl (by decide) (by omega) (by omega) | exact q_ib rfl rfl rfl (by decide)) ?_)
      refine list_cons rfl (op_store (one_3).2 9 [9] (by intro t ht; simp only [List.mem_cons, List.not_mem_nil, or_false] at ht; subst ht; rfl) (.inr ⟨rfl, _, rfl⟩) rfl rfl rfl rfl rfl rfl (by first | decide | omega | exact Nat.le_refl _ | (simp; done) | (simp; omega)) (by decide) rfl ?_)
      refine list_nil ?_
      refine blk_n ?_
      refine rp_n ⟨⟨by omega, fun j hj => by (rcases Nat.lt_succ_iff_lt_or_eq.1 hj with h | h; exact hIi.2 j h; subst h; omega)⟩, imp_covers ⟨rfl, rfl, rfl, rfl, rfl, rfl, rfl, rfl, rfl, trivial⟩⟩
    · skip
      have hk := Cn_bd h1
      have hr := runC_le (n := n) (k := k) (by omega) N1
      refine blk_n ?_
      refine hK6 _ ?_; clear hK6 K6
      refine codeT.imp (σ' := [(0, _), (1, _), (2, _), (4, _), (5, _), (6, _), (7, _), (8, _), (9, _)]) ?_ (imp_covers ⟨rfl, rfl, rfl, rfl, rfl, rfl, rfl, rfl, rfl, trivial⟩)
      refine code_seq (fun K19 hK19 => ?_)
      refine code_seq (fun K20 hK20 => ?_)
      refine code_region ?_
      refine list_cons rfl (op_q (q_load_box1 one_3 rfl rfl (by decide)) ?_)
      refine list_cons rfl (op_q (q_load_box1 one_3 rfl rfl (by decide)) ?_)
      refine list_cons rfl (op_q (q_lt rfl rfl (by decide)) ?_)
      refine list_nil ?_
      refine hK20 _ ?_; clear hK20 K20
      refine code_cond_d rfl (fun h5 => ?_) (fun h5 => ?_)
      · skip
        (try simp only [Decidable.not_not] at h5)
        refine code_seq (fun K21 hK21 => ?_)
        refine code_region ?_
        refine list_cons rfl (op_store (one_3).2 6 [6] (by intro t ht; simp only [List.mem_cons, List.not_mem_nil, or_false] at ht; subst ht; rfl) (.inr ⟨rfl, _, rfl⟩) rfl rfl rfl rfl rfl rfl (by first | decide | omega | exact Nat.le_refl _ | (simp; done) | (simp; omega)) (by decide) rfl ?_)
        refine list_cons rfl (op_store (one_4).2 7 [7] (by intro t ht; simp only [List.mem_cons, List.not_mem_nil, or_false] at ht; subst ht; rfl) (.inr ⟨rfl, _, rfl⟩) rfl rfl rfl rfl rfl rfl (by first | decide | omega | exact Nat.le_refl _ | (simp; done) | (simp; omega)) (by decide) rfl ?_)
        refine list_nil ?_
        refine hK21 _ ?_; clear hK21 K21
        refine codeT.imp (σ' := [(0, _), (1, _), (2, _), (4, _), (5, _), (6, _), (7, _), (8, _), (9, _)]) ?_ (imp_covers ⟨rfl, rfl, rfl, rfl, rfl, rfl, rfl, rfl, rfl, trivial⟩)
        refine code_ret ?_
        refine then_r ?_; clear hK19 K19
        refine ends_ret (cs := []) rfl rfl rfl rfl trivial ?_
        first
          | (have e : ¬ (Cn n k ∧ 0 ≤ ch) := by (first | exact fun h => absurd h.1 (by assumption) | (rintro ⟨_, h⟩; omega))
             have e2 : ¬ (Cn n k ∧ 0 ≤ ch ∧ (overC n k ch).isSome = true) := fun h => e ⟨h.1, h.2.1⟩
             rw [decide_eq_false e2, if_neg e]; done)
          | (exfalso; omega)
          | (have e := overC_some (n := n) (k := k) (i := i) (by omega) (by assumption) hIi.2
             have e3 : Cn n k ∧ 0 ≤ ch := ⟨h1, by omega⟩
             have e2 : Cn n k ∧ 0 ≤ ch ∧ (overC n k ch).isSome = true := ⟨h1, by omega, by rw [e]; rfl⟩
             rw [if_pos e3, decide_eq_true e2, e]; rfl)
          | (have e := overC_none (n := n) (k := k) (ch := ch) (fun j hj => by
               by_cases hjn : j < N1
               · exact hIi.2 j hjn
               · have : j = N1 := by omega
                 subst this; omega)
             have e3 : Cn n k ∧ 0 ≤ ch := ⟨h1, by omega⟩
             have e2 : ¬ (Cn n k ∧ 0 ≤ ch ∧ (overC n k ch).isSome = true) := fun h => by rw [e] at h; exact absurd h.2.2 (by simp)
             rw [if_pos e3, decide_eq_false e2, e]; rfl)
          | (have e := overC_some (n := n) (k := k) (i := N1) (by omega) (by omega) hIi.2
             have e3 : Cn n k ∧ 0 ≤ ch := ⟨h1, by omega⟩
             have e2 : Cn n k ∧ 0 ≤ ch ∧ (overC n k ch).isSome = true := ⟨h1, by omega, by rw [e]; rfl⟩
             rw [if_pos e3, decide_eq_true e2, e]; rfl)
      (try simp only [Decidable.not_not] at h5)
      refine code_skip ?_
      refine hK19 _ ?_; clear hK19 K19
      refine code_seq (fun K22 hK22 => ?_)
      refine code_region ?_
      refine list_cons rfl (op_q (q_load_box1 one_3 rfl rfl (by decide)) ?_)
      refine list_cons rfl (op_store (one_3).2 6 [6] (by intro t ht; simp only [List.mem_cons, List.not_mem_nil, or_false] at ht; subst ht; rfl) (.inr ⟨rfl, _, rfl⟩) rfl rfl rfl rfl rfl rfl (by first | decide | omega | exact Nat.le_refl _ | (simp; done) | (simp; omega)) (by decide) rfl ?_)
      refine list_cons rfl (op_store (one_4).2 7 [7] (by intro t ht; simp only [List.mem_cons, List.not_mem_nil, or_false] at ht; subst ht; rfl) (.inr ⟨rfl, _, rfl⟩) rfl rfl rfl rfl rfl rfl (by first | decide | omega | exact Nat.le_refl _ | (simp; done) | (simp; omega)) (by decide) rfl ?_)
      refine list_nil ?_
      refine hK22 _ ?_; clear hK22 K22
      refine codeT.imp (σ' := [(0, _), (1, _), (2, _), (4, _), (5, _), (6, _), (7, _), (8, _), (9, _)]) ?_ (imp_covers ⟨rfl, rfl, rfl, rfl, rfl, rfl, rfl, rfl, rfl, trivial⟩)
      refine code_ret ?_
      refine ends_ret (cs := []) rfl rfl rfl rfl trivial ?_
      first
        | (have e : ¬ (Cn n k ∧ 0 ≤ ch) := by (first | exact fun h => absurd h.1 (by assumption) | (rintro ⟨_, h⟩; omega))
           have e2 : ¬ (Cn n k ∧ 0 ≤ ch ∧ (overC n k ch).isSome = true) := fun h => e ⟨h.1, h.2.1⟩
           rw [decide_eq_false e2, if_neg e]; done)
        | (exfalso; omega)
        | (have e := overC_some (n := n) (k := k) (i := i) (by omega) (by assumption) hIi.2
           have e3 : Cn n k ∧ 0 ≤ ch := ⟨h1, by omega⟩
           have e2 : Cn n k ∧ 0 ≤ ch ∧ (overC n k ch).isSome = true := ⟨h1, by omega, by rw [e]; rfl⟩
           rw [if_pos e3, decide_eq_true e2, e]; rfl)
        | (have e := overC_none (n := n) (k := k) (ch := ch) (fun j hj => by
             by_cases hjn : j < N1
             · exact hIi.2 j hjn
             · have : j = N1 := by omega
               subst this; omega)
           have e3 : Cn n k ∧ 0 ≤ ch := ⟨h1, by omega⟩
           have e2 : ¬ (Cn n k ∧ 0 ≤ ch ∧ (overC n k ch).isSome = true) := fun h => by rw [e] at h; exact absurd h.2.2 (by simp)
           rw [if_pos e3, decide_eq_false e2, e]; rfl)
        | (have e := overC_some (n := n) (k := k) (i := N1) (by omega) (by omega) hIi.2
           have e3 : Cn n k ∧ 0 ≤ ch := ⟨h1, by omega⟩
           have e2 : Cn n k ∧ 0 ≤ ch ∧ (overC n k ch).isSome = true := ⟨h1, by omega, by rw [e]; rfl⟩
           rw [if_pos e3, decide_eq_true e2, e]; rfl)
  simp only [Bool.false_eq_true, if_true, if_false, Decidable.not_not] at h1
  refine list_guard_n rfl rfl rfl rfl (by decide) rfl ?_
  refine list_cons rfl (op_q (q_pick rfl rfl (by decide)) ?_)
  refine list_nil ?_
  refine hK3 _ ?_; clear hK3 K3
  refine code_cond_t rfl ?_
  refine code_seq (fun K23 hK23 => ?_)
  refine code_region ?_
  refine list_cons rfl (op_store (one_3).2 6 [6] (by intro t ht; simp only [List.mem_cons, List.not_mem_nil, or_false] at ht; subst ht; rfl) (.inr ⟨rfl, _, rfl⟩) rfl rfl rfl rfl rfl rfl (by first | decide | omega | exact Nat.le_refl _ | (simp; done) | (simp; omega)) (by decide) rfl ?_)
  refine list_cons rfl (op_store (one_4).2 7 [7] (by intro t ht; simp only [List.mem_cons, List.not_mem_nil, or_false] at ht; subst ht; rfl) (.inr ⟨rfl, _, rfl⟩) rfl rfl rfl rfl rfl rfl (by first | decide | omega | exact Nat.le_refl _ | (simp; done) | (simp; omega)) (by decide) rfl ?_)
  refine list_nil ?_
  refine hK23 _ ?_; clear hK23 K23
  refine codeT.imp (σ' := [(0, _), (1, _), (2, _), (4, _), (5, _), (6, _), (7, _)]) ?_ (imp_covers ⟨rfl, rfl, rfl, rfl, rfl, rfl, rfl, trivial⟩)
  refine code_ret ?_
  refine then_r ?_; clear hK2 K2
  refine ends_ret (cs := []) rfl rfl rfl rfl trivial ?_
  first
    | (have e : ¬ (Cn n k ∧ 0 ≤ ch) := by (first | exact fun h => absurd h.1 (by assumption) | (rintro ⟨_, h⟩; omega))
       have e2 : ¬ (Cn n k ∧ 0 ≤ ch ∧ (overC n k ch).isSome = true) := fun h => e ⟨h.1, h.2.1⟩
       rw [decide_eq_false e2, if_neg e]; done)
    | (exfalso; omega)
    | (have e := overC_some (n := n) (k := k) (i := i) (by omega) (by assumption) hIi.2
       have e3 : Cn n k ∧ 0 ≤ ch := ⟨h1, by omega⟩
       have e2 : Cn n k ∧ 0 ≤ ch ∧ (overC n k ch).isSome = true := ⟨h1, by omega, by rw [e]; rfl⟩
       rw [if_pos e3, decide_eq_true e2, e]; rfl)
    | (have e := overC_none (n := n) (k := k) (ch := ch) (fun j hj => by
         by_cases hjn : j < N1
         · exact hIi.2 j hjn
         · have : j = N1 := by omega
           subst this; omega)
       have e3 : Cn n k ∧ 0 ≤ ch := ⟨h1, by omega⟩
       have e2 : ¬ (Cn n k ∧ 0 ≤ ch ∧ (overC n k ch).isSome = true) := fun h => by rw [e] at h; exact absurd h.2.2 (by simp)
       rw [if_pos e3, decide_eq_false e2, e]; rfl)
    | (have e := overC_some (n := n) (k := k) (i := N1) (by omega) (by omega) hIi.2
       have e3 : Cn n k ∧ 0 ≤ ch := ⟨h1, by omega⟩
       have e2 : Cn n k ∧ 0 ≤ ch ∧ (overC n k ch).isSome = true := ⟨h1, by omega, by rw [e]; rfl⟩
       rw [if_pos e3, decide_eq_true e2, e]; rfl)

end Go.Proofs.YtdlckhdalbagmaaDoor
