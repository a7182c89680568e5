/- Contracts of functions, walked over the pure layer; each says for which arguments. -/
import Derived.Test.YtilpfcpjmfchbaaDoorI4rTy
import Derived.Test.YtilpfcpjmfchbaaDoorTf
import Derived.Test.YtilpfcpjmfchbaaDoorSp
import Derived.Test.YtilpfcpjmfchbaaDoorShelf
import Derived.Test.YtilpfcpjmfchbaaDoorS4
import Derived.Test.YtilpfcpjmfchbaaDoorIm
import Derived.Test.YtilpfcpjmfchbaaDoorI4
namespace Go.Proofs.YtilpfcpjmfchbaaDoor
open Go.RowKit I4rTy
set_option linter.unusedVariables false
set_option linter.unusedSimpArgs false

set_option maxRecDepth 4000 in
theorem numbersFrom_it (n c k : Int) (h : Cn n k) (h0 : 0 ≤ c) (h1 : c ≤ 1000) : ITer Tryd.prog 50 [.ptr [.int .i64 n], .ptr [.int .i64 c], .ptr [.int .i64 k]] (c.toNat) (fun i => [.int .i64 (atC n k i)]) := by
  refine iter_of_code (n := 18) Tryd.func50 (by kernel_rfl) rfl rfl (Nat.le_of_ble_eq_true rfl) rfl (fun Y hYN hYe => ?_)
  have hk := Cn_bd h
  refine codeY_imp (σ' := [(0, _), (1, _), (2, _), (3, _)]) rfl (imp_covers ⟨rfl, rfl, rfl, rfl, trivial⟩) ?_
  refine codeY_seq (fun K1 hK1 => ?_)
  refine codeY_of rfl rfl ?_
  refine code_region ?_
  refine list_cons rfl (op_q (q_load_rd one_3 rfl (.inl ⟨_, (by first | rfl | exact congrArg (SV.rpar _) (drop_map1 _ 0 _ (by first | omega | (simp; omega)))), rfl⟩) (by decide)) ?_)
  refine list_cons rfl (op_q (q_assign rfl (by decide)) ?_)
  refine list_nil ?_
  refine thy_n ?_
  refine hK1 _ _ ?_; clear hK1 K1
  refine codeY_imp (σ' := [(0, _), (1, _), (2, _), (3, _), (5, _)]) rfl (imp_covers ⟨rfl, rfl, rfl, rfl, rfl, trivial⟩) ?_
  refine codeY_seq (fun K2 hK2 => ?_)
  refine codeY_of rfl rfl ?_
  refine code_region ?_
  refine list_cons rfl (op_q (q_load_rd one_3 rfl (.inl ⟨_, (by first | rfl | exact congrArg (SV.rpar _) (drop_map1 _ 0 _ (by first | omega | (simp; omega)))), rfl⟩) (by decide)) ?_)
  refine list_cons rfl (op_q (q_move rfl (by decide)) ?_)
  refine list_nil ?_
  refine thy_n ?_
  refine hK2 _ _ ?_; clear hK2 K2
  refine codeY_imp (σ' := [(0, _), (1, _), (2, _), (3, _), (5, _), (7, _), (8, _)]) rfl (imp_covers ⟨rfl, rfl, rfl, rfl, rfl, rfl, rfl, trivial⟩) ?_
  refine codeY_block ?_
  refine codeY_loop (X := Int × Int × Int) (fun x => [(0, .yld Y.l), (1, .rpar 1 [.int .i64 n]), (2, .rpar 2 [.int .i64 c]), (3, .rpar 3 [.int .i64 k]), (5, .val (.int .i64 x.1)), (7, .val (.int .i64 x.2.1)), (8, .val (.int .i64 x.2.2))]) (fun x => (false, x.2.2.toNat)) (fun x => 0 ≤ x.2.2 ∧ x.2.2 ≤ c ∧ x.2.1 = c ∧ x.1 = atC n k x.2.2.toNat) (fun x => (c - x.2.2).toNat) (_, _, _) rfl (imp_covers ⟨rfl, rfl, rfl, rfl, rfl, rfl, rfl, trivial⟩) rfl ?_ ?_
  · (try dsimp only)
    exact ⟨by omega, by omega, rfl, (atC_0 h).symm⟩
  · intro x hI
    obtain ⟨n_, t7, t8⟩ := x
    replace hI : 0 ≤ t8 ∧ t8 ≤ c ∧ t7 = c ∧ n_ = atC n k t8.toNat := hI
    show codeY _ _ _ [(0, .yld Y.l), (1, .rpar 1 [.int .i64 n]), (2, .rpar 2 [.int .i64 c]), (3, .rpar 3 [.int .i64 k]), (5, .val (.int .i64 n_)), (7, .val (.int .i64 t7)), (8, .val (.int .i64 t8))] (false, t8.toNat) _
    obtain ⟨i1, i2, rfl, rfl⟩ := hI
    have ha := atC_ok h t8.toNat
    have hn := Cn_bd ha
    refine codeY_seq (fun K3 hK3 => ?_)
    refine codeY_of rfl rfl ?_
    refine code_region ?_
    refine list_cons rfl (op_q (q_lt rfl rfl (by decide)) ?_)
    refine list_nil ?_
    refine thy_n ?_
    refine hK3 _ _ ?_; clear hK3 K3
    refine codeY_imp (σ' := [(0, _), (1, _), (2, _), (3, _), (5, _), (7, _), (8, _), (9, _)]) rfl (imp_covers ⟨rfl, rfl, rfl, rfl, rfl, rfl, rfl, rfl, trivial⟩) ?_
    refine codeY_seq (fun K4 hK4 => ?_)
    refine codeY_of rfl rfl ?_
    refine code_cond_d rfl (fun h1 => ?_) (fun h1 => ?_)
    · skip
      (try simp only [Decidable.not_not] at h1)
      refine code_skip ?_
      refine thy_n ?_
      refine hK4 _ _ ?_; clear hK4 K4
      refine codeY_imp (σ' := [(0, _), (1, _), (2, _), (3, _), (5, _), (7, _), (8, _)]) rfl (imp_covers ⟨rfl, rfl, rfl, rfl, rfl, rfl, rfl, trivial⟩) ?_
      refine codeY_seq (fun K5 hK5 => ?_)
      refine codeY_block ?_
      refine codeY_seq (fun K6 hK6 => ?_)
      refine codeY_seq (fun K7 hK7 => ?_)
      refine codeY_region ?_
      refine listY_op rfl rfl (op_q (q_move rfl (by decide)) ?_)
      refine listY_op rfl rfl (op_q (q_move rfl (by decide)) ?_)
      refine listY_yield (k := t8.toNat) rfl rfl (by rw [hYe]; rfl) (by rw [hYe]; rfl) (by rw [hYN]; omega) rfl (by decide) (.inr trivial) ?_ ?_
      · skip
        refine listY_op rfl rfl (op_q (by first | exact q_notd rfl (by decide) | exact q_not rfl (by decide)) ?_)
        refine listY_nil ?_
        refine thy_n ?_
        refine hK7 _ _ ?_; clear hK7 K7
        refine codeY_imp (σ' := [(0, _), (1, _), (2, _), (3, _), (5, _), (7, _), (8, _), (13, _)]) rfl (imp_covers ⟨rfl, rfl, rfl, rfl, rfl, rfl, rfl, rfl, trivial⟩) ?_
        refine codeY_of rfl rfl ?_
        refine code_cond_f rfl ?_
        refine code_skip ?_
        refine thy_n ?_
        refine hK6 _ _ ?_; clear hK6 K6
        refine codeY_imp (σ' := [(0, _), (1, _), (2, _), (3, _), (5, _), (7, _), (8, _)]) rfl (imp_covers ⟨rfl, rfl, rfl, rfl, rfl, rfl, rfl, trivial⟩) ?_
        refine codeY_of rfl rfl ?_
        refine code_region ?_
        refine list_cons rfl (op_q (q_move rfl (by decide)) ?_)
        refine list_cons rfl (op_q (q_load_rd one_3 rfl (.inl ⟨_, (by first | rfl | exact congrArg (SV.rpar _) (drop_map1 _ 0 _ (by first | omega | (simp; omega)))), rfl⟩) (by decide)) ?_)
        refine list_cons rfl (op_call _ (impl_afterStep _ _ (by assumption)) rfl rfl (by decide) (by decide) (by decide) rfl ?_)
        rintro _ rfl
        refine list_cons rfl (op_q (q_assign rfl (by decide)) ?_)
        refine list_nil ?_
        refine bly_n ?_
        refine thy_n ?_
        refine hK5 _ _ ?_; clear hK5 K5
        refine codeY_imp (σ' := [(0, _), (1, _), (2, _), (3, _), (5, _), (7, _), (8, _)]) rfl (imp_covers ⟨rfl, rfl, rfl, rfl, rfl, rfl, rfl, trivial⟩) ?_
        refine codeY_of rfl rfl ?_
        refine code_region ?_
        refine list_cons rfl (op_q (by first | exact q_addI rfl rfl (by decide) (by omega) (by omega) | exact q_ib rfl rfl rfl (by decide)) ?_)
        refine list_cons rfl (op_q (q_move rfl (by decide)) ?_)
        refine list_nil ?_
        refine thy_n ⟨(_, _, _), rfl, imp_covers ⟨rfl, rfl, rfl, rfl, rfl, rfl, rfl, trivial⟩, ?_, ?_, ?_⟩
        · (try dsimp only); (first | rfl | (congr 1; omega) | (simp; omega))
        · (try dsimp only)
          exact ⟨by omega, by omega, rfl, by rw [show (t8 + 1).toNat = t8.toNat + 1 by omega]; exact (atC_succ n k _).symm⟩
        · (try dsimp only); omega
      · skip
        refine listY_op rfl rfl (op_q (by first | exact q_notd rfl (by decide) | exact q_not rfl (by decide)) ?_)
        refine listY_nil ?_
        refine thy_n ?_
        refine hK7 _ _ ?_; clear hK7 K7
        refine codeY_imp (σ' := [(0, _), (1, _), (2, _), (3, _), (5, _), (7, _), (8, _), (13, _)]) rfl (imp_covers ⟨rfl, rfl, rfl, rfl, rfl, rfl, rfl, rfl, trivial⟩) ?_
        refine codeY_of rfl rfl ?_
        refine code_cond_t rfl ?_
        refine code_ret ?_
        refine thy_r ?_
        refine bly_r ?_
        refine thy_r ?_
        refine thy_r ?_
        refine bly_r ?_
        exact ⟨.inr rfl, .inl ⟨rfl, by (try dsimp only); omega⟩⟩
    · skip
      (try simp only [Decidable.not_not] at h1)
      refine code_exit ?_
      refine thy_x ?_; clear hK4 K4
      refine thy_x ?_
      refine bly_hit ?_
      exact ⟨.inl rfl, .inr (by simp; omega)⟩

set_option maxRecDepth 4000 in
theorem impl_numbersFrom (n c k : Int) : PCalls Tryd.prog 33 [.int .i64 n, .int .i64 c, .int .i64 k] (· = [.frz 0 (.clo 50 [.ptr [.int .i64 n], .ptr [.int .i64 c], .ptr [.int .i64 k]])]) := by
  refine pcalls_of_code (n := 8) az Tryd.func33 (by kernel_rfl) rfl rfl (Nat.le_of_ble_eq_true rfl) (by intro t u h; simp [Tryd.f33] at h) ?_
  refine code_seq (fun K1 hK1 => ?_)
  refine code_region ?_
  refine list_cons rfl (op_box rfl (.inl ⟨rfl, rfl⟩) (by decide) (by decide) rfl ?_)
  refine list_cons rfl (op_box rfl (.inl ⟨rfl, rfl⟩) (by decide) (by decide) rfl ?_)
  refine list_cons rfl (op_box rfl (.inl ⟨rfl, rfl⟩) (by decide) (by decide) rfl ?_)
  refine list_cons rfl (op_q (q_deadconst (by decide)) ?_)
  refine list_nil ?_
  refine hK1 _ ?_; clear hK1 K1
  refine code_seq (fun K2 hK2 => ?_)
  refine code_region ?_
  refine list_cons rfl (op_makeFunc (xs := [.tmp 3, .tmp 4, .tmp 5]) rfl rfl rfl (by decide) (by decide) rfl ?_)
  refine list_cons rfl (op_q (q_assign rfl (by decide)) ?_)
  refine list_nil ?_
  refine hK2 _ ?_; clear hK2 K2
  refine codeT.imp (σ' := [(0, _), (1, _), (2, _), (3, _), (4, _), (5, _), (6, _)]) ?_ (imp_covers ⟨rfl, rfl, rfl, rfl, rfl, rfl, rfl, trivial⟩)
  refine code_ret ?_
  refine ends_ret (cs := []) rfl rfl rfl rfl trivial ?_
  rfl

end Go.Proofs.YtilpfcpjmfchbaaDoor
