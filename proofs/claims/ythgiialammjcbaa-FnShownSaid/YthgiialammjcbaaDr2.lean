/- Contracts of functions, walked over the pure layer; each says for which arguments. -/
import Derived.Test.YthgiialammjcbaaDr2Ty
import Derived.Test.YthgiialammjcbaaTf
import Derived.Test.YthgiialammjcbaaSp
import Derived.Test.YthgiialammjcbaaDr
namespace Go.Proofs.Ythgiialammjcbaa
open Go.RowKit Dr2Ty
set_option linter.unusedVariables false
set_option linter.unusedSimpArgs false

set_option maxRecDepth 4000 in
set_option maxHeartbeats 4000000 in
theorem cell_c (code : List UInt8) (hcode : code.length ≤ 9223372036854775807) (a s : Int) (ha : 0 ≤ a) (ha2 : a ≤ 4611686018427387000) : MCalls Try.prog 23 false (some (.box 49 [.sl code.length (bytesP code), .int .i64 a, .int .u64 s])) [] fun rs cs => ∃ (x : Int) (a2 s2 : Int), (-1 ≤ x ∧ x ≤ 4611686018427387904) ∧ a ≤ a2 ∧ a2 ≤ a + 20 ∧ rs = [.val (.int .i64 x)] ∧ cs = [.sl code.length (bytesP code), .int .i64 a2, .int .u64 s2] := by
  refine mcalls_of_code (n := 33) az Try.func23 (by kernel_rfl) rfl rfl (Nat.le_of_ble_eq_true rfl) (by intro t u h; simp [Try.f23] at h) ?_
  refine code_seq (fun K1 hK1 => ?_)
  refine code_region ?_
  refine list_cons rfl (op_q (q_assign rfl (by decide)) ?_)
  refine list_nil ?_
  refine hK1 _ ?_; clear hK1 K1
  refine code_seq (fun K2 hK2 => ?_)
  refine code_seq (fun K3 hK3 => ?_)
  refine code_region ?_
  refine list_cons rfl (op_q (q_move rfl (by decide)) ?_)
  refine list_cons rfl (op_callM (pick_c code ?_ _ _ ?_ ?_ _) (.tmp 4) 2000 [0, 4] [_] _ rfl rfl (by intro y hy; cases hy; exact ⟨rfl, (by intro t ht; simp only [List.mem_cons, List.not_mem_nil, or_false] at ht; rcases ht with rfl | rfl <;> rfl), (by intro s hs; simp only [List.mem_cons, List.not_mem_nil, or_false] at hs; subst hs; first | (simp [SV.labels]; done) | exact List.not_mem_nil)⟩) (by decide) (by decide) (by decide) rfl (fun _ => rfl) ?_)
  · first | assumption | omega | (simp; omega)
  · first | assumption | omega | (simp; omega)
  · first | assumption | omega | (simp; omega)
  rintro _ _ ⟨b, a2, s2, hb0, hb1, ha0, ha1, rfl, rfl⟩
  try have hp2 := p2_64 (k := b.toNat) (by omega)
  refine list_nil ?_
  refine hK3 _ ?_; clear hK3 K3
  refine codeT.imp (σ' := [(0, _), (2, _), (5, _)]) ?_ (imp_covers ⟨rfl, rfl, rfl, trivial⟩)
  refine code_block ?_
  refine code_seq (fun K4 hK4 => ?_)
  refine code_region ?_
  refine list_cons rfl (op_q (q_eq rfl rfl (by decide)) ?_)
  refine list_cons rfl (op_q (q_assign rfl (by decide)) ?_)
  refine list_nil ?_
  refine hK4 _ ?_; clear hK4 K4
  refine code_cond_d rfl (fun h1 => ?_) (fun h1 => ?_)
  · skip
    (try simp only [Decidable.not_not] at h1)
    refine code_seq (fun K5 hK5 => ?_)
    refine code_region ?_
    refine list_cons rfl (op_q (q_move rfl (by decide)) ?_)
    refine list_cons rfl (op_buildSlice sl_33 (parts := [(0, _), (1, _), (2, _)]) rfl rfl rfl (by decide) (by decide) (by decide) rfl ?_)
    refine list_cons rfl (op_callM (among_c code ?_ _ _ ?_ ?_ ([-1, 128, 4611686018427387904]) (by decide) (by decide)) (.tmp 8) 2000 [0, 8] [.tmp 9] _ rfl rfl (by intro y hy; cases hy; exact ⟨rfl, (by intro t ht; simp only [List.mem_cons, List.not_mem_nil, or_false] at ht; rcases ht with rfl | rfl <;> rfl), (by intro s hs; simp only [List.mem_cons, List.not_mem_nil, or_false] at hs; subst hs; first | (simp [SV.labels]; done) | exact List.not_mem_nil)⟩) (by decide) (by decide) (by decide) rfl (fun _ => rfl) ?_)
    · first | assumption | omega | (simp; omega)
    · first | assumption | omega | (simp; omega)
    · first | assumption | omega | (simp; omega)
    rintro _ _ ⟨x, a2, s2, hx, ha0, ha1, rfl, rfl⟩
    simp only [List.mem_cons, List.not_mem_nil, or_false] at hx
    refine list_cons rfl (op_q (q_assign rfl (by decide)) ?_)
    refine list_nil ?_
    refine hK5 _ ?_; clear hK5 K5
    refine codeT.imp (σ' := [(0, _), (2, _), (5, _)]) ?_ (imp_covers ⟨rfl, rfl, rfl, trivial⟩)
    refine code_ret ?_
    refine blk_r ?_
    refine then_r ?_; clear hK2 K2
    refine ends_ret (cs := _) rfl rfl rfl rfl rfl ?_
    first
    | exact ⟨_, _, _, by omega, by omega, by omega, rfl, rfl⟩
    | (refine ⟨_, _, _, ?_, by omega, by omega, rfl, rfl⟩; have hx7 := @xor7c (digT.getD _ 0) ((p2 b.toNat : Nat) : Int) hdc ⟨by omega, by omega⟩; omega)
  · skip
    (try simp only [Decidable.not_not] at h1)
    refine code_seq (fun K6 hK6 => ?_)
    refine code_seq (fun K7 hK7 => ?_)
    refine code_region ?_
    refine list_cons rfl (op_q (q_eq rfl rfl (by decide)) ?_)
    refine list_cons rfl (op_q (q_assign rfl (by decide)) ?_)
    refine list_nil ?_
    refine hK7 _ ?_; clear hK7 K7
    refine code_cond_d rfl (fun h2 => ?_) (fun h2 => ?_)
    · skip
      (try simp only [Decidable.not_not] at h2)
      refine code_skip ?_
      refine hK6 _ ?_; clear hK6 K6
      refine code_cond_d rfl (fun h3 => ?_) (fun h3 => ?_)
      · skip
        (try simp only [Decidable.not_not] at h3)
        refine code_seq (fun K8 hK8 => ?_)
        refine code_region ?_
        refine list_cons rfl (op_q (q_move rfl (by decide)) ?_)
        refine list_cons rfl (op_buildSlice sl_33 (parts := [(0, _), (1, _), (2, _)]) rfl rfl rfl (by decide) (by decide) (by decide) rfl ?_)
        refine list_cons rfl (op_callM (among_c code ?_ _ _ ?_ ?_ ([0, 127, 64]) (by decide) (by decide)) (.tmp 15) 2000 [0, 15] [.tmp 16] _ rfl rfl (by intro y hy; cases hy; exact ⟨rfl, (by intro t ht; simp only [List.mem_cons, List.not_mem_nil, or_false] at ht; rcases ht with rfl | rfl <;> rfl), (by intro s hs; simp only [List.mem_cons, List.not_mem_nil, or_false] at hs; subst hs; first | (simp [SV.labels]; done) | exact List.not_mem_nil)⟩) (by decide) (by decide) (by decide) rfl (fun _ => rfl) ?_)
        · first | assumption | omega | (simp; omega)
        · first | assumption | omega | (simp; omega)
        · first | assumption | omega | (simp; omega)
        rintro _ _ ⟨x, a2, s2, hx, ha0, ha1, rfl, rfl⟩
        simp only [List.mem_cons, List.not_mem_nil, or_false] at hx
        refine list_cons rfl (op_q (q_assign rfl (by decide)) ?_)
        refine list_nil ?_
        refine hK8 _ ?_; clear hK8 K8
        refine codeT.imp (σ' := [(0, _), (2, _), (5, _), (11, _)]) ?_ (imp_covers ⟨rfl, rfl, rfl, rfl, trivial⟩)
        refine code_ret ?_
        refine blk_r ?_
        refine then_r ?_; clear hK2 K2
        refine ends_ret (cs := _) rfl rfl rfl rfl rfl ?_
        first
        | exact ⟨_, _, _, by omega, by omega, by omega, rfl, rfl⟩
        | (refine ⟨_, _, _, ?_, by omega, by omega, rfl, rfl⟩; have hx7 := @xor7c (digT.getD _ 0) ((p2 b.toNat : Nat) : Int) hdc ⟨by omega, by omega⟩; omega)
      · skip
        (try simp only [Decidable.not_not] at h3)
        refine code_skip ?_
        refine blk_n ?_
        refine hK2 _ ?_; clear hK2 K2
        refine code_seq (fun K9 hK9 => ?_)
        refine code_seq (fun K10 hK10 => ?_)
        refine code_region ?_
        refine list_cons rfl (op_q (q_move rfl (by decide)) ?_)
        refine list_cons rfl (op_callM (one_c code ?_ _ _ ?_ ?_ _) (.tmp 18) 2000 [0, 18] [_] _ rfl rfl (by intro y hy; cases hy; exact ⟨rfl, (by intro t ht; simp only [List.mem_cons, List.not_mem_nil, or_false] at ht; rcases ht with rfl | rfl <;> rfl), (by intro s hs; simp only [List.mem_cons, List.not_mem_nil, or_false] at hs; subst hs; first | (simp [SV.labels]; done) | exact List.not_mem_nil)⟩) (by decide) (by decide) (by decide) rfl (fun _ => rfl) ?_)
        · first | assumption | omega | (simp; omega)
        · first | assumption | omega | (simp; omega)
        · first | assumption | omega | (simp; omega)
        rintro _ _ ⟨o, a2, s2, ha0, ha1, rfl, rfl⟩
        refine list_nil ?_
        refine hK10 _ ?_; clear hK10 K10
        refine codeT.imp (σ' := [(0, _), (2, _), (5, _), (11, _), (19, _)]) ?_ (imp_covers ⟨rfl, rfl, rfl, rfl, rfl, trivial⟩)
        refine code_cond_d rfl (fun h4 => ?_) (fun h4 => ?_)
        · skip
          (try simp only [Decidable.not_not] at h4)
          refine code_seq (fun K11 hK11 => ?_)
          refine code_region ?_
          refine list_cons rfl (op_q (q_move rfl (by decide)) ?_)
          refine list_cons rfl (op_callM (pick_c code ?_ _ _ ?_ ?_ _) (.tmp 20) 2000 [0, 20] [_] _ rfl rfl (by intro y hy; cases hy; exact ⟨rfl, (by intro t ht; simp only [List.mem_cons, List.not_mem_nil, or_false] at ht; rcases ht with rfl | rfl <;> rfl), (by intro s hs; simp only [List.mem_cons, List.not_mem_nil, or_false] at hs; subst hs; first | (simp [SV.labels]; done) | exact List.not_mem_nil)⟩) (by decide) (by decide) (by decide) rfl (fun _ => rfl) ?_)
          · first | assumption | omega | (simp; omega)
          · first | assumption | omega | (simp; omega)
          · first | assumption | omega | (simp; omega)
          rintro _ _ ⟨b, a2, s2, hb0, hb1, ha0, ha1, rfl, rfl⟩
          try have hp2 := p2_64 (k := b.toNat) (by omega)
          refine list_cons rfl (op_q (q_assign rfl (by decide)) ?_)
          refine list_nil ?_
          refine hK11 _ ?_; clear hK11 K11
          refine codeT.imp (σ' := [(0, _), (2, _), (5, _), (11, _)]) ?_ (imp_covers ⟨rfl, rfl, rfl, rfl, trivial⟩)
          refine code_ret ?_
          refine then_r ?_; clear hK9 K9
          refine ends_ret (cs := _) rfl rfl rfl rfl rfl ?_
          first
          | exact ⟨_, _, _, by omega, by omega, by omega, rfl, rfl⟩
          | (refine ⟨_, _, _, ?_, by omega, by omega, rfl, rfl⟩; have hx7 := @xor7c (digT.getD _ 0) ((p2 b.toNat : Nat) : Int) hdc ⟨by omega, by omega⟩; omega)
        · skip
          (try simp only [Decidable.not_not] at h4)
          refine code_skip ?_
          refine hK9 _ ?_; clear hK9 K9
          refine code_seq (fun K12 hK12 => ?_)
          refine code_region ?_
          refine list_cons rfl (op_q (q_move rfl (by decide)) ?_)
          refine list_cons rfl (op_callM (pick_c code ?_ _ _ ?_ ?_ _) (.tmp 22) 2000 [0, 22] [_] _ rfl rfl (by intro y hy; cases hy; exact ⟨rfl, (by intro t ht; simp only [List.mem_cons, List.not_mem_nil, or_false] at ht; rcases ht with rfl | rfl <;> rfl), (by intro s hs; simp only [List.mem_cons, List.not_mem_nil, or_false] at hs; subst hs; first | (simp [SV.labels]; done) | exact List.not_mem_nil)⟩) (by decide) (by decide) (by decide) rfl (fun _ => rfl) ?_)
          · first | assumption | omega | (simp; omega)
          · first | assumption | omega | (simp; omega)
          · first | assumption | omega | (simp; omega)
          rintro _ _ ⟨b, a2, s2, hb0, hb1, ha0, ha1, rfl, rfl⟩
          try have hp2 := p2_64 (k := b.toNat) (by omega)
          refine list_cons rfl (op_call _ (spec_l2Digit _ (by omega) (by omega)) rfl rfl (by decide) (by decide) (by decide) rfl ?_)
          rintro _ rfl; have hdc := digT_cell b.toNat
          refine list_cons rfl (op_q (q_assign rfl (by decide)) ?_)
          refine list_nil ?_
          refine hK12 _ ?_; clear hK12 K12
          refine codeT.imp (σ' := [(0, _), (2, _), (3, _), (5, _), (11, _)]) ?_ (imp_covers ⟨rfl, rfl, rfl, rfl, rfl, trivial⟩)
          refine code_seq (fun K13 hK13 => ?_)
          refine code_seq (fun K14 hK14 => ?_)
          refine code_region ?_
          refine list_cons rfl (op_q (q_move rfl (by decide)) ?_)
          refine list_cons rfl (op_callM (one_c code ?_ _ _ ?_ ?_ _) (.tmp 25) 2000 [0, 25] [_] _ rfl rfl (by intro y hy; cases hy; exact ⟨rfl, (by intro t ht; simp only [List.mem_cons, List.not_mem_nil, or_false] at ht; rcases ht with rfl | rfl <;> rfl), (by intro s hs; simp only [List.mem_cons, List.not_mem_nil, or_false] at hs; subst hs; first | (simp [SV.labels]; done) | exact List.not_mem_nil)⟩) (by decide) (by decide) (by decide) rfl (fun _ => rfl) ?_)
          · first | assumption | omega | (simp; omega)
          · first | assumption | omega | (simp; omega)
          · first | assumption | omega | (simp; omega)
          rintro _ _ ⟨o, a2, s2, ha0, ha1, rfl, rfl⟩
          refine list_nil ?_
          refine hK14 _ ?_; clear hK14 K14
          refine codeT.imp (σ' := [(0, _), (2, _), (3, _), (5, _), (11, _), (26, _)]) ?_ (imp_covers ⟨rfl, rfl, rfl, rfl, rfl, rfl, trivial⟩)
          refine code_cond_d rfl (fun h5 => ?_) (fun h5 => ?_)
          · skip
            (try simp only [Decidable.not_not] at h5)
            refine code_region ?_
            refine list_cons rfl (op_q (q_move rfl (by decide)) ?_)
            refine list_cons rfl (op_q (q_move rfl (by decide)) ?_)
            refine list_cons rfl (op_callM (pick_c code ?_ _ _ ?_ ?_ _) (.tmp 28) 2000 [0, 28] [_] _ rfl rfl (by intro y hy; cases hy; exact ⟨rfl, (by intro t ht; simp only [List.mem_cons, List.not_mem_nil, or_false] at ht; rcases ht with rfl | rfl <;> rfl), (by intro s hs; simp only [List.mem_cons, List.not_mem_nil, or_false] at hs; subst hs; first | (simp [SV.labels]; done) | exact List.not_mem_nil)⟩) (by decide) (by decide) (by decide) rfl (fun _ => rfl) ?_)
            · first | assumption | omega | (simp; omega)
            · first | assumption | omega | (simp; omega)
            · first | assumption | omega | (simp; omega)
            rintro _ _ ⟨b, a2, s2, hb0, hb1, ha0, ha1, rfl, rfl⟩
            try have hp2 := p2_64 (k := b.toNat) (by omega)
            refine list_cons rfl (op_q (by first | exact q_shl1 rfl rfl (by decide) (by omega) (by omega) | exact q_shlI rfl rfl (by decide) (by omega) (by omega) (by omega) | exact q_shl rfl rfl (by omega) (by decide)) ?_)
            refine list_cons rfl (op_q (by first | exact q_xorI rfl rfl (by decide) (by omega) (by omega) (by omega) (by omega) | exact q_ib rfl rfl rfl (by decide)) ?_)
            refine list_cons rfl (op_q (q_assign rfl (by decide)) ?_)
            refine list_nil ?_
            refine hK13 _ ?_; clear hK13 K13
            refine codeT.imp (σ' := [(0, _), (2, _), (3, _), (5, _), (11, _)]) ?_ (imp_covers ⟨rfl, rfl, rfl, rfl, rfl, trivial⟩)
            refine code_seq (fun K15 hK15 => ?_)
            refine code_region ?_
            refine list_cons rfl (op_q (q_move rfl (by decide)) ?_)
            refine list_cons rfl (op_q (q_assign rfl (by decide)) ?_)
            refine list_nil ?_
            refine hK15 _ ?_; clear hK15 K15
            refine code_ret ?_
            refine ends_ret (cs := _) rfl rfl rfl rfl rfl ?_
            first
            | exact ⟨_, _, _, by omega, by omega, by omega, rfl, rfl⟩
            | (refine ⟨_, _, _, ?_, by omega, by omega, rfl, rfl⟩; have hx7 := @xor7c (digT.getD _ 0) ((p2 b.toNat : Nat) : Int) hdc ⟨by omega, by omega⟩; omega)
          · skip
            (try simp only [Decidable.not_not] at h5)
            refine code_skip ?_
            refine hK13 _ ?_; clear hK13 K13
            refine code_seq (fun K16 hK16 => ?_)
            refine code_region ?_
            refine list_cons rfl (op_q (q_move rfl (by decide)) ?_)
            refine list_cons rfl (op_q (q_assign rfl (by decide)) ?_)
            refine list_nil ?_
            refine hK16 _ ?_; clear hK16 K16
            refine code_ret ?_
            refine ends_ret (cs := _) rfl rfl rfl rfl rfl ?_
            first
            | exact ⟨_, _, _, by omega, by omega, by omega, rfl, rfl⟩
            | (refine ⟨_, _, _, ?_, by omega, by omega, rfl, rfl⟩; have hx7 := @xor7c (digT.getD _ 0) ((p2 b.toNat : Nat) : Int) hdc ⟨by omega, by omega⟩; omega)
    · skip
      (try simp only [Decidable.not_not] at h2)
      refine code_seq (fun K17 hK17 => ?_)
      refine code_region ?_
      refine list_cons rfl (op_q (q_eq rfl rfl (by decide)) ?_)
      refine list_cons rfl (op_q (q_assign rfl (by decide)) ?_)
      refine list_nil ?_
      refine hK17 _ ?_; clear hK17 K17
      refine code_cond_d rfl (fun h6 => ?_) (fun h6 => ?_)
      · skip
        (try simp only [Decidable.not_not] at h6)
        refine code_skip ?_
        refine hK6 _ ?_; clear hK6 K6
        refine code_cond_d rfl (fun h7 => ?_) (fun h7 => ?_)
        · skip
          (try simp only [Decidable.not_not] at h7)
          refine code_seq (fun K18 hK18 => ?_)
          refine code_region ?_
          refine list_cons rfl (op_q (q_move rfl (by decide)) ?_)
          refine list_cons rfl (op_buildSlice sl_33 (parts := [(0, _), (1, _), (2, _)]) rfl rfl rfl (by decide) (by decide) (by decide) rfl ?_)
          refine list_cons rfl (op_callM (among_c code ?_ _ _ ?_ ?_ ([0, 127, 64]) (by decide) (by decide)) (.tmp 15) 2000 [0, 15] [.tmp 16] _ rfl rfl (by intro y hy; cases hy; exact ⟨rfl, (by intro t ht; simp only [List.mem_cons, List.not_mem_nil, or_false] at ht; rcases ht with rfl | rfl <;> rfl), (by intro s hs; simp only [List.mem_cons, List.not_mem_nil, or_false] at hs; subst hs; first | (simp [SV.labels]; done) | exact List.not_mem_nil)⟩) (by decide) (by decide) (by decide) rfl (fun _ => rfl) ?_)
          · first | assumption | omega | (simp; omega)
          · first | assumption | omega | (simp; omega)
          · first | assumption | omega | (simp; omega)
          rintro _ _ ⟨x, a2, s2, hx, ha0, ha1, rfl, rfl⟩
          simp only [List.mem_cons, List.not_mem_nil, or_false] at hx
          refine list_cons rfl (op_q (q_assign rfl (by decide)) ?_)
          refine list_nil ?_
          refine hK18 _ ?_; clear hK18 K18
          refine codeT.imp (σ' := [(0, _), (2, _), (5, _), (11, _)]) ?_ (imp_covers ⟨rfl, rfl, rfl, rfl, trivial⟩)
          refine code_ret ?_
          refine blk_r ?_
          refine then_r ?_; clear hK2 K2
          refine ends_ret (cs := _) rfl rfl rfl rfl rfl ?_
          first
          | exact ⟨_, _, _, by omega, by omega, by omega, rfl, rfl⟩
          | (refine ⟨_, _, _, ?_, by omega, by omega, rfl, rfl⟩; have hx7 := @xor7c (digT.getD _ 0) ((p2 b.toNat : Nat) : Int) hdc ⟨by omega, by omega⟩; omega)
        · skip
          (try simp only [Decidable.not_not] at h7)
          refine code_skip ?_
          refine blk_n ?_
          refine hK2 _ ?_; clear hK2 K2
          refine code_seq (fun K19 hK19 => ?_)
          refine code_seq (fun K20 hK20 => ?_)
          refine code_region ?_
          refine list_cons rfl (op_q (q_move rfl (by decide)) ?_)
          refine list_cons rfl (op_callM (one_c code ?_ _ _ ?_ ?_ _) (.tmp 18) 2000 [0, 18] [_] _ rfl rfl (by intro y hy; cases hy; exact ⟨rfl, (by intro t ht; simp only [List.mem_cons, List.not_mem_nil, or_false] at ht; rcases ht with rfl | rfl <;> rfl), (by intro s hs; simp only [List.mem_cons, List.not_mem_nil, or_false] at hs; subst hs; first | (simp [SV.labels]; done) | exact List.not_mem_nil)⟩) (by decide) (by decide) (by decide) rfl (fun _ => rfl) ?_)
          · first | assumption | omega | (simp; omega)
          · first | assumption | omega | (simp; omega)
          · first | assumption | omega | (simp; omega)
          rintro _ _ ⟨o, a2, s2, ha0, ha1, rfl, rfl⟩
          refine list_nil ?_
          refine hK20 _ ?_; clear hK20 K20
          refine codeT.imp (σ' := [(0, _), (2, _), (5, _), (11, _), (19, _)]) ?_ (imp_covers ⟨rfl, rfl, rfl, rfl, rfl, trivial⟩)
          refine code_cond_d rfl (fun h8 => ?_) (fun h8 => ?_)
          · skip
            (try simp only [Decidable.not_not] at h8)
            refine code_seq (fun K21 hK21 => ?_)
            refine code_region ?_
            refine list_cons rfl (op_q (q_move rfl (by decide)) ?_)
            refine list_cons rfl (op_callM (pick_c code ?_ _ _ ?_ ?_ _) (.tmp 20) 2000 [0, 20] [_] _ rfl rfl (by intro y hy; cases hy; exact ⟨rfl, (by intro t ht; simp only [List.mem_cons, List.not_mem_nil, or_false] at ht; rcases ht with rfl | rfl <;> rfl), (by intro s hs; simp only [List.mem_cons, List.not_mem_nil, or_false] at hs; subst hs; first | (simp [SV.labels]; done) | exact List.not_mem_nil)⟩) (by decide) (by decide) (by decide) rfl (fun _ => rfl) ?_)
            · first | assumption | omega | (simp; omega)
            · first | assumption | omega | (simp; omega)
            · first | assumption | omega | (simp; omega)
            rintro _ _ ⟨b, a2, s2, hb0, hb1, ha0, ha1, rfl, rfl⟩
            try have hp2 := p2_64 (k := b.toNat) (by omega)
            refine list_cons rfl (op_q (q_assign rfl (by decide)) ?_)
            refine list_nil ?_
            refine hK21 _ ?_; clear hK21 K21
            refine codeT.imp (σ' := [(0, _), (2, _), (5, _), (11, _)]) ?_ (imp_covers ⟨rfl, rfl, rfl, rfl, trivial⟩)
            refine code_ret ?_
            refine then_r ?_; clear hK19 K19
            refine ends_ret (cs := _) rfl rfl rfl rfl rfl ?_
            first
            | exact ⟨_, _, _, by omega, by omega, by omega, rfl, rfl⟩
            | (refine ⟨_, _, _, ?_, by omega, by omega, rfl, rfl⟩; have hx7 := @xor7c (digT.getD _ 0) ((p2 b.toNat : Nat) : Int) hdc ⟨by omega, by omega⟩; omega)
          · skip
            (try simp only [Decidable.not_not] at h8)
            refine code_skip ?_
            refine hK19 _ ?_; clear hK19 K19
            refine code_seq (fun K22 hK22 => ?_)
            refine code_region ?_
            refine list_cons rfl (op_q (q_move rfl (by decide)) ?_)
            refine list_cons rfl (op_callM (pick_c code ?_ _ _ ?_ ?_ _) (.tmp 22) 2000 [0, 22] [_] _ rfl rfl (by intro y hy; cases hy; exact ⟨rfl, (by intro t ht; simp only [List.mem_cons, List.not_mem_nil, or_false] at ht; rcases ht with rfl | rfl <;> rfl), (by intro s hs; simp only [List.mem_cons, List.not_mem_nil, or_false] at hs; subst hs; first | (simp [SV.labels]; done) | exact List.not_mem_nil)⟩) (by decide) (by decide) (by decide) rfl (fun _ => rfl) ?_)
            · first | assumption | omega | (simp; omega)
            · first | assumption | omega | (simp; omega)
            · first | assumption | omega | (simp; omega)
            rintro _ _ ⟨b, a2, s2, hb0, hb1, ha0, ha1, rfl, rfl⟩
            try have hp2 := p2_64 (k := b.toNat) (by omega)
            refine list_cons rfl (op_call _ (spec_l2Digit _ (by omega) (by omega)) rfl rfl (by decide) (by decide) (by decide) rfl ?_)
            rintro _ rfl; have hdc := digT_cell b.toNat
            refine list_cons rfl (op_q (q_assign rfl (by decide)) ?_)
            refine list_nil ?_
            refine hK22 _ ?_; clear hK22 K22
            refine codeT.imp (σ' := [(0, _), (2, _), (3, _), (5, _), (11, _)]) ?_ (imp_covers ⟨rfl, rfl, rfl, rfl, rfl, trivial⟩)
            refine code_seq (fun K23 hK23 => ?_)
            refine code_seq (fun K24 hK24 => ?_)
            refine code_region ?_
            refine list_cons rfl (op_q (q_move rfl (by decide)) ?_)
            refine list_cons rfl (op_callM (one_c code ?_ _ _ ?_ ?_ _) (.tmp 25) 2000 [0, 25] [_] _ rfl rfl (by intro y hy; cases hy; exact ⟨rfl, (by intro t ht; simp only [List.mem_cons, List.not_mem_nil, or_false] at ht; rcases ht with rfl | rfl <;> rfl), (by intro s hs; simp only [List.mem_cons, List.not_mem_nil, or_false] at hs; subst hs; first | (simp [SV.labels]; done) | exact List.not_mem_nil)⟩) (by decide) (by decide) (by decide) rfl (fun _ => rfl) ?_)
            · first | assumption | omega | (simp; omega)
            · first | assumption | omega | (simp; omega)
            · first | assumption | omega | (simp; omega)
            rintro _ _ ⟨o, a2, s2, ha0, ha1, rfl, rfl⟩
            refine list_nil ?_
            refine hK24 _ ?_; clear hK24 K24
            refine codeT.imp (σ' := [(0, _), (2, _), (3, _), (5, _), (11, _), (26, _)]) ?_ (imp_covers ⟨rfl, rfl, rfl, rfl, rfl, rfl, trivial⟩)
            refine code_cond_d rfl (fun h9 => ?_) (fun h9 => ?_)
            · skip
              (try simp only [Decidable.not_not] at h9)
              refine code_region ?_
              refine list_cons rfl (op_q (q_move rfl (by decide)) ?_)
              refine list_cons rfl (op_q (q_move rfl (by decide)) ?_)
              refine list_cons rfl (op_callM (pick_c code ?_ _ _ ?_ ?_ _) (.tmp 28) 2000 [0, 28] [_] _ rfl rfl (by intro y hy; cases hy; exact ⟨rfl, (by intro t ht; simp only [List.mem_cons, List.not_mem_nil, or_false] at ht; rcases ht with rfl | rfl <;> rfl), (by intro s hs; simp only [List.mem_cons, List.not_mem_nil, or_false] at hs; subst hs; first | (simp [SV.labels]; done) | exact List.not_mem_nil)⟩) (by decide) (by decide) (by decide) rfl (fun _ => rfl) ?_)
              · first | assumption | omega | (simp; omega)
              · first | assumption | omega | (simp; omega)
              · first | assumption | omega | (simp; omega)
              rintro _ _ ⟨b, a2, s2, hb0, hb1, ha0, ha1, rfl, rfl⟩
              try have hp2 := p2_64 (k := b.toNat) (by omega)
              refine list_cons rfl (op_q (by first | exact q_shl1 rfl rfl (by decide) (by omega) (by omega) | exact q_shlI rfl rfl (by decide) (by omega) (by omega) (by omega) | exact q_shl rfl rfl (by omega) (by decide)) ?_)
              refine list_cons rfl (op_q (by first | exact q_xorI rfl rfl (by decide) (by omega) (by omega) (by omega) (by omega) | exact q_ib rfl rfl rfl (by decide)) ?_)
              refine list_cons rfl (op_q (q_assign rfl (by decide)) ?_)
              refine list_nil ?_
              refine hK23 _ ?_; clear hK23 K23
              refine codeT.imp (σ' := [(0, _), (2, _), (3, _), (5, _), (11, _)]) ?_ (imp_covers ⟨rfl, rfl, rfl, rfl, rfl, trivial⟩)
              refine code_seq (fun K25 hK25 => ?_)
              refine code_region ?_
              refine list_cons rfl (op_q (q_move rfl (by decide)) ?_)
              refine list_cons rfl (op_q (q_assign rfl (by decide)) ?_)
              refine list_nil ?_
              refine hK25 _ ?_; clear hK25 K25
              refine code_ret ?_
              refine ends_ret (cs := _) rfl rfl rfl rfl rfl ?_
              first
              | exact ⟨_, _, _, by omega, by omega, by omega, rfl, rfl⟩
              | (refine ⟨_, _, _, ?_, by omega, by omega, rfl, rfl⟩; have hx7 := @xor7c (digT.getD _ 0) ((p2 b.toNat : Nat) : Int) hdc ⟨by omega, by omega⟩; omega)
            · skip
              (try simp only [Decidable.not_not] at h9)
              refine code_skip ?_
              refine hK23 _ ?_; clear hK23 K23
              refine code_seq (fun K26 hK26 => ?_)
              refine code_region ?_
              refine list_cons rfl (op_q (q_move rfl (by decide)) ?_)
              refine list_cons rfl (op_q (q_assign rfl (by decide)) ?_)
              refine list_nil ?_
              refine hK26 _ ?_; clear hK26 K26
              refine code_ret ?_
              refine ends_ret (cs := _) rfl rfl rfl rfl rfl ?_
              first
              | exact ⟨_, _, _, by omega, by omega, by omega, rfl, rfl⟩
              | (refine ⟨_, _, _, ?_, by omega, by omega, rfl, rfl⟩; have hx7 := @xor7c (digT.getD _ 0) ((p2 b.toNat : Nat) : Int) hdc ⟨by omega, by omega⟩; omega)
      · skip
        (try simp only [Decidable.not_not] at h6)
        refine code_region ?_
        refine list_cons rfl (op_q (q_eq rfl rfl (by decide)) ?_)
        refine list_cons rfl (op_q (q_assign rfl (by decide)) ?_)
        refine list_nil ?_
        refine hK6 _ ?_; clear hK6 K6
        refine code_cond_d rfl (fun h10 => ?_) (fun h10 => ?_)
        · skip
          (try simp only [Decidable.not_not] at h10)
          refine code_seq (fun K27 hK27 => ?_)
          refine code_region ?_
          refine list_cons rfl (op_q (q_move rfl (by decide)) ?_)
          refine list_cons rfl (op_buildSlice sl_33 (parts := [(0, _), (1, _), (2, _)]) rfl rfl rfl (by decide) (by decide) (by decide) rfl ?_)
          refine list_cons rfl (op_callM (among_c code ?_ _ _ ?_ ?_ ([0, 127, 64]) (by decide) (by decide)) (.tmp 15) 2000 [0, 15] [.tmp 16] _ rfl rfl (by intro y hy; cases hy; exact ⟨rfl, (by intro t ht; simp only [List.mem_cons, List.not_mem_nil, or_false] at ht; rcases ht with rfl | rfl <;> rfl), (by intro s hs; simp only [List.mem_cons, List.not_mem_nil, or_false] at hs; subst hs; first | (simp [SV.labels]; done) | exact List.not_mem_nil)⟩) (by decide) (by decide) (by decide) rfl (fun _ => rfl) ?_)
          · first | assumption | omega | (simp; omega)
          · first | assumption | omega | (simp; omega)
          · first | assumption | omega | (simp; omega)
          rintro _ _ ⟨x, a2, s2, hx, ha0, ha1, rfl, rfl⟩
          simp only [List.mem_cons, List.not_mem_nil, or_false] at hx
          refine list_cons rfl (op_q (q_assign rfl (by decide)) ?_)
          refine list_nil ?_
          refine hK27 _ ?_; clear hK27 K27
          refine codeT.imp (σ' := [(0, _), (2, _), (5, _), (11, _)]) ?_ (imp_covers ⟨rfl, rfl, rfl, rfl, trivial⟩)
          refine code_ret ?_
          refine blk_r ?_
          refine then_r ?_; clear hK2 K2
          refine ends_ret (cs := _) rfl rfl rfl rfl rfl ?_
          first
          | exact ⟨_, _, _, by omega, by omega, by omega, rfl, rfl⟩
          | (refine ⟨_, _, _, ?_, by omega, by omega, rfl, rfl⟩; have hx7 := @xor7c (digT.getD _ 0) ((p2 b.toNat : Nat) : Int) hdc ⟨by omega, by omega⟩; omega)
        · skip
          (try simp only [Decidable.not_not] at h10)
          refine code_skip ?_
          refine blk_n ?_
          refine hK2 _ ?_; clear hK2 K2
          refine code_seq (fun K28 hK28 => ?_)
          refine code_seq (fun K29 hK29 => ?_)
          refine code_region ?_
          refine list_cons rfl (op_q (q_move rfl (by decide)) ?_)
          refine list_cons rfl (op_callM (one_c code ?_ _ _ ?_ ?_ _) (.tmp 18) 2000 [0, 18] [_] _ rfl rfl (by intro y hy; cases hy; exact ⟨rfl, (by intro t ht; simp only [List.mem_cons, List.not_mem_nil, or_false] at ht; rcases ht with rfl | rfl <;> rfl), (by intro s hs; simp only [List.mem_cons, List.not_mem_nil, or_false] at hs; subst hs; first | (simp [SV.labels]; done) | exact List.not_mem_nil)⟩) (by decide) (by decide) (by decide) rfl (fun _ => rfl) ?_)
          · first | assumption | omega | (simp; omega)
          · first | assumption | omega | (simp; omega)
          · first | assumption | omega | (simp; omega)
          rintro _ _ ⟨o, a2, s2, ha0, ha1, rfl, rfl⟩
          refine list_nil ?_
          refine hK29 _ ?_; clear hK29 K29
          refine codeT.imp (σ' := [(0, _), (2, _), (5, _), (11, _), (19, _)]) ?_ (imp_covers ⟨rfl, rfl, rfl, rfl, rfl, trivial⟩)
          refine code_cond_d rfl (fun h11 => ?_) (fun h11 => ?_)
          · skip
            (try simp only [Decidable.not_not] at h11)
            refine code_seq (fun K30 hK30 => ?_)
            refine code_region ?_
            refine list_cons rfl (op_q (q_move rfl (by decide)) ?_)
            refine list_cons rfl (op_callM (pick_c code ?_ _ _ ?_ ?_ _) (.tmp 20) 2000 [0, 20] [_] _ rfl rfl (by intro y hy; cases hy; exact ⟨rfl, (by intro t ht; simp only [List.mem_cons, List.not_mem_nil, or_false] at ht; rcases ht with rfl | rfl <;> rfl), (by intro s hs; simp only [List.mem_cons, List.not_mem_nil, or_false] at hs; subst hs; first | (simp [SV.labels]; done) | exact List.not_mem_nil)⟩) (by decide) (by decide) (by decide) rfl (fun _ => rfl) ?_)
            · first | assumption | omega | (simp; omega)
            · first | assumption | omega | (simp; omega)
            · first | assumption | omega | (simp; omega)
            rintro _ _ ⟨b, a2, s2, hb0, hb1, ha0, ha1, rfl, rfl⟩
            try have hp2 := p2_64 (k := b.toNat) (by omega)
            refine list_cons rfl (op_q (q_assign rfl (by decide)) ?_)
            refine list_nil ?_
            refine hK30 _ ?_; clear hK30 K30
            refine codeT.imp (σ' := [(0, _), (2, _), (5, _), (11, _)]) ?_ (imp_covers ⟨rfl, rfl, rfl, rfl, trivial⟩)
            refine code_ret ?_
            refine then_r ?_; clear hK28 K28
            refine ends_ret (cs := _) rfl rfl rfl rfl rfl ?_
            first
            | exact ⟨_, _, _, by omega, by omega, by omega, rfl, rfl⟩
            | (refine ⟨_, _, _, ?_, by omega, by omega, rfl, rfl⟩; have hx7 := @xor7c (digT.getD _ 0) ((p2 b.toNat : Nat) : Int) hdc ⟨by omega, by omega⟩; omega)
          · skip
            (try simp only [Decidable.not_not] at h11)
            refine code_skip ?_
            refine hK28 _ ?_; clear hK28 K28
            refine code_seq (fun K31 hK31 => ?_)
            refine code_region ?_
            refine list_cons rfl (op_q (q_move rfl (by decide)) ?_)
            refine list_cons rfl (op_callM (pick_c code ?_ _ _ ?_ ?_ _) (.tmp 22) 2000 [0, 22] [_] _ rfl rfl (by intro y hy; cases hy; exact ⟨rfl, (by intro t ht; simp only [List.mem_cons, List.not_mem_nil, or_false] at ht; rcases ht with rfl | rfl <;> rfl), (by intro s hs; simp only [List.mem_cons, List.not_mem_nil, or_false] at hs; subst hs; first | (simp [SV.labels]; done) | exact List.not_mem_nil)⟩) (by decide) (by decide) (by decide) rfl (fun _ => rfl) ?_)
            · first | assumption | omega | (simp; omega)
            · first | assumption | omega | (simp; omega)
            · first | assumption | omega | (simp; omega)
            rintro _ _ ⟨b, a2, s2, hb0, hb1, ha0, ha1, rfl, rfl⟩
            try have hp2 := p2_64 (k := b.toNat) (by omega)
            refine list_cons rfl (op_call _ (spec_l2Digit _ (by omega) (by omega)) rfl rfl (by decide) (by decide) (by decide) rfl ?_)
            rintro _ rfl; have hdc := digT_cell b.toNat
            refine list_cons rfl (op_q (q_assign rfl (by decide)) ?_)
            refine list_nil ?_
            refine hK31 _ ?_; clear hK31 K31
            refine codeT.imp (σ' := [(0, _), (2, _), (3, _), (5, _), (11, _)]) ?_ (imp_covers ⟨rfl, rfl, rfl, rfl, rfl, trivial⟩)
            refine code_seq (fun K32 hK32 => ?_)
            refine code_seq (fun K33 hK33 => ?_)
            refine code_region ?_
            refine list_cons rfl (op_q (q_move rfl (by decide)) ?_)
            refine list_cons rfl (op_callM (one_c code ?_ _ _ ?_ ?_ _) (.tmp 25) 2000 [0, 25] [_] _ rfl rfl (by intro y hy; cases hy; exact ⟨rfl, (by intro t ht; simp only [List.mem_cons, List.not_mem_nil, or_false] at ht; rcases ht with rfl | rfl <;> rfl), (by intro s hs; simp only [List.mem_cons, List.not_mem_nil, or_false] at hs; subst hs; first | (simp [SV.labels]; done) | exact List.not_mem_nil)⟩) (by decide) (by decide) (by decide) rfl (fun _ => rfl) ?_)
            · first | assumption | omega | (simp; omega)
            · first | assumption | omega | (simp; omega)
            · first | assumption | omega | (simp; omega)
            rintro _ _ ⟨o, a2, s2, ha0, ha1, rfl, rfl⟩
            refine list_nil ?_
            refine hK33 _ ?_; clear hK33 K33
            refine codeT.imp (σ' := [(0, _), (2, _), (3, _), (5, _), (11, _), (26, _)]) ?_ (imp_covers ⟨rfl, rfl, rfl, rfl, rfl, rfl, trivial⟩)
            refine code_cond_d rfl (fun h12 => ?_) (fun h12 => ?_)
            · skip
              (try simp only [Decidable.not_not] at h12)
              refine code_region ?_
              refine list_cons rfl (op_q (q_move rfl (by decide)) ?_)
              refine list_cons rfl (op_q (q_move rfl (by decide)) ?_)
              refine list_cons rfl (op_callM (pick_c code ?_ _ _ ?_ ?_ _) (.tmp 28) 2000 [0, 28] [_] _ rfl rfl (by intro y hy; cases hy; exact ⟨rfl, (by intro t ht; simp only [List.mem_cons, List.not_mem_nil, or_false] at ht; rcases ht with rfl | rfl <;> rfl), (by intro s hs; simp only [List.mem_cons, List.not_mem_nil, or_false] at hs; subst hs; first | (simp [SV.labels]; done) | exact List.not_mem_nil)⟩) (by decide) (by decide) (by decide) rfl (fun _ => rfl) ?_)
              · first | assumption | omega | (simp; omega)
              · first | assumption | omega | (simp; omega)
              · first | assumption | omega | (simp; omega)
              rintro _ _ ⟨b, a2, s2, hb0, hb1, ha0, ha1, rfl, rfl⟩
              try have hp2 := p2_64 (k := b.toNat) (by omega)
              refine list_cons rfl (op_q (by first | exact q_shl1 rfl rfl (by decide) (by omega) (by omega) | exact q_shlI rfl rfl (by decide) (by omega) (by omega) (by omega) | exact q_shl rfl rfl (by omega) (by decide)) ?_)
              refine list_cons rfl (op_q (by first | exact q_xorI rfl rfl (by decide) (by omega) (by omega) (by omega) (by omega) | exact q_ib rfl rfl rfl (by decide)) ?_)
              refine list_cons rfl (op_q (q_assign rfl (by decide)) ?_)
              refine list_nil ?_
              refine hK32 _ ?_; clear hK32 K32
              refine codeT.imp (σ' := [(0, _), (2, _), (3, _), (5, _), (11, _)]) ?_ (imp_covers ⟨rfl, rfl, rfl, rfl, rfl, trivial⟩)
              refine code_seq (fun K34 hK34 => ?_)
              refine code_region ?_
              refine list_cons rfl (op_q (q_move rfl (by decide)) ?_)
              refine list_cons rfl (op_q (q_assign rfl (by decide)) ?_)
              refine list_nil ?_
              refine hK34 _ ?_; clear hK34 K34
              refine code_ret ?_
              refine ends_ret (cs := _) rfl rfl rfl rfl rfl ?_
              first
              | exact ⟨_, _, _, by omega, by omega, by omega, rfl, rfl⟩
              | (refine ⟨_, _, _, ?_, by omega, by omega, rfl, rfl⟩; have hx7 := @xor7c (digT.getD _ 0) ((p2 b.toNat : Nat) : Int) hdc ⟨by omega, by omega⟩; omega)
            · skip
              (try simp only [Decidable.not_not] at h12)
              refine code_skip ?_
              refine hK32 _ ?_; clear hK32 K32
              refine code_seq (fun K35 hK35 => ?_)
              refine code_region ?_
              refine list_cons rfl (op_q (q_move rfl (by decide)) ?_)
              refine list_cons rfl (op_q (q_assign rfl (by decide)) ?_)
              refine list_nil ?_
              refine hK35 _ ?_; clear hK35 K35
              refine code_ret ?_
              refine ends_ret (cs := _) rfl rfl rfl rfl rfl ?_
              first
              | exact ⟨_, _, _, by omega, by omega, by omega, rfl, rfl⟩
              | (refine ⟨_, _, _, ?_, by omega, by omega, rfl, rfl⟩; have hx7 := @xor7c (digT.getD _ 0) ((p2 b.toNat : Nat) : Int) hdc ⟨by omega, by omega⟩; omega)

set_option maxRecDepth 4000 in
set_option maxHeartbeats 4000000 in
theorem row_c (code : List UInt8) (hcode : code.length ≤ 9223372036854775807) (a s : Int) (ha : 0 ≤ a) (ha2 : a ≤ 4611686018427300000) : MCalls Try.prog 39 false (some (.box 49 [.sl code.length (bytesP code), .int .i64 a, .int .u64 s])) [] fun rs cs => ∃ (l : List Int) (a2 s2 : Int), (l.length ≤ 7 ∧ ∀ x ∈ l, -1 ≤ x ∧ x ≤ 4611686018427387904) ∧ a ≤ a2 ∧ a2 ≤ a + 300 ∧ rs = [.own 0 3 1 l.length (l.map (.int .i64))] ∧ cs = [.sl code.length (bytesP code), .int .i64 a2, .int .u64 s2] := by
  refine mcalls_of_code (n := 22) az Try.func39 (by kernel_rfl) rfl rfl (Nat.le_of_ble_eq_true rfl) (by intro t u h; simp [Try.f39] at h) ?_
  refine code_seq (fun K1 hK1 => ?_)
  refine code_region ?_
  refine list_cons rfl (op_q (q_assign rfl (by decide)) ?_)
  refine list_nil ?_
  refine hK1 _ ?_; clear hK1 K1
  refine code_seq (fun K2 hK2 => ?_)
  refine code_region ?_
  refine list_cons rfl (op_buildSlice sl_33 (parts := []) rfl rfl rfl (by decide) (by decide) (by decide) rfl ?_)
  refine list_cons rfl (op_q (q_assign rfl (by decide)) ?_)
  refine list_nil ?_
  refine hK2 _ ?_; clear hK2 K2
  refine code_seq (fun K3 hK3 => ?_)
  refine code_seq (fun K4 hK4 => ?_)
  refine code_region ?_
  refine list_cons rfl (op_q (q_move rfl (by decide)) ?_)
  refine list_cons rfl (op_buildSlice sl_33 (parts := [(0, _), (1, _), (2, _), (3, _), (4, _), (5, _), (6, _), (7, _), (8, _)]) rfl rfl rfl (by decide) (by decide) (by decide) rfl ?_)
  refine list_cons rfl (op_callM (among_c code ?_ _ _ ?_ ?_ ([2, 3, 1, 4, 6, 0, 5, 2, 3]) (by decide) (by decide)) (.tmp 6) 2000 [0, 6] [.tmp 7] _ rfl rfl (by intro y hy; cases hy; exact ⟨rfl, (by intro t ht; simp only [List.mem_cons, List.not_mem_nil, or_false] at ht; rcases ht with rfl | rfl <;> rfl), (by intro s hs; simp only [List.mem_cons, List.not_mem_nil, or_false] at hs; subst hs; first | (simp [SV.labels]; done) | exact List.not_mem_nil)⟩) (by decide) (by decide) (by decide) rfl (fun _ => rfl) ?_)
  · first | assumption | omega | (simp; omega)
  · first | assumption | omega | (simp; omega)
  · first | assumption | omega | (simp; omega)
  rintro _ _ ⟨n0, a2, s2, hx, ha0, ha1, rfl, rfl⟩
  simp only [List.mem_cons, List.not_mem_nil, or_false] at hx
  refine list_cons rfl (op_q (q_assign rfl (by decide)) ?_)
  refine list_nil ?_
  refine hK4 _ ?_; clear hK4 K4
  refine codeT.imp (σ' := [(0, _), (2, _), (3, _), (4, _)]) ?_ (imp_covers ⟨rfl, rfl, rfl, rfl, trivial⟩)
  refine code_block ?_
  refine code_loop (X := List PV × PV × Nat × List PV × Int) (fun x => [(0, .box 2000 49 x.1), (2, .val x.2.1), (3, .own 5 3 1 x.2.2.1 x.2.2.2.1), (4, .val (.int .i64 x.2.2.2.2))]) (fun x => x.2.2.2.2 ≤ 6 ∧ ∃ (a1 s1 : Int) (l : List Int), x.1 = [.sl code.length (bytesP code), .int .i64 a1, .int .u64 s1] ∧ x.2.2.1 = l.length ∧ x.2.2.2.1 = l.map (.int .i64) ∧ a ≤ a1 ∧ a1 ≤ a + 10 + 20 * l.length ∧ (l.length : Int) + max x.2.2.2.2 0 ≤ 6 ∧ ∀ x ∈ l, -1 ≤ x ∧ x ≤ 4611686018427387904) (fun x => x.2.2.2.2.toNat) (_, _, _, _, _) (imp_covers ⟨rfl, rfl, rfl, rfl, trivial⟩) ?_ ?_
  · (try dsimp only)
    exact ⟨by omega, _, _, [], rfl, rfl, rfl, by omega, by simp only [List.length_nil]; omega, by simp only [List.length_nil]; omega, fun _ h => by simp at h⟩
  · intro x hI
    obtain ⟨c_c, t2_p, out_n, out_c, n⟩ := x
    replace hI : n ≤ 6 ∧ ∃ (a1 s1 : Int) (l : List Int), c_c = [.sl code.length (bytesP code), .int .i64 a1, .int .u64 s1] ∧ out_n = l.length ∧ out_c = l.map (.int .i64) ∧ a ≤ a1 ∧ a1 ≤ a + 10 + 20 * l.length ∧ (l.length : Int) + max n 0 ≤ 6 ∧ ∀ x ∈ l, -1 ≤ x ∧ x ≤ 4611686018427387904 := hI
    show codeT _ _ _ [(0, .box 2000 49 c_c), (2, .val t2_p), (3, .own 5 3 1 out_n out_c), (4, .val (.int .i64 n))] _
    obtain ⟨i0, a1, s1, l, rfl, rfl, rfl, i1, i2, i3, i4⟩ := hI
    refine code_seq (fun K5 hK5 => ?_)
    refine code_seq (fun K6 hK6 => ?_)
    refine code_region ?_
    refine list_cons rfl (op_q (q_move rfl (by decide)) ?_)
    refine list_cons rfl (op_q (q_gt rfl rfl (by decide)) ?_)
    refine list_nil ?_
    refine hK6 _ ?_; clear hK6 K6
    refine code_cond_d rfl (fun h1 => ?_) (fun h1 => ?_)
    · skip
      (try simp only [Decidable.not_not] at h1)
      refine code_skip ?_
      refine hK5 _ ?_; clear hK5 K5
      refine code_seq (fun K7 hK7 => ?_)
      refine code_block ?_
      refine code_region ?_
      refine list_cons rfl (op_q (q_move rfl (by decide)) ?_)
      refine list_cons rfl (op_q (q_move rfl (by decide)) ?_)
      refine list_cons rfl (op_callM (cell_c code ?_ _ _ ?_ ?_) (.tmp 14) 2000 [0, 14] [] _ rfl rfl (by intro y hy; cases hy; exact ⟨rfl, (by intro t ht; simp only [List.mem_cons, List.not_mem_nil, or_false] at ht; rcases ht with rfl | rfl <;> rfl), (by intro s hs; simp only [List.mem_cons, List.not_mem_nil, or_false] at hs; (try cases hs))⟩) (by decide) (by decide) (by decide) rfl (fun _ => rfl) ?_)
      · first | assumption | omega | (simp; omega)
      · first | assumption | omega | (simp; omega)
      · first | assumption | omega | (simp; omega)
      rintro _ _ ⟨x, a2, s2, hx, ha0, ha1, rfl, rfl⟩
      refine list_cons rfl (op_buildSlice sl_33 (parts := [(0, .tmp 15)]) rfl rfl rfl (by decide) (by decide) (by decide) rfl ?_)
      refine list_cons rfl (op_append_gen sl_33 (l := 5) (.inl rfl) rfl rfl (l2 := none) (.inl ⟨rfl, (by first | rfl | exact flat_map _ (fun _ => rfl) _)⟩) (by first | rfl | simp | omega) (by omega) (by decide) (by decide) (by decide) ?_)
      refine list_cons rfl (op_q (q_assign rfl (by decide)) ?_)
      refine list_nil ?_
      refine blk_n ?_
      refine hK7 _ ?_; clear hK7 K7
      refine codeT.imp (σ' := [(0, _), (2, _), (3, _), (4, _)]) ?_ (imp_covers ⟨rfl, rfl, rfl, rfl, trivial⟩)
      refine code_region ?_
      refine list_cons rfl (op_q (q_move rfl (by decide)) ?_)
      refine list_cons rfl (op_q (by first | exact q_subI rfl rfl (by decide) (by omega) (by omega) | exact q_ib rfl rfl rfl (by decide)) ?_)
      refine list_cons rfl (op_q (q_assign rfl (by decide)) ?_)
      refine list_nil ?_
      refine then_n ⟨(_, _, _, _, _), imp_covers ⟨rfl, rfl, rfl, rfl, trivial⟩, ?_, ?_⟩
      · (try dsimp only)
        refine ⟨by omega, _, _, l ++ [x], rfl, by simp, by simp; rfl, by omega, by simp only [List.length_append, List.length_cons, List.length_nil]; omega, by simp only [List.length_append, List.length_cons, List.length_nil]; omega, fun y hy => ?_⟩
        rcases List.mem_append.1 hy with hy | hy
        · exact i4 y hy
        · simp only [List.mem_singleton] at hy; subst hy; omega
      · (try dsimp only); omega
    · skip
      (try simp only [Decidable.not_not] at h1)
      refine code_exit ?_
      refine then_x ?_; clear hK5 K5
      refine then_x ?_
      refine blk_hit ?_
      refine hK3 _ ?_; clear hK3 K3
      refine code_seq (fun K8 hK8 => ?_)
      refine code_seq (fun K9 hK9 => ?_)
      refine code_region ?_
      refine list_cons rfl (op_q (q_move rfl (by decide)) ?_)
      refine list_cons rfl (op_callM (one_c code ?_ _ _ ?_ ?_ _) (.tmp 18) 2000 [0, 18] [_] _ rfl rfl (by intro y hy; cases hy; exact ⟨rfl, (by intro t ht; simp only [List.mem_cons, List.not_mem_nil, or_false] at ht; rcases ht with rfl | rfl <;> rfl), (by intro s hs; simp only [List.mem_cons, List.not_mem_nil, or_false] at hs; subst hs; first | (simp [SV.labels]; done) | exact List.not_mem_nil)⟩) (by decide) (by decide) (by decide) rfl (fun _ => rfl) ?_)
      · first | assumption | omega | (simp; omega)
      · first | assumption | omega | (simp; omega)
      · first | assumption | omega | (simp; omega)
      rintro _ _ ⟨o, a2, s2, ha0, ha1, rfl, rfl⟩
      refine list_nil ?_
      refine hK9 _ ?_; clear hK9 K9
      refine codeT.imp (σ' := [(0, _), (2, _), (3, _), (4, _), (19, _)]) ?_ (imp_covers ⟨rfl, rfl, rfl, rfl, rfl, trivial⟩)
      refine code_cond_d rfl (fun h2 => ?_) (fun h2 => ?_)
      · skip
        (try simp only [Decidable.not_not] at h2)
        refine code_seq (fun K10 hK10 => ?_)
        refine code_region ?_
        refine list_cons rfl (op_buildSlice sl_33 (parts := [(0, _), (1, _), (2, _), (3, _), (4, _), (5, _), (6, _)]) rfl rfl rfl (by decide) (by decide) (by decide) rfl ?_)
        refine list_cons rfl (op_q (q_assign rfl (by decide)) ?_)
        refine list_nil ?_
        refine hK10 _ ?_; clear hK10 K10
        refine code_ret ?_
        refine then_r ?_; clear hK8 K8
        refine ends_ret (cs := _) rfl rfl rfl rfl rfl ?_
        exact ⟨[6, 6, 6, 6, 6, 6, 6], _, _, ⟨by decide, by decide⟩, by omega, by omega, rfl, rfl⟩
      · skip
        (try simp only [Decidable.not_not] at h2)
        refine code_skip ?_
        refine hK8 _ ?_; clear hK8 K8
        refine code_seq (fun K11 hK11 => ?_)
        refine code_region ?_
        refine list_cons rfl (op_q (q_move rfl (by decide)) ?_)
        refine list_cons rfl (op_q (q_assign rfl (by decide)) ?_)
        refine list_nil ?_
        refine hK11 _ ?_; clear hK11 K11
        refine code_ret ?_
        refine ends_ret (cs := _) rfl rfl rfl rfl rfl ?_
        exact ⟨l, _, _, ⟨by omega, i4⟩, by omega, by omega, rfl, rfl⟩

set_option maxRecDepth 4000 in
set_option maxHeartbeats 4000000 in
theorem digits_c (code : List UInt8) (hcode : code.length ≤ 9223372036854775807) (a s : Int) (ha : 0 ≤ a) (ha2 : a ≤ 4611686018427200000) : MCalls Try.prog 28 false (some (.box 49 [.sl code.length (bytesP code), .int .i64 a, .int .u64 s])) [] fun rs cs => ∃ (l : List Int) (a2 s2 : Int), (l.length ≤ 7 ∧ ∀ x ∈ l, -1 ≤ x ∧ x ≤ 4611686018427387904) ∧ a ≤ a2 ∧ a2 ≤ a + 400 ∧ rs = [.own 0 3 1 l.length (l.map (.int .i64))] ∧ cs = [.sl code.length (bytesP code), .int .i64 a2, .int .u64 s2] := by
  refine mcalls_of_code (n := 25) az Try.func28 (by kernel_rfl) rfl rfl (Nat.le_of_ble_eq_true rfl) (by intro t u h; simp [Try.f28] at h) ?_
  refine code_seq (fun K1 hK1 => ?_)
  refine code_region ?_
  refine list_cons rfl (op_q (q_assign rfl (by decide)) ?_)
  refine list_nil ?_
  refine hK1 _ ?_; clear hK1 K1
  refine code_seq (fun K2 hK2 => ?_)
  refine code_seq (fun K3 hK3 => ?_)
  refine code_region ?_
  refine list_cons rfl (op_q (q_move rfl (by decide)) ?_)
  refine list_cons rfl (op_callM (one_c code ?_ _ _ ?_ ?_ _) (.tmp 5) 2000 [0, 5] [_] _ rfl rfl (by intro y hy; cases hy; exact ⟨rfl, (by intro t ht; simp only [List.mem_cons, List.not_mem_nil, or_false] at ht; rcases ht with rfl | rfl <;> rfl), (by intro s hs; simp only [List.mem_cons, List.not_mem_nil, or_false] at hs; subst hs; first | (simp [SV.labels]; done) | exact List.not_mem_nil)⟩) (by decide) (by decide) (by decide) rfl (fun _ => rfl) ?_)
  · first | assumption | omega | (simp; omega)
  · first | assumption | omega | (simp; omega)
  · first | assumption | omega | (simp; omega)
  rintro _ _ ⟨o, a2, s2, ha0, ha1, rfl, rfl⟩
  refine list_nil ?_
  refine hK3 _ ?_; clear hK3 K3
  refine codeT.imp (σ' := [(0, _), (2, _), (6, _)]) ?_ (imp_covers ⟨rfl, rfl, rfl, trivial⟩)
  refine code_cond_d rfl (fun h1 => ?_) (fun h1 => ?_)
  · skip
    (try simp only [Decidable.not_not] at h1)
    refine code_seq (fun K4 hK4 => ?_)
    refine code_region ?_
    refine list_cons rfl (op_q (q_move rfl (by decide)) ?_)
    refine list_cons rfl (op_callM (row_c code ?_ _ _ ?_ ?_) (.tmp 7) 2000 [0, 7] [] _ rfl rfl (by intro y hy; cases hy; exact ⟨rfl, (by intro t ht; simp only [List.mem_cons, List.not_mem_nil, or_false] at ht; rcases ht with rfl | rfl <;> rfl), (by intro s hs; simp only [List.mem_cons, List.not_mem_nil, or_false] at hs; (try cases hs))⟩) (by decide) (by decide) (by decide) rfl (fun _ => rfl) ?_)
    · first | assumption | omega | (simp; omega)
    · first | assumption | omega | (simp; omega)
    · first | assumption | omega | (simp; omega)
    rintro _ _ ⟨l, a2, s2, ⟨hl1, hl2⟩, ha0, ha1, rfl, rfl⟩
    refine list_cons rfl (op_q (q_assign rfl (by decide)) ?_)
    refine list_nil ?_
    refine hK4 _ ?_; clear hK4 K4
    refine codeT.imp (σ' := [(0, _), (2, _)]) ?_ (imp_covers ⟨rfl, rfl, trivial⟩)
    refine code_ret ?_
    refine then_r ?_; clear hK2 K2
    refine ends_ret (cs := _) rfl rfl rfl rfl rfl ?_
    exact ⟨l, _, _, ⟨by omega, hl2⟩, by omega, by omega, rfl, rfl⟩
  · skip
    (try simp only [Decidable.not_not] at h1)
    refine code_skip ?_
    refine hK2 _ ?_; clear hK2 K2
    refine code_seq (fun K5 hK5 => ?_)
    refine code_region ?_
    refine list_cons rfl (op_buildSlice sl_33 (parts := []) rfl rfl rfl (by decide) (by decide) (by decide) rfl ?_)
    refine list_cons rfl (op_q (q_assign rfl (by decide)) ?_)
    refine list_nil ?_
    refine hK5 _ ?_; clear hK5 K5
    refine code_seq (fun K6 hK6 => ?_)
    refine code_seq (fun K7 hK7 => ?_)
    refine code_region ?_
    refine list_cons rfl (op_q (q_move rfl (by decide)) ?_)
    refine list_cons rfl (op_buildSlice sl_33 (parts := [(0, _), (1, _), (2, _), (3, _), (4, _)]) rfl rfl rfl (by decide) (by decide) (by decide) rfl ?_)
    refine list_cons rfl (op_callM (among_c code ?_ _ _ ?_ ?_ ([2, 3, 1, 4, 6]) (by decide) (by decide)) (.tmp 10) 2000 [0, 10] [.tmp 11] _ rfl rfl (by intro y hy; cases hy; exact ⟨rfl, (by intro t ht; simp only [List.mem_cons, List.not_mem_nil, or_false] at ht; rcases ht with rfl | rfl <;> rfl), (by intro s hs; simp only [List.mem_cons, List.not_mem_nil, or_false] at hs; subst hs; first | (simp [SV.labels]; done) | exact List.not_mem_nil)⟩) (by decide) (by decide) (by decide) rfl (fun _ => rfl) ?_)
    · first | assumption | omega | (simp; omega)
    · first | assumption | omega | (simp; omega)
    · first | assumption | omega | (simp; omega)
    rintro _ _ ⟨n0, a2, s2, hx, ha0, ha1, rfl, rfl⟩
    simp only [List.mem_cons, List.not_mem_nil, or_false] at hx
    refine list_cons rfl (op_q (q_assign rfl (by decide)) ?_)
    refine list_nil ?_
    refine hK7 _ ?_; clear hK7 K7
    refine codeT.imp (σ' := [(0, _), (2, _), (3, _), (4, _)]) ?_ (imp_covers ⟨rfl, rfl, rfl, rfl, trivial⟩)
    refine code_block ?_
    refine code_loop (X := List PV × PV × Nat × List PV × Int) (fun x => [(0, .box 2000 49 x.1), (2, .val x.2.1), (3, .own 9 3 1 x.2.2.1 x.2.2.2.1), (4, .val (.int .i64 x.2.2.2.2))]) (fun x => x.2.2.2.2 ≤ 6 ∧ ∃ (a1 s1 : Int) (l : List Int), x.1 = [.sl code.length (bytesP code), .int .i64 a1, .int .u64 s1] ∧ x.2.2.1 = l.length ∧ x.2.2.2.1 = l.map (.int .i64) ∧ a ≤ a1 ∧ a1 ≤ a + 10 + 20 * l.length ∧ (l.length : Int) + max x.2.2.2.2 0 ≤ 6 ∧ ∀ x ∈ l, -1 ≤ x ∧ x ≤ 4611686018427387904) (fun x => x.2.2.2.2.toNat) (_, _, _, _, _) (imp_covers ⟨rfl, rfl, rfl, rfl, trivial⟩) ?_ ?_
    · (try dsimp only)
      exact ⟨by omega, _, _, [], rfl, rfl, rfl, by omega, by simp only [List.length_nil]; omega, by simp only [List.length_nil]; omega, fun _ h => by simp at h⟩
    · intro x hI
      obtain ⟨c_c, t2_p, out_n, out_c, n⟩ := x
      replace hI : n ≤ 6 ∧ ∃ (a1 s1 : Int) (l : List Int), c_c = [.sl code.length (bytesP code), .int .i64 a1, .int .u64 s1] ∧ out_n = l.length ∧ out_c = l.map (.int .i64) ∧ a ≤ a1 ∧ a1 ≤ a + 10 + 20 * l.length ∧ (l.length : Int) + max n 0 ≤ 6 ∧ ∀ x ∈ l, -1 ≤ x ∧ x ≤ 4611686018427387904 := hI
      show codeT _ _ _ [(0, .box 2000 49 c_c), (2, .val t2_p), (3, .own 9 3 1 out_n out_c), (4, .val (.int .i64 n))] _
      obtain ⟨i0, a1, s1, l, rfl, rfl, rfl, i1, i2, i3, i4⟩ := hI
      refine code_seq (fun K8 hK8 => ?_)
      refine code_seq (fun K9 hK9 => ?_)
      refine code_region ?_
      refine list_cons rfl (op_q (q_move rfl (by decide)) ?_)
      refine list_cons rfl (op_q (q_gt rfl rfl (by decide)) ?_)
      refine list_nil ?_
      refine hK9 _ ?_; clear hK9 K9
      refine code_cond_d rfl (fun h2 => ?_) (fun h2 => ?_)
      · skip
        (try simp only [Decidable.not_not] at h2)
        refine code_skip ?_
        refine hK8 _ ?_; clear hK8 K8
        refine code_seq (fun K10 hK10 => ?_)
        refine code_block ?_
        refine code_region ?_
        refine list_cons rfl (op_q (q_move rfl (by decide)) ?_)
        refine list_cons rfl (op_q (q_move rfl (by decide)) ?_)
        refine list_cons rfl (op_buildSlice sl_33 (parts := [(0, _), (1, _), (2, _), (3, _), (4, _), (5, _), (6, _), (7, _), (8, _), (9, _)]) rfl rfl rfl (by decide) (by decide) (by decide) rfl ?_)
        refine list_cons rfl (op_callM (among_c code ?_ _ _ ?_ ?_ ([0, 1, 2, 5, 6, 8, 9, 3, 4, 7]) (by decide) (by decide)) (.tmp 18) 2000 [0, 18] [.tmp 19] _ rfl rfl (by intro y hy; cases hy; exact ⟨rfl, (by intro t ht; simp only [List.mem_cons, List.not_mem_nil, or_false] at ht; rcases ht with rfl | rfl <;> rfl), (by intro s hs; simp only [List.mem_cons, List.not_mem_nil, or_false] at hs; subst hs; first | (simp [SV.labels]; done) | exact List.not_mem_nil)⟩) (by decide) (by decide) (by decide) rfl (fun _ => rfl) ?_)
        · first | assumption | omega | (simp; omega)
        · first | assumption | omega | (simp; omega)
        · first | assumption | omega | (simp; omega)
        rintro _ _ ⟨x, a2, s2, hx, ha0, ha1, rfl, rfl⟩
        simp only [List.mem_cons, List.not_mem_nil, or_false] at hx
        refine list_cons rfl (op_call _ (spec_l2Digit _ (by omega) (by omega)) rfl rfl (by decide) (by decide) (by decide) rfl ?_)
        rintro _ rfl; have hdc := digT_cell x.toNat
        refine list_cons rfl (op_buildSlice sl_33 (parts := [(0, .tmp 21)]) rfl rfl rfl (by decide) (by decide) (by decide) rfl ?_)
        refine list_cons rfl (op_append_gen sl_33 (l := 9) (.inl rfl) rfl rfl (l2 := none) (.inl ⟨rfl, (by first | rfl | exact flat_map _ (fun _ => rfl) _)⟩) (by first | rfl | simp | omega) (by omega) (by decide) (by decide) (by decide) ?_)
        refine list_cons rfl (op_q (q_assign rfl (by decide)) ?_)
        refine list_nil ?_
        refine blk_n ?_
        refine hK10 _ ?_; clear hK10 K10
        refine codeT.imp (σ' := [(0, _), (2, _), (3, _), (4, _)]) ?_ (imp_covers ⟨rfl, rfl, rfl, rfl, trivial⟩)
        refine code_region ?_
        refine list_cons rfl (op_q (q_move rfl (by decide)) ?_)
        refine list_cons rfl (op_q (by first | exact q_subI rfl rfl (by decide) (by omega) (by omega) | exact q_ib rfl rfl rfl (by decide)) ?_)
        refine list_cons rfl (op_q (q_assign rfl (by decide)) ?_)
        refine list_nil ?_
        refine then_n ⟨(_, _, _, _, _), imp_covers ⟨rfl, rfl, rfl, rfl, trivial⟩, ?_, ?_⟩
        · (try dsimp only)
          refine ⟨by omega, _, _, l ++ [digT.getD x.toNat 0], rfl, by simp, by simp; rfl, by omega, by simp only [List.length_append, List.length_cons, List.length_nil]; omega, by simp only [List.length_append, List.length_cons, List.length_nil]; omega, fun y hy => ?_⟩
          rcases List.mem_append.1 hy with hy | hy
          · exact i4 y hy
          · simp only [List.mem_singleton] at hy; subst hy; omega
        · (try dsimp only); omega
      · skip
        (try simp only [Decidable.not_not] at h2)
        refine code_exit ?_
        refine then_x ?_; clear hK8 K8
        refine then_x ?_
        refine blk_hit ?_
        refine hK6 _ ?_; clear hK6 K6
        refine code_seq (fun K11 hK11 => ?_)
        refine code_region ?_
        refine list_cons rfl (op_q (q_move rfl (by decide)) ?_)
        refine list_cons rfl (op_q (q_assign rfl (by decide)) ?_)
        refine list_nil ?_
        refine hK11 _ ?_; clear hK11 K11
        refine code_ret ?_
        refine ends_ret (cs := _) rfl rfl rfl rfl rfl ?_
        exact ⟨l, _, _, ⟨by omega, i4⟩, by omega, by omega, rfl, rfl⟩

end Go.Proofs.Ythgiialammjcbaa
