/- Contracts of functions, walked over the pure layer; each says for which arguments. -/
import Derived.Test.YtgpgjaebhfhjoaaDoore1Ty
import Derived.Test.YtgpgjaebhfhjoaaDoorTf
namespace Go.Proofs.YtgpgjaebhfhjoaaDoor
open Go.RowKit e1Ty
set_option linter.unusedVariables false
set_option linter.unusedSimpArgs false

theorem list_eq_ofI {α : Type} (d : α) (a b : List α) (h : a.length = b.length) (k : ∀ j, j < a.length → a.getD j d = b.getD j d) : a = b := by
  apply List.ext_getElem h
  intro j h1 h2
  have := k j h1
  simpa [h1, h2] using this
theorem take_snocI {α : Type} (d : α) (l : List α) (k : Nat) (h : k < l.length) : l.take (k + 1) = l.take k ++ [l.getD k d] := by
  rw [List.take_succ_eq_append_getElem h]; simp [h]
theorem fill_mapI {α : Type} (f : α → PV) (d : α) (a : List α) {k : Nat} (h : k < a.length) : putAt ((a.take k ++ List.replicate (a.length - k) d).map f) (k * 1) [f (a.getD k d)] = (a.take (k + 1) ++ List.replicate (a.length - (k + 1)) d).map f := by
  rw [put_map1 f _ (by simp; omega), take_snocI d a k h, List.set_append_right _ _ (by simp; omega), show k - (a.take k).length = 0 by simp; omega, show a.length - k = a.length - (k + 1) + 1 by omega, List.replicate_succ, List.set_cons_zero]
  simp
theorem list_ne_ofI {α : Type} (d : α) {a b : List α} (j : Nat) (k : a.getD j d ≠ b.getD j d) : a ≠ b := fun h => k (by rw [h])
def markI (n : Nat) (k : Int) : List Int := (List.range n).map fun (j : Nat) => k + j
theorem markI_len (n : Nat) (k : Int) : (markI n k).length = n := by simp [markI]
theorem markI_get (n : Nat) (k : Int) {j : Nat} (h : j < n) : (markI n k).getD j 0 = k + j := by
  simp [markI, h]
theorem markI_fill (l : List Int) (k : Int) {j : Nat} (h : j < l.length) : putAt ((markI j k ++ l.drop j).map (.int .i64)) (j * 1) [PV.int .i64 (k + j)] = (markI (j + 1) k ++ l.drop (j + 1)).map (.int .i64) := by
  rw [put_map1 (PV.int .i64) _ (by simp [markI]; omega), List.set_append_right _ _ (by simp [markI]), show j - (markI j k).length = 0 by simp [markI], List.drop_eq_getElem_cons h, List.set_cons_zero]
  simp [markI, List.range_succ]

set_option maxRecDepth 4000 in
theorem eqIntS_c (a b : List Int) (ha : a.length ≤ 4611686018427387904) : PCalls Tryd.prog 23 [.sl a.length (a.map (.int .i64)), .sl b.length (b.map (.int .i64))] (· = [.val (.bool (decide (a = b)))]) := by
  refine pcalls_of_code (n := 26) az Tryd.func23 (by kernel_rfl) rfl rfl (Nat.le_of_ble_eq_true rfl) (by intro t u h; simp [Tryd.f23] at h) ?_
  refine code_seq (fun K1 hK1 => ?_)
  refine code_region ?_
  refine list_cons rfl (op_q (q_assign rfl (by decide)) ?_)
  refine list_nil ?_
  refine hK1 _ ?_; clear hK1 K1
  refine code_seq (fun K2 hK2 => ?_)
  refine code_seq (fun K3 hK3 => ?_)
  refine code_region ?_
  refine list_cons rfl (op_q (q_move rfl (by decide)) ?_)
  refine list_cons rfl (op_q (q_len_sl Tryd.underlying28 rfl rfl (by decide)) ?_)
  refine list_cons rfl (op_q (q_move rfl (by decide)) ?_)
  refine list_cons rfl (op_q (q_len_sl Tryd.underlying28 rfl rfl (by decide)) ?_)
  refine list_cons rfl (op_q (q_ne rfl rfl (by decide)) ?_)
  refine list_nil ?_
  refine hK3 _ ?_; clear hK3 K3
  refine code_cond_d rfl (fun h1 => ?_) (fun h1 => ?_)
  · skip
    (try simp only [Decidable.not_not] at h1)
    refine code_seq (fun K4 hK4 => ?_)
    refine code_region ?_
    refine list_cons rfl (op_q (q_assign rfl (by decide)) ?_)
    refine list_nil ?_
    refine hK4 _ ?_; clear hK4 K4
    refine code_ret ?_
    refine then_r ?_; clear hK2 K2
    refine ends_ret (cs := []) rfl rfl rfl rfl trivial ?_
    rw [decide_eq_false (fun e => h1 (by rw [e]))]
  (try simp only [Decidable.not_not] at h1)
  refine code_skip ?_
  refine hK2 _ ?_; clear hK2 K2
  refine code_seq (fun K5 hK5 => ?_)
  refine code_seq (fun K6 hK6 => ?_)
  refine code_region ?_
  refine list_cons rfl (op_q (q_assign rfl (by decide)) ?_)
  refine list_nil ?_
  refine hK6 _ ?_; clear hK6 K6
  refine code_block ?_
  refine code_loop (X := Bool × Int) (fun x => [(0, .par 0 (.sl a.length (a.map (.int .i64)))), (1, .par 1 (.sl b.length (b.map (.int .i64)))), (4, .val (.bool x.1)), (5, .val (.int .i64 x.2))]) (fun x => 0 ≤ x.2 ∧ x.2 ≤ a.length ∧ ∀ j, j < x.2.toNat → a.getD j 0 = b.getD j 0) (fun x => a.length - x.2.toNat) (_, _) (imp_covers ⟨rfl, rfl, rfl, rfl, trivial⟩) ?_ ?_
  · (try dsimp only)
    refine ⟨by omega, by omega, fun j hj => by simp at hj⟩
  · intro x hI
    obtain ⟨t4, i⟩ := x
    replace hI : 0 ≤ i ∧ i ≤ a.length ∧ ∀ j, j < i.toNat → a.getD j 0 = b.getD j 0 := hI
    show codeT _ _ _ [(0, .par 0 (.sl a.length (a.map (.int .i64)))), (1, .par 1 (.sl b.length (b.map (.int .i64)))), (4, .val (.bool t4)), (5, .val (.int .i64 i))] _
    obtain ⟨i1, i2, i3⟩ := hI
    refine code_seq (fun K7 hK7 => ?_)
    refine code_seq (fun K8 hK8 => ?_)
    refine code_region ?_
    refine list_cons rfl (op_q (q_move rfl (by decide)) ?_)
    refine list_cons rfl (op_q (q_move rfl (by decide)) ?_)
    refine list_cons rfl (op_q (q_len_sl Tryd.underlying28 rfl rfl (by decide)) ?_)
    refine list_cons rfl (op_q (q_lt rfl rfl (by decide)) ?_)
    refine list_nil ?_
    refine hK8 _ ?_; clear hK8 K8
    refine code_cond_d rfl (fun h2 => ?_) (fun h2 => ?_)
    · skip
      (try simp only [Decidable.not_not] at h2)
      refine code_skip ?_
      refine hK7 _ ?_; clear hK7 K7
      refine code_seq (fun K9 hK9 => ?_)
      refine code_block ?_
      refine code_seq (fun K10 hK10 => ?_)
      refine code_draw (by kernel_rfl) (by kernel_rfl) ?_
      refine draw_q rfl (q_move rfl (by decide)) ?_
      refine draw_q rfl (q_move rfl (by decide)) ?_
      refine draw_q rfl (q_indexAddr_rd sl_28 rfl (.inl ⟨_, rfl, rfl⟩) rfl (by omega) (by omega) (by decide)) ?_
      refine draw_q rfl (q_load_rd one_3 rfl (.inl ⟨_, (by first | rfl | exact congrArg (SV.rpar _) (drop_map1 _ 0 _ (by first | omega | (simp; omega)))), rfl⟩) (by decide)) ?_
      refine draw_q rfl (q_move rfl (by decide)) ?_
      refine draw_q rfl (q_move rfl (by decide)) ?_
      refine draw_q rfl (q_indexAddr_rd sl_28 rfl (.inl ⟨_, rfl, rfl⟩) rfl (by omega) (by omega) (by decide)) ?_
      refine draw_q rfl (q_load_rd one_3 rfl (.inl ⟨_, (by first | rfl | exact congrArg (SV.rpar _) (drop_map1 _ 0 _ (by first | omega | (simp; omega)))), rfl⟩) (by decide)) ?_
      refine draw_q rfl (q_ne rfl rfl (by decide)) ?_
      refine draw_nil ?_
      refine hK10 _ ?_; clear hK10 K10
      refine codeT.imp (σ' := [(0, _), (1, _), (4, _), (5, _), (25, _)]) ?_ (imp_covers ⟨rfl, rfl, rfl, rfl, rfl, trivial⟩)
      refine code_cond_d rfl (fun h3 => ?_) (fun h3 => ?_)
      · skip
        (try simp only [Decidable.not_not] at h3)
        refine code_seq (fun K11 hK11 => ?_)
        refine code_region ?_
        refine list_cons rfl (op_q (q_assign rfl (by decide)) ?_)
        refine list_nil ?_
        refine hK11 _ ?_; clear hK11 K11
        refine code_ret ?_
        refine blk_r ?_
        refine then_r ?_; clear hK9 K9
        refine then_r ?_
        refine blk_r ?_
        refine then_r ?_; clear hK5 K5
        refine ends_ret (cs := []) rfl rfl rfl rfl trivial ?_
        rw [decide_eq_false (list_ne_ofI 0 _ h3)]
      (try simp only [Decidable.not_not] at h3)
      refine code_skip ?_
      refine blk_n ?_
      refine hK9 _ ?_; clear hK9 K9
      refine code_region ?_
      refine list_cons rfl (op_q (q_move rfl (by decide)) ?_)
      refine list_cons rfl (op_q (by first | exact q_addI rfl rfl (by decide) (by omega) (by omega) | exact q_ib rfl rfl rfl (by decide)) ?_)
      refine list_cons rfl (op_q (q_assign rfl (by decide)) ?_)
      refine list_nil ?_
      refine then_n ⟨(_, _), imp_covers ⟨rfl, rfl, rfl, rfl, trivial⟩, ?_, ?_⟩
      · (try dsimp only)
        refine ⟨by omega, by omega, fun j hj => ?_⟩
        by_cases e : j = i.toNat
        · subst e; exact h3
        · exact i3 j (by omega)
      · (try dsimp only); omega
    (try simp only [Decidable.not_not] at h2)
    refine code_exit ?_
    refine then_x ?_; clear hK7 K7
    refine then_x ?_
    refine blk_hit ?_
    refine hK5 _ ?_; clear hK5 K5
    refine code_seq (fun K12 hK12 => ?_)
    refine code_region ?_
    refine list_cons rfl (op_q (q_assign rfl (by decide)) ?_)
    refine list_nil ?_
    refine hK12 _ ?_; clear hK12 K12
    refine code_ret ?_
    refine ends_ret (cs := []) rfl rfl rfl rfl trivial ?_
    rw [decide_eq_true (list_eq_ofI 0 a b (by omega) fun j hj => i3 j (by omega))]

set_option maxRecDepth 4000 in
theorem toIntS_c (a : List Int) (ha : a.length ≤ 1099511627776) : PCalls Tryd.prog 27 [.sl a.length (a.map (.int .i64))] (· = [.own 0 3 1 a.length (a.map (.int .i64))]) := by
  refine pcalls_of_code (n := 22) az Tryd.func27 (by kernel_rfl) rfl rfl (Nat.le_of_ble_eq_true rfl) (by intro t u h; simp [Tryd.f27] at h) ?_
  refine code_seq (fun K1 hK1 => ?_)
  refine code_region ?_
  refine list_cons rfl (op_q (q_assign rfl (by decide)) ?_)
  refine list_nil ?_
  refine hK1 _ ?_; clear hK1 K1
  refine code_seq (fun K2 hK2 => ?_)
  refine code_region ?_
  refine list_cons rfl (op_q (q_move rfl (by decide)) ?_)
  refine list_cons rfl (op_q (q_len_sl Tryd.underlying28 rfl rfl (by decide)) ?_)
  refine list_cons rfl (op_make sl_28 rfl rfl (by omega) (by decide) (by decide) rfl ?_)
  refine list_cons rfl (op_q (q_assign rfl (by decide)) ?_)
  refine list_nil ?_
  refine hK2 _ ?_; clear hK2 K2
  refine code_seq (fun K3 hK3 => ?_)
  refine code_seq (fun K4 hK4 => ?_)
  refine code_region ?_
  refine list_cons rfl (op_q (q_assign rfl (by decide)) ?_)
  refine list_nil ?_
  refine hK4 _ ?_; clear hK4 K4
  refine code_block ?_
  refine code_loop (X := PV × Nat × List PV × Int) (fun x => [(0, .par 0 (.sl a.length (a.map (.int .i64)))), (2, .val x.1), (3, .own 7 3 1 x.2.1 x.2.2.1), (4, .val (.int .i64 x.2.2.2))]) (fun x => 0 ≤ x.2.2.2 ∧ x.2.2.2 ≤ a.length ∧ x.2.1 = a.length ∧ x.2.2.1 = (a.take x.2.2.2.toNat ++ List.replicate (a.length - x.2.2.2.toNat) 0).map (.int .i64)) (fun x => a.length - x.2.2.2.toNat) (_, _, _, _) (imp_covers ⟨rfl, rfl, rfl, rfl, trivial⟩) ?_ ?_
  · (try dsimp only)
    refine ⟨by omega, by omega, rfl, ?_⟩
    exact zeros_map1 (PV.int .i64) 0 _
  · intro x hI
    obtain ⟨t2_p, out_n, out_c, i⟩ := x
    replace hI : 0 ≤ i ∧ i ≤ a.length ∧ out_n = a.length ∧ out_c = (a.take i.toNat ++ List.replicate (a.length - i.toNat) 0).map (.int .i64) := hI
    show codeT _ _ _ [(0, .par 0 (.sl a.length (a.map (.int .i64)))), (2, .val t2_p), (3, .own 7 3 1 out_n out_c), (4, .val (.int .i64 i))] _
    obtain ⟨i1, i2, rfl, rfl⟩ := hI
    refine code_seq (fun K5 hK5 => ?_)
    refine code_seq (fun K6 hK6 => ?_)
    refine code_region ?_
    refine list_cons rfl (op_q (q_move rfl (by decide)) ?_)
    refine list_cons rfl (op_q (q_move rfl (by decide)) ?_)
    refine list_cons rfl (op_q (q_len_sl Tryd.underlying28 rfl rfl (by decide)) ?_)
    refine list_cons rfl (op_q (q_lt rfl rfl (by decide)) ?_)
    refine list_nil ?_
    refine hK6 _ ?_; clear hK6 K6
    refine code_cond_d rfl (fun h1 => ?_) (fun h1 => ?_)
    · skip
      (try simp only [Decidable.not_not] at h1)
      refine code_skip ?_
      refine hK5 _ ?_; clear hK5 K5
      refine code_seq (fun K7 hK7 => ?_)
      refine code_block ?_
      refine code_region ?_
      refine list_cons rfl (op_q (q_move rfl (by decide)) ?_)
      refine list_cons rfl (op_q (q_move rfl (by decide)) ?_)
      refine list_cons rfl (op_q (q_move rfl (by decide)) ?_)
      refine list_cons rfl (op_q (q_move rfl (by decide)) ?_)
      refine list_cons rfl (op_q (q_indexAddr_rd sl_28 rfl (.inl ⟨_, rfl, rfl⟩) rfl (by omega) (by omega) (by decide)) ?_)
      refine list_cons rfl (op_q (q_load_rd one_3 rfl (.inl ⟨_, (by first | rfl | exact congrArg (SV.rpar _) (drop_map1 _ 0 _ (by first | omega | (simp; omega)))), rfl⟩) (by decide)) ?_)
      refine list_cons rfl (op_q (q_indexAddr_own sl_28 rfl rfl (by omega) (by omega) (by decide)) ?_)
      refine list_cons rfl (op_store (one_3).2 3 [3, 14] (by intro t ht; simp only [List.mem_cons, List.not_mem_nil, or_false] at ht; rcases ht with rfl | rfl <;> rfl) (.inl rfl) rfl rfl rfl rfl rfl rfl (by first | decide | omega | exact Nat.le_refl _ | (simp; done) | (simp; omega)) (by decide) rfl ?_)
      refine list_nil ?_
      refine blk_n ?_
      refine hK7 _ ?_; clear hK7 K7
      refine codeT.imp (σ' := [(0, _), (2, _), (3, _), (4, _)]) ?_ (imp_covers ⟨rfl, rfl, rfl, rfl, trivial⟩)
      refine code_region ?_
      refine list_cons rfl (op_q (q_move rfl (by decide)) ?_)
      refine list_cons rfl (op_q (by first | exact q_addI rfl rfl (by decide) (by omega) (by omega) | exact q_ib rfl rfl rfl (by decide)) ?_)
      refine list_cons rfl (op_q (q_assign rfl (by decide)) ?_)
      refine list_nil ?_
      refine then_n ⟨(_, _, _, _), imp_covers ⟨rfl, rfl, rfl, rfl, trivial⟩, ?_, ?_⟩
      · (try dsimp only)
        refine ⟨by omega, by omega, rfl, ?_⟩
        rw [show (i + 1).toNat = i.toNat + 1 by omega]
        exact fill_mapI (PV.int .i64) 0 a (by omega)
      · (try dsimp only); omega
    (try simp only [Decidable.not_not] at h1)
    refine code_exit ?_
    refine then_x ?_; clear hK5 K5
    refine then_x ?_
    refine blk_hit ?_
    refine hK3 _ ?_; clear hK3 K3
    refine code_seq (fun K8 hK8 => ?_)
    refine code_region ?_
    refine list_cons rfl (op_q (q_move rfl (by decide)) ?_)
    refine list_cons rfl (op_q (q_assign rfl (by decide)) ?_)
    refine list_nil ?_
    refine hK8 _ ?_; clear hK8 K8
    refine code_ret ?_
    refine ends_ret (cs := []) rfl rfl rfl rfl trivial ?_
    rw [show i.toNat = a.length by omega]; simp

set_option maxRecDepth 4000 in
theorem markIntS_c (l : List Int) (k : Int) (hl : l.length ≤ 1099511627776) (p0 : -1099511627776 ≤ k) (p1 : k ≤ 1099511627776) : MCalls Tryd.prog 24 false (some (.own 3 1 l.length (l.map (.int .i64)))) [.int .i64 k] fun rs cs => rs = [.val (.int .i64 (k + l.length))] ∧ cs = (markI l.length k).map (.int .i64) := by
  refine mcalls_of_code (n := 19) az Tryd.func24 (by kernel_rfl) rfl rfl (Nat.le_of_ble_eq_true rfl) (by intro t u h; simp [Tryd.f24] at h) ?_
  refine code_seq (fun K1 hK1 => ?_)
  refine code_region ?_
  refine list_cons rfl (op_q (q_assign rfl (by decide)) ?_)
  refine list_nil ?_
  refine hK1 _ ?_; clear hK1 K1
  refine code_seq (fun K2 hK2 => ?_)
  refine code_seq (fun K3 hK3 => ?_)
  refine code_region ?_
  refine list_cons rfl (op_q (q_assign rfl (by decide)) ?_)
  refine list_nil ?_
  refine hK3 _ ?_; clear hK3 K3
  refine code_block ?_
  refine code_loop (X := Nat × List PV × Int × Int × Int) (fun x => [(0, .own 2000 3 1 x.1 x.2.1), (1, .val (.int .i64 x.2.2.1)), (4, .val (.int .i64 x.2.2.2.1)), (5, .val (.int .i64 x.2.2.2.2))]) (fun x => 0 ≤ x.2.2.2.2 ∧ x.2.2.2.2 ≤ l.length ∧ x.2.2.1 = k + x.2.2.2.2 ∧ x.1 = l.length ∧ x.2.1 = (markI x.2.2.2.2.toNat k ++ l.drop x.2.2.2.2.toNat).map (.int .i64)) (fun x => l.length - x.2.2.2.2.toNat) (_, _, _, _, _) (imp_covers ⟨rfl, rfl, rfl, rfl, trivial⟩) ?_ ?_
  · (try dsimp only)
    refine ⟨by omega, by omega, by omega, rfl, rfl⟩
  · intro x hI
    obtain ⟨a_n, a_c, k_, t4, i⟩ := x
    replace hI : 0 ≤ i ∧ i ≤ l.length ∧ k_ = k + i ∧ a_n = l.length ∧ a_c = (markI i.toNat k ++ l.drop i.toNat).map (.int .i64) := hI
    show codeT _ _ _ [(0, .own 2000 3 1 a_n a_c), (1, .val (.int .i64 k_)), (4, .val (.int .i64 t4)), (5, .val (.int .i64 i))] _
    obtain ⟨i1, i2, rfl, rfl, rfl⟩ := hI
    have i7 := markI_len i.toNat k
    refine code_seq (fun K4 hK4 => ?_)
    refine code_seq (fun K5 hK5 => ?_)
    refine code_region ?_
    refine list_cons rfl (op_q (q_move rfl (by decide)) ?_)
    refine list_cons rfl (op_q (q_move rfl (by decide)) ?_)
    refine list_cons rfl (op_q (q_len_sl Tryd.underlying28 rfl rfl (by decide)) ?_)
    refine list_cons rfl (op_q (q_lt rfl rfl (by decide)) ?_)
    refine list_nil ?_
    refine hK5 _ ?_; clear hK5 K5
    refine code_cond_d rfl (fun h1 => ?_) (fun h1 => ?_)
    · skip
      (try simp only [Decidable.not_not] at h1)
      refine code_skip ?_
      refine hK4 _ ?_; clear hK4 K4
      refine code_seq (fun K6 hK6 => ?_)
      refine code_block ?_
      refine code_seq (fun K7 hK7 => ?_)
      refine code_region ?_
      refine list_cons rfl (op_q (q_move rfl (by decide)) ?_)
      refine list_cons rfl (op_q (q_move rfl (by decide)) ?_)
      refine list_cons rfl (op_q (q_move rfl (by decide)) ?_)
      refine list_cons rfl (op_q (q_indexAddr_own sl_28 rfl rfl (by omega) (by omega) (by decide)) ?_)
      refine list_cons rfl (op_store (one_3).2 0 [0, 7, 12] (by intro t ht; simp only [List.mem_cons, List.not_mem_nil, or_false] at ht; rcases ht with rfl | rfl | rfl <;> rfl) (.inl rfl) rfl rfl rfl rfl rfl rfl (by first | decide | omega | exact Nat.le_refl _ | (simp; done) | (simp; omega)) (by decide) rfl ?_)
      refine list_nil ?_
      refine hK7 _ ?_; clear hK7 K7
      refine codeT.imp (σ' := [(0, _), (1, _), (4, _), (5, _)]) ?_ (imp_covers ⟨rfl, rfl, rfl, rfl, trivial⟩)
      refine code_region ?_
      refine list_cons rfl (op_q (q_move rfl (by decide)) ?_)
      refine list_cons rfl (op_q (by first | exact q_addI rfl rfl (by decide) (by omega) (by omega) | exact q_ib rfl rfl rfl (by decide)) ?_)
      refine list_cons rfl (op_q (q_assign rfl (by decide)) ?_)
      refine list_nil ?_
      refine blk_n ?_
      refine hK6 _ ?_; clear hK6 K6
      refine code_region ?_
      refine list_cons rfl (op_q (q_move rfl (by decide)) ?_)
      refine list_cons rfl (op_q (by first | exact q_addI rfl rfl (by decide) (by omega) (by omega) | exact q_ib rfl rfl rfl (by decide)) ?_)
      refine list_cons rfl (op_q (q_assign rfl (by decide)) ?_)
      refine list_nil ?_
      refine then_n ⟨(_, _, _, _, _), imp_covers ⟨rfl, rfl, rfl, rfl, trivial⟩, ?_, ?_⟩
      · (try dsimp only)
        refine ⟨by omega, by omega, by omega, rfl, ?_⟩
        rw [show (i + 1).toNat = i.toNat + 1 by omega, ← markI_fill l k (by omega), show ((i.toNat : Nat) : Int) = i by omega]; rfl
      · (try dsimp only); omega
    (try simp only [Decidable.not_not] at h1)
    refine code_exit ?_
    refine then_x ?_; clear hK4 K4
    refine then_x ?_
    refine blk_hit ?_
    refine hK2 _ ?_; clear hK2 K2
    refine code_seq (fun K8 hK8 => ?_)
    refine code_region ?_
    refine list_cons rfl (op_q (q_move rfl (by decide)) ?_)
    refine list_cons rfl (op_q (q_assign rfl (by decide)) ?_)
    refine list_nil ?_
    refine hK8 _ ?_; clear hK8 K8
    refine code_ret ?_
    refine ends_ret (cs := _) rfl rfl rfl rfl rfl ?_
    exact ⟨by rw [show i = l.length by omega], by rw [show i.toNat = l.length by omega, List.drop_length, List.append_nil]⟩

set_option maxRecDepth 4000 in
theorem heldIntS_c (n : Nat) (k : Int) (hl : n ≤ 1099511627776) (p0 : -1099511627776 ≤ k) (p1 : k ≤ 1099511627776) : PCalls Tryd.prog 25 [.sl n ((markI n k).map (.int .i64)), .int .i64 k] (· = [.val (.int .i64 (k + n))]) := by
  refine pcalls_of_code (n := 21) az Tryd.func25 (by kernel_rfl) rfl rfl (Nat.le_of_ble_eq_true rfl) (by intro t u h; simp [Tryd.f25] at h) ?_
  have hL := markI_len n k
  refine code_seq (fun K1 hK1 => ?_)
  refine code_region ?_
  refine list_cons rfl (op_q (q_assign rfl (by decide)) ?_)
  refine list_nil ?_
  refine hK1 _ ?_; clear hK1 K1
  refine code_seq (fun K2 hK2 => ?_)
  refine code_seq (fun K3 hK3 => ?_)
  refine code_region ?_
  refine list_cons rfl (op_q (q_assign rfl (by decide)) ?_)
  refine list_nil ?_
  refine hK3 _ ?_; clear hK3 K3
  refine code_block ?_
  refine code_loop (X := Int × Int × Int) (fun x => [(0, .par 0 (.sl n ((markI n k).map (.int .i64)))), (1, .val (.int .i64 x.1)), (4, .val (.int .i64 x.2.1)), (5, .val (.int .i64 x.2.2))]) (fun x => 0 ≤ x.2.2 ∧ x.2.2 ≤ n ∧ x.1 = k + x.2.2) (fun x => n - x.2.2.toNat) (_, _, _) (imp_covers ⟨rfl, rfl, rfl, rfl, trivial⟩) ?_ ?_
  · (try dsimp only)
    refine ⟨by omega, by omega, by omega⟩
  · intro x hI
    obtain ⟨k_, t4, i⟩ := x
    replace hI : 0 ≤ i ∧ i ≤ n ∧ k_ = k + i := hI
    show codeT _ _ _ [(0, .par 0 (.sl n ((markI n k).map (.int .i64)))), (1, .val (.int .i64 k_)), (4, .val (.int .i64 t4)), (5, .val (.int .i64 i))] _
    obtain ⟨i1, i2, rfl⟩ := hI
    refine code_seq (fun K4 hK4 => ?_)
    refine code_seq (fun K5 hK5 => ?_)
    refine code_region ?_
    refine list_cons rfl (op_q (q_move rfl (by decide)) ?_)
    refine list_cons rfl (op_q (q_move rfl (by decide)) ?_)
    refine list_cons rfl (op_q (q_len_sl Tryd.underlying28 rfl rfl (by decide)) ?_)
    refine list_cons rfl (op_q (q_lt rfl rfl (by decide)) ?_)
    refine list_nil ?_
    refine hK5 _ ?_; clear hK5 K5
    refine code_cond_d rfl (fun h1 => ?_) (fun h1 => ?_)
    · skip
      (try simp only [Decidable.not_not] at h1)
      refine code_skip ?_
      refine hK4 _ ?_; clear hK4 K4
      refine code_seq (fun K6 hK6 => ?_)
      refine code_block ?_
      refine code_seq (fun K7 hK7 => ?_)
      refine code_seq (fun K8 hK8 => ?_)
      refine code_region ?_
      refine list_cons rfl (op_q (q_move rfl (by decide)) ?_)
      refine list_cons rfl (op_q (q_move rfl (by decide)) ?_)
      refine list_cons rfl (op_q (q_indexAddr_rd sl_28 rfl (.inl ⟨_, rfl, rfl⟩) rfl (by omega) (by omega) (by decide)) ?_)
      refine list_cons rfl (op_q (q_load_rd one_3 rfl (.inl ⟨_, (by first | rfl | exact congrArg (SV.rpar _) (drop_map1 _ 0 _ (by first | omega | (simp; omega)))), rfl⟩) (by decide)) ?_)
      refine list_cons rfl (op_q (q_move rfl (by decide)) ?_)
      refine list_cons rfl (op_q (q_ne rfl rfl (by decide)) ?_)
      refine list_nil ?_
      refine hK8 _ ?_; clear hK8 K8
      refine codeT.imp (σ' := [(0, _), (1, _), (4, _), (5, _), (17, _)]) ?_ (imp_covers ⟨rfl, rfl, rfl, rfl, rfl, trivial⟩)
      refine code_cond_d rfl (fun h2 => ?_) (fun h2 => ?_)
      · skip
        (try simp only [Decidable.not_not] at h2)
        refine code_seq (fun K9 hK9 => ?_)
        refine code_region ?_
        refine list_cons rfl (op_q (q_assign rfl (by decide)) ?_)
        refine list_nil ?_
        refine hK9 _ ?_; clear hK9 K9
        refine code_ret ?_
        refine then_r ?_; clear hK7 K7
        refine blk_r ?_
        refine then_r ?_; clear hK6 K6
        refine then_r ?_
        refine blk_r ?_
        refine then_r ?_; clear hK2 K2
        refine ends_ret (cs := []) rfl rfl rfl rfl trivial ?_
        exact absurd (by rw [markI_get n k (by omega), show ((i.toNat : Nat) : Int) = i by omega]) h2
      (try simp only [Decidable.not_not] at h2)
      refine code_skip ?_
      refine hK7 _ ?_; clear hK7 K7
      refine code_region ?_
      refine list_cons rfl (op_q (q_move rfl (by decide)) ?_)
      refine list_cons rfl (op_q (by first | exact q_addI rfl rfl (by decide) (by omega) (by omega) | exact q_ib rfl rfl rfl (by decide)) ?_)
      refine list_cons rfl (op_q (q_assign rfl (by decide)) ?_)
      refine list_nil ?_
      refine blk_n ?_
      refine hK6 _ ?_; clear hK6 K6
      refine code_region ?_
      refine list_cons rfl (op_q (q_move rfl (by decide)) ?_)
      refine list_cons rfl (op_q (by first | exact q_addI rfl rfl (by decide) (by omega) (by omega) | exact q_ib rfl rfl rfl (by decide)) ?_)
      refine list_cons rfl (op_q (q_assign rfl (by decide)) ?_)
      refine list_nil ?_
      refine then_n ⟨(_, _, _), imp_covers ⟨rfl, rfl, rfl, rfl, trivial⟩, ?_, ?_⟩
      · (try dsimp only)
        refine ⟨by omega, by omega, by omega⟩
      · (try dsimp only); omega
    (try simp only [Decidable.not_not] at h1)
    refine code_exit ?_
    refine then_x ?_; clear hK4 K4
    refine then_x ?_
    refine blk_hit ?_
    refine hK2 _ ?_; clear hK2 K2
    refine code_seq (fun K10 hK10 => ?_)
    refine code_region ?_
    refine list_cons rfl (op_q (q_move rfl (by decide)) ?_)
    refine list_cons rfl (op_q (q_assign rfl (by decide)) ?_)
    refine list_nil ?_
    refine hK10 _ ?_; clear hK10 K10
    refine code_ret ?_
    refine ends_ret (cs := []) rfl rfl rfl rfl trivial ?_
    rw [show i = n by omega]

def digT : List Int := [63, 6, 91, 79, 102, 109, 125, 7, 127, 111]
def digOf (c : Int) : Int := if c = 63 then 0 else if c = 6 then 1 else if c = 91 then 2 else if c = 79 then 3 else if c = 102 then 4 else if c = 109 then 5 else if c = 125 then 6 else if c = 7 then 7 else if c = 127 then 8 else if c = 111 then 9 else -1
theorem digOf_at {d : Int} {c : Int} (h0 : 0 ≤ d) (h1 : d ≤ 9) (h : digT.getD d.toNat 0 = c) : digOf c = d := by
  have : d = 0 ∨ d = 1 ∨ d = 2 ∨ d = 3 ∨ d = 4 ∨ d = 5 ∨ d = 6 ∨ d = 7 ∨ d = 8 ∨ d = 9 := by omega
  subst h
  rcases this with rfl | rfl | rfl | rfl | rfl | rfl | rfl | rfl | rfl | rfl <;> rfl
theorem digOf_none {c : Int} (h : ∀ j : Nat, j < 10 → digT.getD j 0 ≠ c) : digOf c = -1 := by
  have k0 := h 0 (by omega); have k1 := h 1 (by omega); have k2 := h 2 (by omega); have k3 := h 3 (by omega); have k4 := h 4 (by omega)
  have k5 := h 5 (by omega); have k6 := h 6 (by omega); have k7 := h 7 (by omega); have k8 := h 8 (by omega); have k9 := h 9 (by omega)
  simp [digT] at k0 k1 k2 k3 k4 k5 k6 k7 k8 k9
  unfold digOf
  repeat rw [if_neg (by omega)]
theorem digOf_le (c : Int) : -1 ≤ digOf c ∧ digOf c ≤ 9 := by
  unfold digOf
  repeat' split
  all_goals omega
def RowP (l : List Int) : Prop := l.length ≤ 6 ∧ ∀ x ∈ l, 0 ≤ x ∧ x ≤ 127
instance (l : List Int) : Decidable (RowP l) := by unfold RowP; infer_instance
theorem RowP.at {l : List Int} (h : RowP l) {j : Nat} (hj : j < l.length) : 0 ≤ l.getD j 0 ∧ l.getD j 0 ≤ 127 := by
  have : l.getD j 0 = l[j] := by simp [hj]
  rw [this]; exact h.2 _ (List.getElem_mem hj)
theorem RowP.of {l : List Int} (h0 : l.length ≤ 6) (h : ∀ j, j < l.length → 0 ≤ l.getD j 0 ∧ l.getD j 0 ≤ 127) : RowP l := ⟨h0, fun x hx => by
  obtain ⟨j, hj, rfl⟩ := List.getElem_of_mem hx
  have := h j hj
  simpa [hj] using this⟩
def cnt7 (n : Nat) : Nat := n % 2 + n / 2 % 2 + n / 4 % 2 + n / 8 % 2 + n / 16 % 2 + n / 32 % 2 + n / 64 % 2
def turn7 (n : Nat) : Nat := n / 8 % 2 + 2 * (n / 16 % 2) + 4 * (n / 32 % 2) + 8 * (n % 2) + 16 * (n / 2 % 2) + 32 * (n / 4 % 2) + 64 * (n / 64 % 2)
def mir7 (n : Nat) : Nat := n % 2 + 2 * (n / 32 % 2) + 4 * (n / 16 % 2) + 8 * (n / 8 % 2) + 16 * (n / 4 % 2) + 32 * (n / 2 % 2) + 64 * (n / 64 % 2)
def bars7 (n : Nat) : List UInt8 := ((List.range 7).filter (fun k => Nat.beq (n / 2 ^ k % 2) 1)).map fun k => UInt8.ofNat (97 + k)

set_option maxRecDepth 4000 in
theorem spec_l1In (x a b : Int) : PCalls Tryd.prog 67 [.int .i64 x, .int .i64 a, .int .i64 b] (· = [.val (.bool (decide (a ≤ x ∧ x ≤ b)))]) := by
  refine pcalls_of_code (n := 15) az Tryd.func67 (by kernel_rfl) rfl rfl (Nat.le_of_ble_eq_true rfl) (by intro t u h; simp [Tryd.f67] at h) ?_
  refine code_seq (fun K1 hK1 => ?_)
  refine code_region ?_
  refine list_cons rfl (op_q (q_assign rfl (by decide)) ?_)
  refine list_nil ?_
  refine hK1 _ ?_; clear hK1 K1
  refine code_seq (fun K2 hK2 => ?_)
  refine code_region ?_
  refine list_cons rfl (op_q (q_move rfl (by decide)) ?_)
  refine list_cons rfl (op_q (q_move rfl (by decide)) ?_)
  refine list_cons rfl (op_q (q_ge rfl rfl (by decide)) ?_)
  refine list_cons rfl (op_q (q_move rfl (by decide)) ?_)
  refine list_guard_d rfl rfl rfl rfl (by decide) rfl (by decide) (fun h1 => ?_) (fun h1 => ?_)
  · simp only [Bool.false_eq_true, if_true, if_false, Decidable.not_not] at h1
    refine id (op_q (q_move rfl (by decide)) ?_)
    refine list_guard_y rfl rfl rfl rfl (by decide) rfl ?_
    refine id (op_q (q_move rfl (by decide)) ?_)
    refine list_guard_y rfl rfl rfl rfl (by decide) rfl ?_
    refine id (op_q (q_le rfl rfl (by decide)) ?_)
    refine list_cons rfl (op_q (q_pick rfl rfl (by decide)) ?_)
    refine list_cons rfl (op_q (q_assign rfl (by decide)) ?_)
    refine list_nil ?_
    refine hK2 _ ?_; clear hK2 K2
    refine codeT.imp (σ' := [(0, _), (1, _), (2, _), (6, _)]) ?_ (imp_covers ⟨rfl, rfl, rfl, rfl, trivial⟩)
    refine code_ret ?_
    refine ends_ret (cs := []) rfl rfl rfl rfl trivial ?_
    simp [h1]
  simp only [Bool.false_eq_true, if_true, if_false, Decidable.not_not] at h1
  refine list_guard_n rfl rfl rfl rfl (by decide) rfl ?_
  refine list_guard_n rfl rfl rfl rfl (by decide) rfl ?_
  refine list_cons rfl (op_q (q_pick rfl rfl (by decide)) ?_)
  refine list_cons rfl (op_q (q_assign rfl (by decide)) ?_)
  refine list_nil ?_
  refine hK2 _ ?_; clear hK2 K2
  refine code_ret ?_
  refine ends_ret (cs := []) rfl rfl rfl rfl trivial ?_
  simp [h1]

set_option maxRecDepth 4000 in
theorem spec_l2Cell (c : Int) : PCalls Tryd.prog 74 [.int .i64 c] (· = [.val (.bool (decide (0 ≤ c ∧ c ≤ 127)))]) := by
  refine pcalls_of_code (n := 5) az Tryd.func74 (by kernel_rfl) rfl rfl (Nat.le_of_ble_eq_true rfl) (by intro t u h; simp [Tryd.f74] at h) ?_
  refine code_seq (fun K1 hK1 => ?_)
  refine code_region ?_
  refine list_cons rfl (op_q (q_assign rfl (by decide)) ?_)
  refine list_nil ?_
  refine hK1 _ ?_; clear hK1 K1
  refine code_seq (fun K2 hK2 => ?_)
  refine code_region ?_
  refine list_cons rfl (op_q (q_move rfl (by decide)) ?_)
  refine list_cons rfl (op_call _ (spec_l1In _ _ _) rfl rfl (by decide) (by decide) (by decide) rfl ?_)
  rintro _ rfl
  refine list_cons rfl (op_q (q_assign rfl (by decide)) ?_)
  refine list_nil ?_
  refine hK2 _ ?_; clear hK2 K2
  refine codeT.imp (σ' := [(0, _), (2, _)]) ?_ (imp_covers ⟨rfl, rfl, trivial⟩)
  refine code_ret ?_
  refine ends_ret (cs := []) rfl rfl rfl rfl trivial ?_
  rfl

set_option maxRecDepth 4000 in
theorem spec_l2Row (l : List Int) (hl : l.length ≤ 4611686018427387904) : PCalls Tryd.prog 53 [.sl l.length (l.map (.int .i64))] (· = [.val (.bool (decide (RowP l)))]) := by
  refine pcalls_of_code (n := 23) az Tryd.func53 (by kernel_rfl) rfl rfl (Nat.le_of_ble_eq_true rfl) (by intro t u h; simp [Tryd.f53] at h) ?_
  refine code_seq (fun K1 hK1 => ?_)
  refine code_region ?_
  refine list_cons rfl (op_q (q_assign rfl (by decide)) ?_)
  refine list_nil ?_
  refine hK1 _ ?_; clear hK1 K1
  refine code_seq (fun K2 hK2 => ?_)
  refine code_seq (fun K3 hK3 => ?_)
  refine code_region ?_
  refine list_cons rfl (op_q (q_assign rfl (by decide)) ?_)
  refine list_nil ?_
  refine hK3 _ ?_; clear hK3 K3
  refine code_block ?_
  refine code_loop (X := Bool × Int) (fun x => [(0, .par 0 (.sl l.length (l.map (.int .i64)))), (2, .val (.bool x.1)), (3, .val (.int .i64 x.2))]) (fun x => 0 ≤ x.2 ∧ x.2 ≤ 7 ∧ x.2 ≤ l.length ∧ ∀ j, j < x.2.toNat → 0 ≤ l.getD j 0 ∧ l.getD j 0 ≤ 127) (fun x => l.length - x.2.toNat) (_, _) (imp_covers ⟨rfl, rfl, rfl, trivial⟩) ?_ ?_
  · (try dsimp only)
    refine ⟨by omega, by omega, by omega, fun j hj => by simp at hj⟩
  · intro x hI
    obtain ⟨t2, i⟩ := x
    replace hI : 0 ≤ i ∧ i ≤ 7 ∧ i ≤ l.length ∧ ∀ j, j < i.toNat → 0 ≤ l.getD j 0 ∧ l.getD j 0 ≤ 127 := hI
    show codeT _ _ _ [(0, .par 0 (.sl l.length (l.map (.int .i64)))), (2, .val (.bool t2)), (3, .val (.int .i64 i))] _
    obtain ⟨i1, i2, i3, i4⟩ := hI
    refine code_seq (fun K4 hK4 => ?_)
    refine code_seq (fun K5 hK5 => ?_)
    refine code_region ?_
    refine list_cons rfl (op_q (q_move rfl (by decide)) ?_)
    refine list_cons rfl (op_q (q_move rfl (by decide)) ?_)
    refine list_cons rfl (op_q (q_len_sl Tryd.underlying28 rfl rfl (by decide)) ?_)
    refine list_cons rfl (op_q (q_lt rfl rfl (by decide)) ?_)
    refine list_cons rfl (op_q (q_move rfl (by decide)) ?_)
    refine list_guard_d rfl rfl rfl rfl (by decide) rfl (by decide) (fun h1 => ?_) (fun h1 => ?_)
    · simp only [Bool.false_eq_true, if_true, if_false, Decidable.not_not] at h1
      refine id (op_q (q_move rfl (by decide)) ?_)
      refine list_guard_y rfl rfl rfl rfl (by decide) rfl ?_
      refine id (op_q (q_le rfl rfl (by decide)) ?_)
      refine list_cons rfl (op_q (q_pick rfl rfl (by decide)) ?_)
      refine list_nil ?_
      refine hK5 _ ?_; clear hK5 K5
      refine codeT.imp (σ' := [(0, _), (2, _), (3, _), (11, _)]) ?_ (imp_covers ⟨rfl, rfl, rfl, rfl, trivial⟩)
      refine code_cond_d rfl (fun h2 => ?_) (fun h2 => ?_)
      · skip
        (try simp only [Decidable.not_not] at h2)
        refine code_skip ?_
        refine hK4 _ ?_; clear hK4 K4
        refine code_seq (fun K6 hK6 => ?_)
        refine code_block ?_
        refine code_seq (fun K7 hK7 => ?_)
        refine code_region ?_
        refine list_cons rfl (op_q (q_move rfl (by decide)) ?_)
        refine list_cons rfl (op_q (q_move rfl (by decide)) ?_)
        refine list_cons rfl (op_q (q_indexAddr_rd sl_28 rfl (.inl ⟨_, rfl, rfl⟩) rfl (by omega) (by omega) (by decide)) ?_)
        refine list_cons rfl (op_q (q_load_rd one_3 rfl (.inl ⟨_, (by first | rfl | exact congrArg (SV.rpar _) (drop_map1 _ 0 _ (by first | omega | (simp; omega)))), rfl⟩) (by decide)) ?_)
        refine list_cons rfl (op_call _ (spec_l2Cell _) rfl rfl (by decide) (by decide) (by decide) rfl ?_)
        rintro _ rfl
        refine list_cons rfl (op_q (by first | exact q_notd rfl (by decide) | exact q_not rfl (by decide)) ?_)
        refine list_nil ?_
        refine hK7 _ ?_; clear hK7 K7
        refine codeT.imp (σ' := [(0, _), (2, _), (3, _), (19, _)]) ?_ (imp_covers ⟨rfl, rfl, rfl, rfl, trivial⟩)
        refine code_cond_d rfl (fun h3 => ?_) (fun h3 => ?_)
        · skip
          (try simp only [Decidable.not_not] at h3)
          refine code_seq (fun K8 hK8 => ?_)
          refine code_region ?_
          refine list_cons rfl (op_q (q_assign rfl (by decide)) ?_)
          refine list_nil ?_
          refine hK8 _ ?_; clear hK8 K8
          refine code_ret ?_
          refine blk_r ?_
          refine then_r ?_; clear hK6 K6
          refine then_r ?_
          refine blk_r ?_
          refine then_r ?_; clear hK2 K2
          refine ends_ret (cs := []) rfl rfl rfl rfl trivial ?_
          rw [decide_eq_false (fun e => h3 (e.at (by omega)))]
        (try simp only [Decidable.not_not] at h3)
        refine code_skip ?_
        refine blk_n ?_
        refine hK6 _ ?_; clear hK6 K6
        refine code_region ?_
        refine list_cons rfl (op_q (q_move rfl (by decide)) ?_)
        refine list_cons rfl (op_q (by first | exact q_addI rfl rfl (by decide) (by omega) (by omega) | exact q_ib rfl rfl rfl (by decide)) ?_)
        refine list_cons rfl (op_q (q_assign rfl (by decide)) ?_)
        refine list_nil ?_
        refine then_n ⟨(_, _), imp_covers ⟨rfl, rfl, rfl, trivial⟩, ?_, ?_⟩
        · (try dsimp only)
          refine ⟨by omega, by omega, by omega, fun j hj => ?_⟩
          by_cases e : j = i.toNat
          · subst e; exact h3
          · exact i4 j (by omega)
        · (try dsimp only); omega
      (try simp only [Decidable.not_not] at h2)
      refine code_exit ?_
      refine then_x ?_; clear hK4 K4
      refine then_x ?_
      refine blk_hit ?_
      refine hK2 _ ?_; clear hK2 K2
      refine code_seq (fun K9 hK9 => ?_)
      refine code_region ?_
      refine list_cons rfl (op_q (q_move rfl (by decide)) ?_)
      refine list_cons rfl (op_q (q_len_sl Tryd.underlying28 rfl rfl (by decide)) ?_)
      refine list_cons rfl (op_q (q_le rfl rfl (by decide)) ?_)
      refine list_cons rfl (op_q (q_assign rfl (by decide)) ?_)
      refine list_nil ?_
      refine hK9 _ ?_; clear hK9 K9
      refine code_ret ?_
      refine ends_ret (cs := []) rfl rfl rfl rfl trivial ?_
      congr 3
      refine decide_eq_decide.mpr ⟨fun e => RowP.of (by omega) fun j hj => i4 j (by omega), fun e => by have := e.1; omega⟩
    simp only [Bool.false_eq_true, if_true, if_false, Decidable.not_not] at h1
    refine list_guard_n rfl rfl rfl rfl (by decide) rfl ?_
    refine list_cons rfl (op_q (q_pick rfl rfl (by decide)) ?_)
    refine list_nil ?_
    refine hK5 _ ?_; clear hK5 K5
    refine code_cond_f rfl ?_
    refine code_exit ?_
    refine then_x ?_; clear hK4 K4
    refine then_x ?_
    refine blk_hit ?_
    refine hK2 _ ?_; clear hK2 K2
    refine code_seq (fun K10 hK10 => ?_)
    refine code_region ?_
    refine list_cons rfl (op_q (q_move rfl (by decide)) ?_)
    refine list_cons rfl (op_q (q_len_sl Tryd.underlying28 rfl rfl (by decide)) ?_)
    refine list_cons rfl (op_q (q_le rfl rfl (by decide)) ?_)
    refine list_cons rfl (op_q (q_assign rfl (by decide)) ?_)
    refine list_nil ?_
    refine hK10 _ ?_; clear hK10 K10
    refine codeT.imp (σ' := [(0, _), (2, _), (3, _)]) ?_ (imp_covers ⟨rfl, rfl, rfl, trivial⟩)
    refine code_ret ?_
    refine ends_ret (cs := []) rfl rfl rfl rfl trivial ?_
    congr 3
    refine decide_eq_decide.mpr ⟨fun e => RowP.of (by omega) fun j hj => i4 j (by omega), fun e => by have := e.1; omega⟩

set_option maxRecDepth 100000 in
theorem spec_l2Count (c : Int) (h0 : 0 ≤ c) (h1 : c ≤ 127) : PCalls Tryd.prog 58 [.int .i64 c] (· = [.val (.int .i64 (((cnt7 c.toNat : Nat) : Int)))]) := by
  have h := below_int (p := fun i => oneInt (crun Tf.tf noExt 200 6 58 [.int .i64 (Int.ofNat i)]) (((cnt7 i : Nat) : Int))) (k := 128) (by kernel_rfl) h0 (by omega)
  have e : Int.ofNat c.toNat = c := Int.toNat_of_nonneg h0
  rw [e] at h
  exact pcalls_run Tf.tf (oneInt_ok h)

set_option maxRecDepth 100000 in
theorem spec_l2Mirror (c : Int) (h0 : 0 ≤ c) (h1 : c ≤ 127) : PCalls Tryd.prog 79 [.int .i64 c] (· = [.val (.int .i64 (((mir7 c.toNat : Nat) : Int)))]) := by
  have h := below_int (p := fun i => oneInt (crun Tf.tf noExt 200 6 79 [.int .i64 (Int.ofNat i)]) (((mir7 i : Nat) : Int))) (k := 128) (by kernel_rfl) h0 (by omega)
  have e : Int.ofNat c.toNat = c := Int.toNat_of_nonneg h0
  rw [e] at h
  exact pcalls_run Tf.tf (oneInt_ok h)

theorem foldl_take {α β : Type} (f : β → α → β) (d : α) (l : List α) (b : β) {k : Nat} (h : k < l.length) : (l.take (k + 1)).foldl f b = f ((l.take k).foldl f b) (l.getD k d) := by
  rw [take_snocI d l k h, List.foldl_append]; rfl
theorem map_take {α β : Type} (f : α → β) (d : α) (l : List α) {k : Nat} (h : k < l.length) : (l.take (k + 1)).map f = (l.take k).map f ++ [f (l.getD k d)] := by
  rw [take_snocI d l k h, List.map_append]; rfl
theorem rev_drop {α : Type} (d : α) (l : List α) {k : Nat} (h : k < l.length) : (l.drop k).reverse = (l.drop (k + 1)).reverse ++ [l.getD k d] := by
  rw [List.drop_eq_getElem_cons h, List.reverse_cons]; simp [h]
theorem xor7 {a b : Int} (ha : 0 ≤ a ∧ a ≤ 127) (hb : 0 ≤ b ∧ b ≤ 127) : ((a.toNat ^^^ b.toNat : Nat) : Int) ≤ 127 := by
  have := @Nat.xor_lt_two_pow a.toNat b.toNat 7 (by omega) (by omega)
  omega
theorem cnt7_le (n : Nat) : cnt7 n ≤ 7 := by unfold cnt7; omega
theorem turn7_le (n : Nat) : turn7 n ≤ 127 := by unfold turn7; omega
theorem mir7_le (n : Nat) : mir7 n ≤ 127 := by unfold mir7; omega
def turnC (x : Int) : Int := ((turn7 x.toNat : Nat) : Int)
def mirC (x : Int) : Int := ((mir7 x.toNat : Nat) : Int)
theorem turnC_cell (x : Int) : 0 ≤ turnC x ∧ turnC x ≤ 127 := by have := turn7_le x.toNat; unfold turnC; omega
theorem mirC_cell (x : Int) : 0 ≤ mirC x ∧ mirC x ≤ 127 := by have := mir7_le x.toNat; unfold mirC; omega
def turnL (l : List Int) : List Int := l.reverse.map turnC
def mirL (l : List Int) : List Int := l.reverse.map mirC
theorem turnL_len (l : List Int) : (turnL l).length = l.length := by simp [turnL]
theorem mirL_len (l : List Int) : (mirL l).length = l.length := by simp [mirL]
/-- The row of a number. -/
def rowN (n : Nat) : List Int := if h : n < 10 then [digT.getD n 0] else rowN (n / 10) ++ [digT.getD (n % 10) 0]
termination_by n
decreasing_by omega
theorem rowN_lt {n : Nat} (h : n < 10) : rowN n = [digT.getD n 0] := by rw [rowN, dif_pos h]
theorem rowN_ge {n : Nat} (h : ¬ n < 10) : rowN n = rowN (n / 10) ++ [digT.getD (n % 10) 0] := by rw [rowN, dif_neg h]
/-- What of the row stands ahead of its last cell. -/
def rowP (n : Nat) : List Int := if n < 10 then [] else rowN (n / 10)
theorem rowP_cat (n : Nat) : rowN n = rowP n ++ [digT.getD (n % 10) 0] := by
  unfold rowP
  by_cases h : n < 10
  · rw [if_pos h, rowN_lt h, Nat.mod_eq_of_lt h]; rfl
  · rw [if_neg h, rowN_ge h]
theorem rowN_len : ∀ (k n : Nat), 1 ≤ k → n < 10 ^ k → (rowN n).length ≤ k ∧ 1 ≤ (rowN n).length
  | 0, n, h, _ => by omega
  | k + 1, n, _, h => by
    by_cases hn : n < 10
    · rw [rowN_lt hn]; simp
    · rw [rowN_ge hn]
      have h1 : 1 ≤ k := by
        rcases Nat.eq_zero_or_pos k with e | e
        · subst e; simp at h; omega
        · exact e
      have h2 : n / 10 < 10 ^ k := by rw [Nat.pow_succ] at h; omega
      have := rowN_len k (n / 10) h1 h2
      simp; omega
theorem digT_cell (n : Nat) : 0 ≤ digT.getD n 0 ∧ digT.getD n 0 ≤ 127 := by
  by_cases h : n < 10
  · have : n = 0 ∨ n = 1 ∨ n = 2 ∨ n = 3 ∨ n = 4 ∨ n = 5 ∨ n = 6 ∨ n = 7 ∨ n = 8 ∨ n = 9 := by omega
    rcases this with rfl | rfl | rfl | rfl | rfl | rfl | rfl | rfl | rfl | rfl <;> decide
  · have : digT.getD n 0 = 0 := by unfold List.getD; rw [List.getElem?_eq_none (by simp [digT]; omega)]; rfl
    rw [this]; omega
theorem rowN_cells : ∀ (k n : Nat), n < k → ∀ x ∈ rowN n, 0 ≤ x ∧ x ≤ 127
  | 0, n, h => by omega
  | k + 1, n, h => by
    intro x hx
    by_cases hn : n < 10
    · rw [rowN_lt hn] at hx; simp only [List.mem_singleton] at hx; subst hx; exact digT_cell _
    · rw [rowN_ge hn] at hx
      rcases List.mem_append.1 hx with hx | hx
      · exact rowN_cells k (n / 10) (by omega) x hx
      · simp only [List.mem_singleton] at hx; subst hx; exact digT_cell _
theorem rowN_row {n : Nat} (h : n ≤ 999999) : RowP (rowN n) := ⟨(rowN_len 6 n (by omega) (by omega)).1, rowN_cells (n + 1) n (by omega)⟩
def DigsP (l : List Int) : Prop := ∀ x ∈ l, 0 ≤ digOf x
instance (l : List Int) : Decidable (DigsP l) := by unfold DigsP; infer_instance
def numF (l : List Int) : Int := l.foldl (fun n x => 10 * n + digOf x) 0
theorem DigsP.at {l : List Int} (h : DigsP l) {j : Nat} (hj : j < l.length) : 0 ≤ digOf (l.getD j 0) := by
  have : l.getD j 0 = l[j] := by simp [hj]
  rw [this]; exact h _ (List.getElem_mem hj)
theorem DigsP.of {l : List Int} (h : ∀ j, j < l.length → 0 ≤ digOf (l.getD j 0)) : DigsP l := fun x hx => by
  obtain ⟨j, hj, rfl⟩ := List.getElem_of_mem hx
  have := h j hj
  simpa [hj] using this
theorem pow10_le {i : Nat} (h : i ≤ 6) : 10 ^ i ≤ 1000000 := Nat.pow_le_pow_right (n := 10) (by omega) h
def litF (l : List Int) : Int := l.foldl (fun n x => n + ((cnt7 x.toNat : Nat) : Int)) 0
def cntAlike : Nat → Nat
  | 0 => if turnL (rowN 0) = rowN 0 then 1 else 0
  | k + 1 => cntAlike k + if turnL (rowN (k + 1)) = rowN (k + 1) then 1 else 0
def alikeTo (k : Nat) : Nat := ((List.range k).filter fun j => turnL (rowN j) = rowN j).length
theorem alikeTo_succ (k : Nat) : alikeTo (k + 1) = alikeTo k + if turnL (rowN k) = rowN k then 1 else 0 := by
  unfold alikeTo
  rw [List.range_succ, List.filter_append, List.length_append]
  by_cases h : turnL (rowN k) = rowN k <;> simp [h]
theorem alikeTo_le (k : Nat) : alikeTo k ≤ k := by
  have := List.length_filter_le (fun j => decide (turnL (rowN j) = rowN j)) (List.range k)
  simpa [alikeTo] using this

set_option maxRecDepth 4000 in
theorem spec_l2Far (a b : Int) (ha : 0 ≤ a ∧ a ≤ 127) (hb : 0 ≤ b ∧ b ≤ 127) : PCalls Tryd.prog 81 [.int .i64 a, .int .i64 b] (· = [.val (.int .i64 (((cnt7 (a.toNat ^^^ b.toNat) : Nat) : Int)))]) := by
  refine pcalls_of_code (n := 9) az Tryd.func81 (by kernel_rfl) rfl rfl (Nat.le_of_ble_eq_true rfl) (by intro t u h; simp [Tryd.f81] at h) ?_
  refine code_seq (fun K1 hK1 => ?_)
  refine code_region ?_
  refine list_cons rfl (op_q (q_assign rfl (by decide)) ?_)
  refine list_nil ?_
  refine hK1 _ ?_; clear hK1 K1
  refine code_seq (fun K2 hK2 => ?_)
  refine code_region ?_
  refine list_cons rfl (op_q (q_move rfl (by decide)) ?_)
  refine list_cons rfl (op_q (q_move rfl (by decide)) ?_)
  refine list_cons rfl (op_q (by first | exact q_xorI rfl rfl (by decide) (by omega) (by omega) (by omega) (by omega) | exact q_ib rfl rfl rfl (by decide)) ?_)
  refine list_cons rfl (op_call _ (spec_l2Count _ (by omega) (xor7 ha hb)) rfl rfl (by decide) (by decide) (by decide) rfl ?_)
  rintro _ rfl
  refine list_cons rfl (op_q (q_assign rfl (by decide)) ?_)
  refine list_nil ?_
  refine hK2 _ ?_; clear hK2 K2
  refine codeT.imp (σ' := [(0, _), (1, _), (4, _)]) ?_ (imp_covers ⟨rfl, rfl, rfl, trivial⟩)
  refine code_ret ?_
  refine ends_ret (cs := []) rfl rfl rfl rfl trivial ?_
  rfl

set_option maxRecDepth 4000 in
theorem spec_l2MirrorRow (l : List Int) (hl : RowP l) : PCalls Tryd.prog 60 [.sl l.length (l.map (.int .i64))] (· = [.own 0 3 1 (mirL l).length ((mirL l).map (.int .i64))]) := by
  refine pcalls_of_code (n := 22) az Tryd.func60 (by kernel_rfl) rfl rfl (Nat.le_of_ble_eq_true rfl) (by intro t u h; simp [Tryd.f60] at h) ?_
  have hl6 := hl.1
  refine code_seq (fun K1 hK1 => ?_)
  refine code_region ?_
  refine list_cons rfl (op_q (q_assign rfl (by decide)) ?_)
  refine list_nil ?_
  refine hK1 _ ?_; clear hK1 K1
  refine code_seq (fun K2 hK2 => ?_)
  refine code_region ?_
  refine list_cons rfl (op_buildSlice sl_28 (parts := []) rfl rfl rfl (by decide) (by decide) (by decide) rfl ?_)
  refine list_cons rfl (op_q (q_assign rfl (by decide)) ?_)
  refine list_nil ?_
  refine hK2 _ ?_; clear hK2 K2
  refine code_seq (fun K3 hK3 => ?_)
  refine code_seq (fun K4 hK4 => ?_)
  refine code_region ?_
  refine list_cons rfl (op_q (q_move rfl (by decide)) ?_)
  refine list_cons rfl (op_q (q_len_sl Tryd.underlying28 rfl rfl (by decide)) ?_)
  refine list_cons rfl (op_q (by first | exact q_subI rfl rfl (by decide) (by omega) (by omega) | exact q_ib rfl rfl rfl (by decide)) ?_)
  refine list_cons rfl (op_q (q_assign rfl (by decide)) ?_)
  refine list_nil ?_
  refine hK4 _ ?_; clear hK4 K4
  refine code_block ?_
  refine code_loop (X := PV × Nat × List PV × Int) (fun x => [(0, .par 0 (.sl l.length (l.map (.int .i64)))), (2, .val x.1), (3, .own 5 3 1 x.2.1 x.2.2.1), (4, .val (.int .i64 x.2.2.2))]) (fun x => -1 ≤ x.2.2.2 ∧ x.2.2.2 < l.length ∧ x.2.1 = l.length - (x.2.2.2 + 1).toNat ∧ x.2.2.1 = ((l.drop (x.2.2.2 + 1).toNat).reverse.map mirC).map (.int .i64)) (fun x => (x.2.2.2 + 1).toNat) (_, _, _, _) (imp_covers ⟨rfl, rfl, rfl, rfl, trivial⟩) ?_ ?_
  · (try dsimp only)
    refine ⟨by omega, by omega, by omega, ?_⟩
    rw [List.drop_eq_nil_of_le (by omega)]; rfl
  · intro x hI
    obtain ⟨t2_p, out_n, out_c, i⟩ := x
    replace hI : -1 ≤ i ∧ i < l.length ∧ out_n = l.length - (i + 1).toNat ∧ out_c = ((l.drop (i + 1).toNat).reverse.map mirC).map (.int .i64) := hI
    show codeT _ _ _ [(0, .par 0 (.sl l.length (l.map (.int .i64)))), (2, .val t2_p), (3, .own 5 3 1 out_n out_c), (4, .val (.int .i64 i))] _
    obtain ⟨i1, i2, rfl, rfl⟩ := hI
    have hc := fun (k : 0 ≤ i) => hl.at (j := i.toNat) (by omega)
    refine code_seq (fun K5 hK5 => ?_)
    refine code_seq (fun K6 hK6 => ?_)
    refine code_region ?_
    refine list_cons rfl (op_q (q_move rfl (by decide)) ?_)
    refine list_cons rfl (op_q (q_ge rfl rfl (by decide)) ?_)
    refine list_nil ?_
    refine hK6 _ ?_; clear hK6 K6
    refine code_cond_d rfl (fun h1 => ?_) (fun h1 => ?_)
    · skip
      (try simp only [Decidable.not_not] at h1)
      refine code_skip ?_
      refine hK5 _ ?_; clear hK5 K5
      refine code_seq (fun K7 hK7 => ?_)
      refine code_block ?_
      refine code_region ?_
      refine list_cons rfl (op_q (q_move rfl (by decide)) ?_)
      refine list_cons rfl (op_q (q_move rfl (by decide)) ?_)
      refine list_cons rfl (op_q (q_move rfl (by decide)) ?_)
      refine list_cons rfl (op_q (q_indexAddr_rd sl_28 rfl (.inl ⟨_, rfl, rfl⟩) rfl (by omega) (by omega) (by decide)) ?_)
      refine list_cons rfl (op_q (q_load_rd one_3 rfl (.inl ⟨_, (by first | rfl | exact congrArg (SV.rpar _) (drop_map1 _ 0 _ (by first | omega | (simp; omega)))), rfl⟩) (by decide)) ?_)
      refine list_cons rfl (op_call _ (spec_l2Mirror _ (hc (by omega)).1 (hc (by omega)).2) rfl rfl (by decide) (by decide) (by decide) rfl ?_)
      rintro _ rfl
      refine list_cons rfl (op_buildSlice sl_28 (parts := [(0, .tmp 18)]) rfl rfl rfl (by decide) (by decide) (by decide) rfl ?_)
      refine list_cons rfl (op_append_gen sl_28 (l := 5) (.inl rfl) rfl rfl (l2 := none) (.inl ⟨rfl, (by first | rfl | exact flat_map _ (fun _ => rfl) _)⟩) (by first | rfl | simp | omega) (by omega) (by decide) (by decide) (by decide) ?_)
      refine list_cons rfl (op_q (q_assign rfl (by decide)) ?_)
      refine list_nil ?_
      refine blk_n ?_
      refine hK7 _ ?_; clear hK7 K7
      refine codeT.imp (σ' := [(0, _), (2, _), (3, _), (4, _)]) ?_ (imp_covers ⟨rfl, rfl, rfl, rfl, trivial⟩)
      refine code_region ?_
      refine list_cons rfl (op_q (q_move rfl (by decide)) ?_)
      refine list_cons rfl (op_q (by first | exact q_subI rfl rfl (by decide) (by omega) (by omega) | exact q_ib rfl rfl rfl (by decide)) ?_)
      refine list_cons rfl (op_q (q_assign rfl (by decide)) ?_)
      refine list_nil ?_
      refine then_n ⟨(_, _, _, _), imp_covers ⟨rfl, rfl, rfl, rfl, trivial⟩, ?_, ?_⟩
      · (try dsimp only)
        refine ⟨by omega, by omega, by omega, ?_⟩
        rw [show (i - 1 + 1).toNat = i.toNat by omega, rev_drop 0 l (k := i.toNat) (by omega), show (i + 1).toNat = i.toNat + 1 by omega]
        simp; rfl
      · (try dsimp only); omega
    (try simp only [Decidable.not_not] at h1)
    refine code_exit ?_
    refine then_x ?_; clear hK5 K5
    refine then_x ?_
    refine blk_hit ?_
    refine hK3 _ ?_; clear hK3 K3
    refine code_seq (fun K8 hK8 => ?_)
    refine code_region ?_
    refine list_cons rfl (op_q (q_move rfl (by decide)) ?_)
    refine list_cons rfl (op_q (q_assign rfl (by decide)) ?_)
    refine list_nil ?_
    refine hK8 _ ?_; clear hK8 K8
    refine code_ret ?_
    refine ends_ret (cs := []) rfl rfl rfl rfl trivial ?_
    rw [show (i + 1).toNat = 0 by omega, List.drop_zero, Nat.sub_zero, ← mirL_len l]; rfl

theorem list_eqI {α : Type} (d : α) (a b : List α) (h : a.length = b.length) (k : ∀ j, j < a.length → a.getD j d = b.getD j d) : a = b := by
  apply List.ext_getElem h
  intro j h1 h2
  have := k j h1
  simpa [h1, h2] using this
/-- Letters of bars in order. -/
def OrdP (s : List UInt8) : Prop := ∀ i, i < s.length → 97 ≤ (s.getD i 0).toNat ∧ (s.getD i 0).toNat ≤ 103 ∧ (0 < i → (s.getD (i - 1) 0).toNat < (s.getD i 0).toNat)
instance (s : List UInt8) : Decidable (OrdP s) := by unfold OrdP; infer_instance
def orF (s : List UInt8) : Nat := s.foldl (fun c b => c ||| 2 ^ (b.toNat - 97)) 0
theorem orF_snoc (s : List UInt8) {k : Nat} (h : k < s.length) : orF (s.take (k + 1)) = orF (s.take k) ||| 2 ^ ((s.getD k 0).toNat - 97) := by
  unfold orF; rw [foldl_take _ 0 _ _ h]
theorem or7 {a k : Nat} (ha : a < 128) (hk : k ≤ 6) : a ||| 2 ^ k < 128 := by
  have : 2 ^ k < 2 ^ 7 := Nat.pow_lt_pow_right (by omega) (by omega)
  exact @Nat.or_lt_two_pow a (2 ^ k) 7 (by omega) this
theorem orF_lt (s : List UInt8) (h : OrdP s) : ∀ k, k ≤ s.length → orF (s.take k) < 128
  | 0, _ => by rw [List.take_zero]; decide
  | k + 1, hk => by
    rw [orF_snoc s (by omega)]
    have h1 := (h k (by omega)).2.1
    exact or7 (orF_lt s h k (by omega)) (by omega)
theorem orF_all {s : List UInt8} (h : OrdP s) : orF s < 128 := by have := orF_lt s h s.length (Nat.le_refl _); rwa [List.take_length] at this
def pieceT (x : Int) : List UInt8 := (if x = 0 then [45] else []) ++ bars7 x.toNat
def textG (l : List Int) : Nat → List UInt8
  | 0 => []
  | k + 1 => (if 0 < k then textG l k ++ [32] else []) ++ pieceT (l.getD k 0)
def textF (l : List Int) : List UInt8 := textG l l.length
theorem bars7_len (n : Nat) : (bars7 n).length ≤ 7 := by
  unfold bars7
  rw [List.length_map]
  exact Nat.le_trans (List.length_filter_le _ _) (by simp)
theorem textG_len (l : List Int) : ∀ k, (textG l k).length ≤ 9 * k
  | 0 => by simp [textG]
  | k + 1 => by
    have := textG_len l k
    have h2 := bars7_len (l.getD k 0).toNat
    rw [textG]
    by_cases hk : 0 < k
    · rw [if_pos hk]; unfold pieceT; split <;> simp only [List.length_append, List.length_cons, List.length_nil] <;> omega
    · rw [if_neg hk]; unfold pieceT; split <;> simp only [List.length_append, List.length_cons, List.length_nil] <;> omega


def ltrT : List Int := [119, 124, 57, 94, 121, 113, 116, 30, 56, 84, 92, 115, 80, 120, 28, 110]
def ltrS : List UInt8 := [97, 98, 99, 100, 101, 102, 104, 106, 108, 110, 111, 112, 114, 116, 117, 121]
/-- The place of a letter, and of a cell, or -1. -/
def plR (r : Int) : Int := if r = 97 then 0 else if r = 98 then 1 else if r = 99 then 2 else if r = 100 then 3 else if r = 101 then 4 else if r = 102 then 5 else if r = 104 then 6 else if r = 106 then 7 else if r = 108 then 8 else if r = 110 then 9 else if r = 111 then 10 else if r = 112 then 11 else if r = 114 then 12 else if r = 116 then 13 else if r = 117 then 14 else if r = 121 then 15 else -1
def rdC (c : Int) : Int := if c = 119 then 0 else if c = 124 then 1 else if c = 57 then 2 else if c = 94 then 3 else if c = 121 then 4 else if c = 113 then 5 else if c = 116 then 6 else if c = 30 then 7 else if c = 56 then 8 else if c = 84 then 9 else if c = 92 then 10 else if c = 115 then 11 else if c = 80 then 12 else if c = 120 then 13 else if c = 28 then 14 else if c = 110 then 15 else -1
def plB (b : UInt8) : Int := plR b.toNat
theorem plR_le (r : Int) : -1 ≤ plR r ∧ plR r ≤ 15 := by
  unfold plR
  repeat' split
  all_goals omega
theorem rdC_le (r : Int) : -1 ≤ rdC r ∧ rdC r ≤ 15 := by
  unfold rdC
  repeat' split
  all_goals omega
theorem plB_le (b : UInt8) : -1 ≤ plB b ∧ plB b ≤ 15 := plR_le _
theorem lt16 {k : Int} (h0 : 0 ≤ k) (h1 : k ≤ 15) : k = 0 ∨ k = 1 ∨ k = 2 ∨ k = 3 ∨ k = 4 ∨ k = 5 ∨ k = 6 ∨ k = 7 ∨ k = 8 ∨ k = 9 ∨ k = 10 ∨ k = 11 ∨ k = 12 ∨ k = 13 ∨ k = 14 ∨ k = 15 := by omega
theorem ltr_pl {k : Int} (h0 : 0 ≤ k) (h1 : k ≤ 15) : plR ((ltrS.getD k.toNat 0).toNat : Int) = k := by
  rcases lt16 h0 h1 with rfl | rfl | rfl | rfl | rfl | rfl | rfl | rfl | rfl | rfl | rfl | rfl | rfl | rfl | rfl | rfl <;> rfl
theorem ltr_rd {k : Int} (h0 : 0 ≤ k) (h1 : k ≤ 15) : rdC (ltrT.getD k.toNat 0) = k := by
  rcases lt16 h0 h1 with rfl | rfl | rfl | rfl | rfl | rfl | rfl | rfl | rfl | rfl | rfl | rfl | rfl | rfl | rfl | rfl <;> rfl
theorem plR_at {k r : Int} (h0 : 0 ≤ k) (h1 : k ≤ 15) (h : ((ltrS.getD k.toNat 0).toNat : Int) = r) : plR r = k := by subst h; exact ltr_pl h0 h1
theorem rdC_at {k c : Int} (h0 : 0 ≤ k) (h1 : k ≤ 15) (h : ltrT.getD k.toNat 0 = c) : rdC c = k := by subst h; exact ltr_rd h0 h1
theorem plR_cs {r k : Int} (hk : plR r = k) : (r = 97 ∧ k = 0) ∨ (r = 98 ∧ k = 1) ∨ (r = 99 ∧ k = 2) ∨ (r = 100 ∧ k = 3) ∨ (r = 101 ∧ k = 4) ∨ (r = 102 ∧ k = 5) ∨ (r = 104 ∧ k = 6) ∨ (r = 106 ∧ k = 7) ∨ (r = 108 ∧ k = 8) ∨ (r = 110 ∧ k = 9) ∨ (r = 111 ∧ k = 10) ∨ (r = 112 ∧ k = 11) ∨ (r = 114 ∧ k = 12) ∨ (r = 116 ∧ k = 13) ∨ (r = 117 ∧ k = 14) ∨ (r = 121 ∧ k = 15) ∨ k = -1 := by
  unfold plR at hk
  by_cases h : r = 97
  · rw [if_pos h] at hk; exact .inl ⟨h, hk.symm⟩
  rw [if_neg h] at hk; refine .inr ?_; clear h
  by_cases h : r = 98
  · rw [if_pos h] at hk; exact .inl ⟨h, hk.symm⟩
  rw [if_neg h] at hk; refine .inr ?_; clear h
  by_cases h : r = 99
  · rw [if_pos h] at hk; exact .inl ⟨h, hk.symm⟩
  rw [if_neg h] at hk; refine .inr ?_; clear h
  by_cases h : r = 100
  · rw [if_pos h] at hk; exact .inl ⟨h, hk.symm⟩
  rw [if_neg h] at hk; refine .inr ?_; clear h
  by_cases h : r = 101
  · rw [if_pos h] at hk; exact .inl ⟨h, hk.symm⟩
  rw [if_neg h] at hk; refine .inr ?_; clear h
  by_cases h : r = 102
  · rw [if_pos h] at hk; exact .inl ⟨h, hk.symm⟩
  rw [if_neg h] at hk; refine .inr ?_; clear h
  by_cases h : r = 104
  · rw [if_pos h] at hk; exact .inl ⟨h, hk.symm⟩
  rw [if_neg h] at hk; refine .inr ?_; clear h
  by_cases h : r = 106
  · rw [if_pos h] at hk; exact .inl ⟨h, hk.symm⟩
  rw [if_neg h] at hk; refine .inr ?_; clear h
  by_cases h : r = 108
  · rw [if_pos h] at hk; exact .inl ⟨h, hk.symm⟩
  rw [if_neg h] at hk; refine .inr ?_; clear h
  by_cases h : r = 110
  · rw [if_pos h] at hk; exact .inl ⟨h, hk.symm⟩
  rw [if_neg h] at hk; refine .inr ?_; clear h
  by_cases h : r = 111
  · rw [if_pos h] at hk; exact .inl ⟨h, hk.symm⟩
  rw [if_neg h] at hk; refine .inr ?_; clear h
  by_cases h : r = 112
  · rw [if_pos h] at hk; exact .inl ⟨h, hk.symm⟩
  rw [if_neg h] at hk; refine .inr ?_; clear h
  by_cases h : r = 114
  · rw [if_pos h] at hk; exact .inl ⟨h, hk.symm⟩
  rw [if_neg h] at hk; refine .inr ?_; clear h
  by_cases h : r = 116
  · rw [if_pos h] at hk; exact .inl ⟨h, hk.symm⟩
  rw [if_neg h] at hk; refine .inr ?_; clear h
  by_cases h : r = 117
  · rw [if_pos h] at hk; exact .inl ⟨h, hk.symm⟩
  rw [if_neg h] at hk; refine .inr ?_; clear h
  by_cases h : r = 121
  · rw [if_pos h] at hk; exact .inl ⟨h, hk.symm⟩
  rw [if_neg h] at hk; refine .inr ?_; clear h
  exact hk.symm
theorem rdC_cs {c k : Int} (hk : rdC c = k) : (c = 119 ∧ k = 0) ∨ (c = 124 ∧ k = 1) ∨ (c = 57 ∧ k = 2) ∨ (c = 94 ∧ k = 3) ∨ (c = 121 ∧ k = 4) ∨ (c = 113 ∧ k = 5) ∨ (c = 116 ∧ k = 6) ∨ (c = 30 ∧ k = 7) ∨ (c = 56 ∧ k = 8) ∨ (c = 84 ∧ k = 9) ∨ (c = 92 ∧ k = 10) ∨ (c = 115 ∧ k = 11) ∨ (c = 80 ∧ k = 12) ∨ (c = 120 ∧ k = 13) ∨ (c = 28 ∧ k = 14) ∨ (c = 110 ∧ k = 15) ∨ k = -1 := by
  unfold rdC at hk
  by_cases h : c = 119
  · rw [if_pos h] at hk; exact .inl ⟨h, hk.symm⟩
  rw [if_neg h] at hk; refine .inr ?_; clear h
  by_cases h : c = 124
  · rw [if_pos h] at hk; exact .inl ⟨h, hk.symm⟩
  rw [if_neg h] at hk; refine .inr ?_; clear h
  by_cases h : c = 57
  · rw [if_pos h] at hk; exact .inl ⟨h, hk.symm⟩
  rw [if_neg h] at hk; refine .inr ?_; clear h
  by_cases h : c = 94
  · rw [if_pos h] at hk; exact .inl ⟨h, hk.symm⟩
  rw [if_neg h] at hk; refine .inr ?_; clear h
  by_cases h : c = 121
  · rw [if_pos h] at hk; exact .inl ⟨h, hk.symm⟩
  rw [if_neg h] at hk; refine .inr ?_; clear h
  by_cases h : c = 113
  · rw [if_pos h] at hk; exact .inl ⟨h, hk.symm⟩
  rw [if_neg h] at hk; refine .inr ?_; clear h
  by_cases h : c = 116
  · rw [if_pos h] at hk; exact .inl ⟨h, hk.symm⟩
  rw [if_neg h] at hk; refine .inr ?_; clear h
  by_cases h : c = 30
  · rw [if_pos h] at hk; exact .inl ⟨h, hk.symm⟩
  rw [if_neg h] at hk; refine .inr ?_; clear h
  by_cases h : c = 56
  · rw [if_pos h] at hk; exact .inl ⟨h, hk.symm⟩
  rw [if_neg h] at hk; refine .inr ?_; clear h
  by_cases h : c = 84
  · rw [if_pos h] at hk; exact .inl ⟨h, hk.symm⟩
  rw [if_neg h] at hk; refine .inr ?_; clear h
  by_cases h : c = 92
  · rw [if_pos h] at hk; exact .inl ⟨h, hk.symm⟩
  rw [if_neg h] at hk; refine .inr ?_; clear h
  by_cases h : c = 115
  · rw [if_pos h] at hk; exact .inl ⟨h, hk.symm⟩
  rw [if_neg h] at hk; refine .inr ?_; clear h
  by_cases h : c = 80
  · rw [if_pos h] at hk; exact .inl ⟨h, hk.symm⟩
  rw [if_neg h] at hk; refine .inr ?_; clear h
  by_cases h : c = 120
  · rw [if_pos h] at hk; exact .inl ⟨h, hk.symm⟩
  rw [if_neg h] at hk; refine .inr ?_; clear h
  by_cases h : c = 28
  · rw [if_pos h] at hk; exact .inl ⟨h, hk.symm⟩
  rw [if_neg h] at hk; refine .inr ?_; clear h
  by_cases h : c = 110
  · rw [if_pos h] at hk; exact .inl ⟨h, hk.symm⟩
  rw [if_neg h] at hk; refine .inr ?_; clear h
  exact hk.symm
theorem pl_back {r : Int} (h : 0 ≤ plR r) : ((ltrS.getD (plR r).toNat 0).toNat : Int) = r := by
  rcases plR_cs (r := r) rfl with ⟨h1, h2⟩ | ⟨h1, h2⟩ | ⟨h1, h2⟩ | ⟨h1, h2⟩ | ⟨h1, h2⟩ | ⟨h1, h2⟩ | ⟨h1, h2⟩ | ⟨h1, h2⟩ | ⟨h1, h2⟩ | ⟨h1, h2⟩ | ⟨h1, h2⟩ | ⟨h1, h2⟩ | ⟨h1, h2⟩ | ⟨h1, h2⟩ | ⟨h1, h2⟩ | ⟨h1, h2⟩ | h2 <;> first | omega | (rw [h2, h1]; rfl)
theorem rd_back {c : Int} (h : 0 ≤ rdC c) : ltrT.getD (rdC c).toNat 0 = c := by
  rcases rdC_cs (c := c) rfl with ⟨h1, h2⟩ | ⟨h1, h2⟩ | ⟨h1, h2⟩ | ⟨h1, h2⟩ | ⟨h1, h2⟩ | ⟨h1, h2⟩ | ⟨h1, h2⟩ | ⟨h1, h2⟩ | ⟨h1, h2⟩ | ⟨h1, h2⟩ | ⟨h1, h2⟩ | ⟨h1, h2⟩ | ⟨h1, h2⟩ | ⟨h1, h2⟩ | ⟨h1, h2⟩ | ⟨h1, h2⟩ | h2 <;> first | omega | (rw [h2, h1]; rfl)
theorem plR_none {r : Int} (h : ∀ j : Nat, j < 16 → ((ltrS.getD j 0).toNat : Int) ≠ r) : plR r = -1 := by
  rcases Int.lt_or_le (plR r) 0 with k | k
  · have := plR_le r; omega
  · have h2 := plR_le r
    exact absurd (pl_back k) (h (plR r).toNat (by omega))
theorem rdC_none {c : Int} (h : ∀ j : Nat, j < 16 → ltrT.getD j 0 ≠ c) : rdC c = -1 := by
  rcases Int.lt_or_le (rdC c) 0 with k | k
  · have := rdC_le c; omega
  · have h2 := rdC_le c
    exact absurd (rd_back k) (h (rdC c).toNat (by omega))
theorem ltrT_cell (n : Nat) : 0 ≤ ltrT.getD n 0 ∧ ltrT.getD n 0 ≤ 127 := by
  by_cases h : n < 16
  · have : n = 0 ∨ n = 1 ∨ n = 2 ∨ n = 3 ∨ n = 4 ∨ n = 5 ∨ n = 6 ∨ n = 7 ∨ n = 8 ∨ n = 9 ∨ n = 10 ∨ n = 11 ∨ n = 12 ∨ n = 13 ∨ n = 14 ∨ n = 15 := by omega
    rcases this with rfl | rfl | rfl | rfl | rfl | rfl | rfl | rfl | rfl | rfl | rfl | rfl | rfl | rfl | rfl | rfl <;> decide
  · have : ltrT.getD n 0 = 0 := by unfold List.getD; rw [List.getElem?_eq_none (by simp [ltrT]; omega)]; rfl
    rw [this]; omega
def LtP (s : List UInt8) : Prop := ∀ b ∈ s, 0 ≤ plB b
instance (s : List UInt8) : Decidable (LtP s) := by unfold LtP; infer_instance
theorem LtP.at {s : List UInt8} (h : LtP s) {j : Nat} (hj : j < s.length) : 0 ≤ plB (s.getD j 0) := by
  have : s.getD j 0 = s[j] := by simp [hj]
  rw [this]; exact h _ (List.getElem_mem hj)
theorem LtP.of {s : List UInt8} (h : ∀ j, j < s.length → 0 ≤ plB (s.getD j 0)) : LtP s := fun x hx => by
  obtain ⟨j, hj, rfl⟩ := List.getElem_of_mem hx
  have := h j hj
  simpa [hj] using this
def WrdP (s : List UInt8) (m : Int) : Prop := (s.length : Int) ≤ m ∧ LtP s
instance (s : List UInt8) (m : Int) : Decidable (WrdP s m) := by unfold WrdP; infer_instance
def cellW (b : UInt8) : Int := ltrT.getD (plB b).toNat 0
def rowW (s : List UInt8) : List Int := s.map cellW
theorem rowW_len (s : List UInt8) : (rowW s).length = s.length := by simp [rowW]
theorem cellW_cell (b : UInt8) : 0 ≤ cellW b ∧ cellW b ≤ 127 := ltrT_cell _
theorem rowW_cells (s : List UInt8) : ∀ x ∈ rowW s, 0 ≤ x ∧ x ≤ 127 := fun x hx => by
  obtain ⟨b, _, rfl⟩ := List.mem_map.1 hx
  exact cellW_cell b
theorem rowW_row {s : List UInt8} (h : s.length ≤ 6) : RowP (rowW s) := ⟨by rw [rowW_len]; exact h, rowW_cells s⟩
theorem rowW_at (s : List UInt8) (j : Nat) : 0 ≤ (rowW s).getD j 0 ∧ (rowW s).getD j 0 ≤ 127 := by
  by_cases h : j < (rowW s).length
  · have : (rowW s).getD j 0 = (rowW s)[j] := by simp [h]
    rw [this]; exact rowW_cells s _ (List.getElem_mem h)
  · have : (rowW s).getD j 0 = 0 := by unfold List.getD; rw [List.getElem?_eq_none (by omega)]; rfl
    rw [this]; omega
def SpP (l : List Int) : Prop := ∀ x ∈ l, 0 ≤ rdC x
instance (l : List Int) : Decidable (SpP l) := by unfold SpP; infer_instance
theorem SpP.at {l : List Int} (h : SpP l) {j : Nat} (hj : j < l.length) : 0 ≤ rdC (l.getD j 0) := by
  have : l.getD j 0 = l[j] := by simp [hj]
  rw [this]; exact h _ (List.getElem_mem hj)
theorem SpP.of {l : List Int} (h : ∀ j, j < l.length → 0 ≤ rdC (l.getD j 0)) : SpP l := fun x hx => by
  obtain ⟨j, hj, rfl⟩ := List.getElem_of_mem hx
  have := h j hj
  simpa [hj] using this
def letC (c : Int) : UInt8 := ltrS.getD (rdC c).toNat 0
def spT (l : List Int) : List UInt8 := l.map letC
theorem spT_len (l : List Int) : (spT l).length = l.length := by simp [spT]
theorem cut1 (k : Nat) (h : k < 16) : (ltrS.drop k).take 1 = [ltrS.getD k 0] := by
  have : k = 0 ∨ k = 1 ∨ k = 2 ∨ k = 3 ∨ k = 4 ∨ k = 5 ∨ k = 6 ∨ k = 7 ∨ k = 8 ∨ k = 9 ∨ k = 10 ∨ k = 11 ∨ k = 12 ∨ k = 13 ∨ k = 14 ∨ k = 15 := by omega
  rcases this with rfl | rfl | rfl | rfl | rfl | rfl | rfl | rfl | rfl | rfl | rfl | rfl | rfl | rfl | rfl | rfl <;> rfl
theorem cutL {k : Int} (h0 : 0 ≤ k) (h1 : k ≤ 15) : (ltrS.drop k.toNat).take ((k + 1).toNat - k.toNat) = [ltrS.getD k.toNat 0] := by
  rw [show (k + 1).toNat - k.toNat = 1 by omega, cut1 _ (by omega)]
/-- A letter has all bars of a cell. -/
def hasC (k : Nat) (c : Int) : Bool := Nat.beq ((ltrT.getD k 0).toNat &&& c.toNat) c.toNat
def canI (c : Int) : Nat → List Int
  | 0 => []
  | k + 1 => if hasC k c = true then canI c k ++ [(k : Int)] else canI c k
theorem canI_succ (c : Int) (k : Nat) : canI c (k + 1) = if hasC k c = true then canI c k ++ [(k : Int)] else canI c k := rfl
theorem canI_len (c : Int) : ∀ k, (canI c k).length ≤ k
  | 0 => by simp [canI]
  | k + 1 => by
    have := canI_len c k
    unfold canI
    split <;> simp <;> omega
theorem canI_lt (c : Int) : ∀ k, ∀ x ∈ canI c k, 0 ≤ x ∧ x < k
  | 0, x, h => by simp [canI] at h
  | k + 1, x, h => by
    have ih := canI_lt c k
    unfold canI at h
    split at h
    · rcases List.mem_append.1 h with h | h
      · have := ih x h; omega
      · simp only [List.mem_singleton] at h; omega
    · have := ih x h; omega
theorem canI_at (c : Int) {j : Nat} (h : j < (canI c 16).length) : 0 ≤ (canI c 16).getD j 0 ∧ (canI c 16).getD j 0 ≤ 15 := by
  have : (canI c 16).getD j 0 = (canI c 16)[j] := by simp [h]
  rw [this]
  have := canI_lt c 16 _ (List.getElem_mem h); omega
/-- How many readings a row has. -/
def cntR : List Int → Nat
  | [] => 1
  | x :: r => (canI x 16).length * cntR r
theorem cntR_app : ∀ a b : List Int, cntR (a ++ b) = cntR a * cntR b
  | [], b => by show cntR b = 1 * cntR b; rw [Nat.one_mul]
  | x :: a, b => by
    show (canI x 16).length * cntR (a ++ b) = (canI x 16).length * cntR a * cntR b
    rw [cntR_app a b, Nat.mul_assoc]
theorem cntR_le : ∀ l : List Int, cntR l ≤ 16 ^ l.length
  | [] => Nat.le_refl _
  | x :: r => by
    have h1 := canI_len x 16
    have h2 := cntR_le r
    show (canI x 16).length * cntR r ≤ 16 ^ (r.length + 1)
    rw [Nat.pow_succ, Nat.mul_comm (16 ^ r.length)]
    exact Nat.mul_le_mul h1 h2
theorem pow16 {k : Nat} (h : k ≤ 6) : 16 ^ k ≤ 16777216 := Nat.pow_le_pow_right (n := 16) (by omega) h
theorem cntR_le6 {l : List Int} (h : l.length ≤ 6) : cntR l ≤ 16777216 := Nat.le_trans (cntR_le l) (pow16 h)
/-- The reading ahead of which there are k others. -/
def letN (n : Int) : UInt8 := ltrS.getD n.toNat 0
def rdT : List Int → Nat → List UInt8
  | [], _ => []
  | x :: r, k => letN ((canI x 16).getD (k / cntR r) 0) :: rdT r (k % cntR r)
theorem rdT_len : ∀ (l : List Int) (k : Nat), (rdT l k).length = l.length
  | [], _ => rfl
  | x :: r, k => by show (rdT r _).length + 1 = r.length + 1; rw [rdT_len r]
/-- The rows of a word that goes through a display. -/
def scC (r : List Int) (j : Int) : Int := if 0 ≤ j ∧ j < r.length then r.getD j.toNat 0 else 0
def scR (r : List Int) (k : Nat) (a : Int) : List Int := (List.range k).map fun (j : Nat) => scC r ((j : Int) - a)
def scL (r : List Int) (k : Nat) : List (List Int) := if r = [] then [] else (List.range (r.length + k - 1)).map fun (m : Nat) => scR r k ((k : Int) - 1 - m)
def qR (M : List (List Int)) : List PV := M.map fun r => .sl r.length (r.map (.int .i64))


set_option maxRecDepth 100000 in
theorem spec_l10Of (c : Int) (h0 : 0 ≤ c) (h1 : c ≤ 15) : PCalls Tryd.prog 48 [.int .i64 c] (· = [.val (.int .i64 (ltrT.getD c.toNat 0))]) := by
  have h := below_int (p := fun i => oneInt (crun Tf.tf noExt 200 6 48 [.int .i64 (Int.ofNat i)]) (ltrT.getD i 0)) (k := 16) (by kernel_rfl) h0 (by omega)
  have e : Int.ofNat c.toNat = c := Int.toNat_of_nonneg h0
  rw [e] at h
  exact pcalls_run Tf.tf (oneInt_ok h)

set_option maxRecDepth 4000 in
theorem spec_l10Place (b : UInt8) : PCalls Tryd.prog 49 [.int .u8 b.toNat] (· = [.val (.int .i64 (plB b))]) := by
  refine pcalls_of_code (n := 13) az Tryd.func49 (by kernel_rfl) rfl rfl (Nat.le_of_ble_eq_true rfl) (by intro t u h; simp [Tryd.f49] at h) ?_
  refine code_seq (fun K1 hK1 => ?_)
  refine code_region ?_
  refine list_cons rfl (op_q (q_assign rfl (by decide)) ?_)
  refine list_nil ?_
  refine hK1 _ ?_; clear hK1 K1
  refine code_seq (fun K2 hK2 => ?_)
  refine code_seq (fun K3 hK3 => ?_)
  refine code_region ?_
  refine list_cons rfl (op_q (q_assign rfl (by decide)) ?_)
  refine list_nil ?_
  refine hK3 _ ?_; clear hK3 K3
  refine code_block ?_
  refine code_loop (X := Int × Int) (fun x => [(0, .val (.int .u8 b.toNat)), (2, .val (.int .i64 x.1)), (3, .val (.int .i64 x.2))]) (fun x => 0 ≤ x.2 ∧ x.2 ≤ 16 ∧ ∀ j : Nat, j < x.2.toNat → ((ltrS.getD j 0).toNat : Int) ≠ b.toNat) (fun x => 16 - x.2.toNat) (_, _) (imp_covers ⟨rfl, rfl, rfl, trivial⟩) ?_ ?_
  · (try dsimp only)
    refine ⟨by omega, by omega, fun j hj => by simp at hj⟩
  · intro x hI
    obtain ⟨t2, k⟩ := x
    replace hI : 0 ≤ k ∧ k ≤ 16 ∧ ∀ j : Nat, j < k.toNat → ((ltrS.getD j 0).toNat : Int) ≠ b.toNat := hI
    show codeT _ _ _ [(0, .val (.int .u8 b.toNat)), (2, .val (.int .i64 t2)), (3, .val (.int .i64 k))] _
    obtain ⟨i1, i2, i3⟩ := hI
    have hL : ltrS.length = 16 := rfl
    refine code_seq (fun K4 hK4 => ?_)
    refine code_seq (fun K5 hK5 => ?_)
    refine code_region ?_
    refine list_cons rfl (op_q (q_move rfl (by decide)) ?_)
    refine list_cons rfl (op_q (q_lt rfl rfl (by decide)) ?_)
    refine list_nil ?_
    refine hK5 _ ?_; clear hK5 K5
    refine code_cond_d rfl (fun h1 => ?_) (fun h1 => ?_)
    · skip
      (try simp only [Decidable.not_not] at h1)
      refine code_skip ?_
      refine hK4 _ ?_; clear hK4 K4
      refine code_seq (fun K6 hK6 => ?_)
      refine code_block ?_
      refine code_seq (fun K7 hK7 => ?_)
      refine code_region ?_
      refine list_cons rfl (op_q (q_move rfl (by decide)) ?_)
      refine list_cons rfl (op_q (q_index_str Tryd.underlying9 rfl rfl (by omega) (by omega) (by decide)) ?_)
      refine list_cons rfl (op_q (q_move rfl (by decide)) ?_)
      refine list_cons rfl (op_q (q_eq rfl rfl (by decide)) ?_)
      refine list_nil ?_
      refine hK7 _ ?_; clear hK7 K7
      refine code_cond_d rfl (fun h2 => ?_) (fun h2 => ?_)
      · skip
        (try simp only [Decidable.not_not] at h2)
        refine code_seq (fun K8 hK8 => ?_)
        refine code_region ?_
        refine list_cons rfl (op_q (q_move rfl (by decide)) ?_)
        refine list_cons rfl (op_q (q_assign rfl (by decide)) ?_)
        refine list_nil ?_
        refine hK8 _ ?_; clear hK8 K8
        refine codeT.imp (σ' := [(0, _), (2, _), (3, _)]) ?_ (imp_covers ⟨rfl, rfl, rfl, trivial⟩)
        refine code_ret ?_
        refine blk_r ?_
        refine then_r ?_; clear hK6 K6
        refine then_r ?_
        refine blk_r ?_
        refine then_r ?_; clear hK2 K2
        refine ends_ret (cs := []) rfl rfl rfl rfl trivial ?_
        first
          | (rw [show plB b = k from plR_at (by omega) (by omega) h2]; done)
          | (rw [show plB b = -1 from plR_none fun j hj => i3 j (by omega)]; done)
      (try simp only [Decidable.not_not] at h2)
      refine code_skip ?_
      refine blk_n ?_
      refine hK6 _ ?_; clear hK6 K6
      refine code_region ?_
      refine list_cons rfl (op_q (q_move rfl (by decide)) ?_)
      refine list_cons rfl (op_q (by first | exact q_addI rfl rfl (by decide) (by omega) (by omega) | exact q_ib rfl rfl rfl (by decide)) ?_)
      refine list_cons rfl (op_q (q_assign rfl (by decide)) ?_)
      refine list_nil ?_
      refine then_n ⟨(_, _), imp_covers ⟨rfl, rfl, rfl, trivial⟩, ?_, ?_⟩
      · (try dsimp only)
        refine ⟨by omega, by omega, fun j hj => ?_⟩
        by_cases e : j = k.toNat
        · subst e; exact h2
        · exact i3 j (by omega)
      · (try dsimp only); omega
    (try simp only [Decidable.not_not] at h1)
    refine code_exit ?_
    refine then_x ?_; clear hK4 K4
    refine then_x ?_
    refine blk_hit ?_
    refine hK2 _ ?_; clear hK2 K2
    refine code_seq (fun K9 hK9 => ?_)
    refine code_region ?_
    refine list_cons rfl (op_q (q_assign rfl (by decide)) ?_)
    refine list_nil ?_
    refine hK9 _ ?_; clear hK9 K9
    refine code_ret ?_
    refine ends_ret (cs := []) rfl rfl rfl rfl trivial ?_
    first
      | (rw [show plB b = k from plR_at (by omega) (by omega) h1]; done)
      | (rw [show plB b = -1 from plR_none fun j hj => i3 j (by omega)]; done)

set_option maxRecDepth 4000 in
theorem spec_l10Read (c : Int) : PCalls Tryd.prog 50 [.int .i64 c] (· = [.val (.int .i64 (rdC c))]) := by
  refine pcalls_of_code (n := 13) az Tryd.func50 (by kernel_rfl) rfl rfl (Nat.le_of_ble_eq_true rfl) (by intro t u h; simp [Tryd.f50] at h) ?_
  refine code_seq (fun K1 hK1 => ?_)
  refine code_region ?_
  refine list_cons rfl (op_q (q_assign rfl (by decide)) ?_)
  refine list_nil ?_
  refine hK1 _ ?_; clear hK1 K1
  refine code_seq (fun K2 hK2 => ?_)
  refine code_seq (fun K3 hK3 => ?_)
  refine code_region ?_
  refine list_cons rfl (op_q (q_assign rfl (by decide)) ?_)
  refine list_nil ?_
  refine hK3 _ ?_; clear hK3 K3
  refine code_block ?_
  refine code_loop (X := Int × Int) (fun x => [(0, .val (.int .i64 c)), (2, .val (.int .i64 x.1)), (3, .val (.int .i64 x.2))]) (fun x => 0 ≤ x.2 ∧ x.2 ≤ 16 ∧ ∀ j : Nat, j < x.2.toNat → ltrT.getD j 0 ≠ c) (fun x => 16 - x.2.toNat) (_, _) (imp_covers ⟨rfl, rfl, rfl, trivial⟩) ?_ ?_
  · (try dsimp only)
    refine ⟨by omega, by omega, fun j hj => by simp at hj⟩
  · intro x hI
    obtain ⟨t2, k⟩ := x
    replace hI : 0 ≤ k ∧ k ≤ 16 ∧ ∀ j : Nat, j < k.toNat → ltrT.getD j 0 ≠ c := hI
    show codeT _ _ _ [(0, .val (.int .i64 c)), (2, .val (.int .i64 t2)), (3, .val (.int .i64 k))] _
    obtain ⟨i1, i2, i3⟩ := hI
    refine code_seq (fun K4 hK4 => ?_)
    refine code_seq (fun K5 hK5 => ?_)
    refine code_region ?_
    refine list_cons rfl (op_q (q_move rfl (by decide)) ?_)
    refine list_cons rfl (op_q (q_lt rfl rfl (by decide)) ?_)
    refine list_nil ?_
    refine hK5 _ ?_; clear hK5 K5
    refine code_cond_d rfl (fun h1 => ?_) (fun h1 => ?_)
    · skip
      (try simp only [Decidable.not_not] at h1)
      refine code_skip ?_
      refine hK4 _ ?_; clear hK4 K4
      refine code_seq (fun K6 hK6 => ?_)
      refine code_block ?_
      refine code_seq (fun K7 hK7 => ?_)
      refine code_region ?_
      refine list_cons rfl (op_q (q_move rfl (by decide)) ?_)
      refine list_cons rfl (op_call _ (spec_l10Of _ (by omega) (by omega)) rfl rfl (by decide) (by decide) (by decide) rfl ?_)
      rintro _ rfl
      refine list_cons rfl (op_q (q_move rfl (by decide)) ?_)
      refine list_cons rfl (op_q (q_eq rfl rfl (by decide)) ?_)
      refine list_nil ?_
      refine hK7 _ ?_; clear hK7 K7
      refine codeT.imp (σ' := [(0, _), (2, _), (3, _), (11, _)]) ?_ (imp_covers ⟨rfl, rfl, rfl, rfl, trivial⟩)
      refine code_cond_d rfl (fun h2 => ?_) (fun h2 => ?_)
      · skip
        (try simp only [Decidable.not_not] at h2)
        refine code_seq (fun K8 hK8 => ?_)
        refine code_region ?_
        refine list_cons rfl (op_q (q_move rfl (by decide)) ?_)
        refine list_cons rfl (op_q (q_assign rfl (by decide)) ?_)
        refine list_nil ?_
        refine hK8 _ ?_; clear hK8 K8
        refine code_ret ?_
        refine blk_r ?_
        refine then_r ?_; clear hK6 K6
        refine then_r ?_
        refine blk_r ?_
        refine then_r ?_; clear hK2 K2
        refine ends_ret (cs := []) rfl rfl rfl rfl trivial ?_
        first
          | (rw [rdC_at (by omega) (by omega) h2]; done)
          | (rw [rdC_none fun j hj => i3 j (by omega)]; done)
      (try simp only [Decidable.not_not] at h2)
      refine code_skip ?_
      refine blk_n ?_
      refine hK6 _ ?_; clear hK6 K6
      refine code_region ?_
      refine list_cons rfl (op_q (q_move rfl (by decide)) ?_)
      refine list_cons rfl (op_q (by first | exact q_addI rfl rfl (by decide) (by omega) (by omega) | exact q_ib rfl rfl rfl (by decide)) ?_)
      refine list_cons rfl (op_q (q_assign rfl (by decide)) ?_)
      refine list_nil ?_
      refine then_n ⟨(_, _), imp_covers ⟨rfl, rfl, rfl, trivial⟩, ?_, ?_⟩
      · (try dsimp only)
        refine ⟨by omega, by omega, fun j hj => ?_⟩
        by_cases e : j = k.toNat
        · subst e; exact h2
        · exact i3 j (by omega)
      · (try dsimp only); omega
    (try simp only [Decidable.not_not] at h1)
    refine code_exit ?_
    refine then_x ?_; clear hK4 K4
    refine then_x ?_
    refine blk_hit ?_
    refine hK2 _ ?_; clear hK2 K2
    refine code_seq (fun K9 hK9 => ?_)
    refine code_region ?_
    refine list_cons rfl (op_q (q_assign rfl (by decide)) ?_)
    refine list_nil ?_
    refine hK9 _ ?_; clear hK9 K9
    refine code_ret ?_
    refine ends_ret (cs := []) rfl rfl rfl rfl trivial ?_
    first
      | (rw [rdC_at (by omega) (by omega) h1]; done)
      | (rw [rdC_none fun j hj => i3 j (by omega)]; done)

set_option maxRecDepth 4000 in
theorem spec_l10Word (s : List UInt8) (m : Int) (hs : s.length ≤ 4611686018427387904) (h0 : 0 ≤ m) (h1 : m ≤ 1000) : PCalls Tryd.prog 46 [.str s, .int .i64 m] (· = [.val (.bool (decide (WrdP s m)))]) := by
  refine pcalls_of_code (n := 26) az Tryd.func46 (by kernel_rfl) rfl rfl (Nat.le_of_ble_eq_true rfl) (by intro t u h; simp [Tryd.f46] at h) ?_
  refine code_seq (fun K1 hK1 => ?_)
  refine code_region ?_
  refine list_cons rfl (op_q (q_assign rfl (by decide)) ?_)
  refine list_nil ?_
  refine hK1 _ ?_; clear hK1 K1
  refine code_seq (fun K2 hK2 => ?_)
  refine code_seq (fun K3 hK3 => ?_)
  refine code_region ?_
  refine list_cons rfl (op_q (q_assign rfl (by decide)) ?_)
  refine list_nil ?_
  refine hK3 _ ?_; clear hK3 K3
  refine code_block ?_
  refine code_loop (X := Bool × Int) (fun x => [(0, .val (.str s)), (1, .val (.int .i64 m)), (4, .val (.bool x.1)), (5, .val (.int .i64 x.2))]) (fun x => 0 ≤ x.2 ∧ x.2 ≤ s.length ∧ x.2 ≤ m + 1 ∧ ∀ j, j < x.2.toNat → 0 ≤ plB (s.getD j 0)) (fun x => s.length - x.2.toNat) (_, _) (imp_covers ⟨rfl, rfl, rfl, rfl, trivial⟩) ?_ ?_
  · (try dsimp only)
    refine ⟨by omega, by omega, by omega, fun j hj => by simp at hj⟩
  · intro x hI
    obtain ⟨t4, i⟩ := x
    replace hI : 0 ≤ i ∧ i ≤ s.length ∧ i ≤ m + 1 ∧ ∀ j, j < i.toNat → 0 ≤ plB (s.getD j 0) := hI
    show codeT _ _ _ [(0, .val (.str s)), (1, .val (.int .i64 m)), (4, .val (.bool t4)), (5, .val (.int .i64 i))] _
    obtain ⟨i1, i2, i2m, i3⟩ := hI
    refine code_seq (fun K4 hK4 => ?_)
    refine code_seq (fun K5 hK5 => ?_)
    refine code_region ?_
    refine list_cons rfl (op_q (q_move rfl (by decide)) ?_)
    refine list_cons rfl (op_q (q_move rfl (by decide)) ?_)
    refine list_cons rfl (op_q (q_len_str Tryd.underlying9 rfl (by decide)) ?_)
    refine list_cons rfl (op_q (q_lt rfl rfl (by decide)) ?_)
    refine list_cons rfl (op_q (q_move rfl (by decide)) ?_)
    refine list_guard_d rfl rfl rfl rfl (by decide) rfl (by decide) (fun h1 => ?_) (fun h1 => ?_)
    · simp only [Bool.false_eq_true, if_true, if_false, Decidable.not_not] at h1
      refine id (op_q (q_move rfl (by decide)) ?_)
      refine list_guard_y rfl rfl rfl rfl (by decide) rfl ?_
      refine id (op_q (q_move rfl (by decide)) ?_)
      refine list_guard_y rfl rfl rfl rfl (by decide) rfl ?_
      refine id (op_q (q_le rfl rfl (by decide)) ?_)
      refine list_cons rfl (op_q (q_pick rfl rfl (by decide)) ?_)
      refine list_nil ?_
      refine hK5 _ ?_; clear hK5 K5
      refine codeT.imp (σ' := [(0, _), (1, _), (4, _), (5, _), (14, _)]) ?_ (imp_covers ⟨rfl, rfl, rfl, rfl, rfl, trivial⟩)
      refine code_cond_d rfl (fun h2 => ?_) (fun h2 => ?_)
      · skip
        (try simp only [Decidable.not_not] at h2)
        refine code_skip ?_
        refine hK4 _ ?_; clear hK4 K4
        refine code_seq (fun K6 hK6 => ?_)
        refine code_block ?_
        refine code_seq (fun K7 hK7 => ?_)
        refine code_region ?_
        refine list_cons rfl (op_q (q_move rfl (by decide)) ?_)
        refine list_cons rfl (op_q (q_move rfl (by decide)) ?_)
        refine list_cons rfl (op_q (q_index_str Tryd.underlying9 rfl rfl (by omega) (by omega) (by decide)) ?_)
        refine list_cons rfl (op_call _ (spec_l10Place _) rfl rfl (by decide) (by decide) (by decide) rfl ?_)
        rintro _ rfl
        refine list_cons rfl (op_q (q_lt rfl rfl (by decide)) ?_)
        refine list_nil ?_
        refine hK7 _ ?_; clear hK7 K7
        refine codeT.imp (σ' := [(0, _), (1, _), (4, _), (5, _), (21, _)]) ?_ (imp_covers ⟨rfl, rfl, rfl, rfl, rfl, trivial⟩)
        refine code_cond_d rfl (fun h3 => ?_) (fun h3 => ?_)
        · skip
          (try simp only [Decidable.not_not] at h3)
          refine code_seq (fun K8 hK8 => ?_)
          refine code_region ?_
          refine list_cons rfl (op_q (q_assign rfl (by decide)) ?_)
          refine list_nil ?_
          refine hK8 _ ?_; clear hK8 K8
          refine code_ret ?_
          refine blk_r ?_
          refine then_r ?_; clear hK6 K6
          refine then_r ?_
          refine blk_r ?_
          refine then_r ?_; clear hK2 K2
          refine ends_ret (cs := []) rfl rfl rfl rfl trivial ?_
          first
            | (have e : ¬ WrdP s m := fun e => by have := e.2.at (j := i.toNat) (by omega); omega
               rw [decide_eq_false e]; done)
            | (have e : ((s.length : Int) ≤ m) ↔ WrdP s m := ⟨fun e => ⟨e, LtP.of fun j hj => i3 j (by omega)⟩, fun e => e.1⟩
               simp only [e]; done)
        (try simp only [Decidable.not_not] at h3)
        refine code_skip ?_
        refine blk_n ?_
        refine hK6 _ ?_; clear hK6 K6
        refine code_region ?_
        refine list_cons rfl (op_q (q_move rfl (by decide)) ?_)
        refine list_cons rfl (op_q (by first | exact q_addI rfl rfl (by decide) (by omega) (by omega) | exact q_ib rfl rfl rfl (by decide)) ?_)
        refine list_cons rfl (op_q (q_assign rfl (by decide)) ?_)
        refine list_nil ?_
        refine then_n ⟨(_, _), imp_covers ⟨rfl, rfl, rfl, rfl, trivial⟩, ?_, ?_⟩
        · (try dsimp only)
          refine ⟨by omega, by omega, by omega, fun j hj => ?_⟩
          by_cases e : j = i.toNat
          · subst e; omega
          · exact i3 j (by omega)
        · (try dsimp only); omega
      (try simp only [Decidable.not_not] at h2)
      refine code_exit ?_
      refine then_x ?_; clear hK4 K4
      refine then_x ?_
      refine blk_hit ?_
      refine hK2 _ ?_; clear hK2 K2
      refine code_seq (fun K9 hK9 => ?_)
      refine code_region ?_
      refine list_cons rfl (op_q (q_move rfl (by decide)) ?_)
      refine list_cons rfl (op_q (q_len_str Tryd.underlying9 rfl (by decide)) ?_)
      refine list_cons rfl (op_q (q_move rfl (by decide)) ?_)
      refine list_cons rfl (op_q (q_le rfl rfl (by decide)) ?_)
      refine list_cons rfl (op_q (q_assign rfl (by decide)) ?_)
      refine list_nil ?_
      refine hK9 _ ?_; clear hK9 K9
      refine code_ret ?_
      refine ends_ret (cs := []) rfl rfl rfl rfl trivial ?_
      first
        | (have e : ¬ WrdP s m := fun e => by have := e.2.at (j := i.toNat) (by omega); omega
           rw [decide_eq_false e]; done)
        | (have e : ((s.length : Int) ≤ m) ↔ WrdP s m := ⟨fun e => ⟨e, LtP.of fun j hj => i3 j (by omega)⟩, fun e => e.1⟩
           simp only [e]; done)
    simp only [Bool.false_eq_true, if_true, if_false, Decidable.not_not] at h1
    refine list_guard_n rfl rfl rfl rfl (by decide) rfl ?_
    refine list_guard_n rfl rfl rfl rfl (by decide) rfl ?_
    refine list_cons rfl (op_q (q_pick rfl rfl (by decide)) ?_)
    refine list_nil ?_
    refine hK5 _ ?_; clear hK5 K5
    refine code_cond_f rfl ?_
    refine code_exit ?_
    refine then_x ?_; clear hK4 K4
    refine then_x ?_
    refine blk_hit ?_
    refine hK2 _ ?_; clear hK2 K2
    refine code_seq (fun K10 hK10 => ?_)
    refine code_region ?_
    refine list_cons rfl (op_q (q_move rfl (by decide)) ?_)
    refine list_cons rfl (op_q (q_len_str Tryd.underlying9 rfl (by decide)) ?_)
    refine list_cons rfl (op_q (q_move rfl (by decide)) ?_)
    refine list_cons rfl (op_q (q_le rfl rfl (by decide)) ?_)
    refine list_cons rfl (op_q (q_assign rfl (by decide)) ?_)
    refine list_nil ?_
    refine hK10 _ ?_; clear hK10 K10
    refine codeT.imp (σ' := [(0, _), (1, _), (4, _), (5, _)]) ?_ (imp_covers ⟨rfl, rfl, rfl, rfl, trivial⟩)
    refine code_ret ?_
    refine ends_ret (cs := []) rfl rfl rfl rfl trivial ?_
    first
      | (have e : ¬ WrdP s m := fun e => by have := e.2.at (j := i.toNat) (by omega); omega
         rw [decide_eq_false e]; done)
      | (have e : ((s.length : Int) ≤ m) ↔ WrdP s m := ⟨fun e => ⟨e, LtP.of fun j hj => i3 j (by omega)⟩, fun e => e.1⟩
         simp only [e]; done)

set_option maxRecDepth 4000 in
theorem spec_IsWord (s : List UInt8) (hs : s.length ≤ 4611686018427387904) : PCalls Tryd.prog 15 [.str s] (· = [.val (.bool (decide (WrdP s 12)))]) := by
  refine pcalls_of_code (n := 5) az Tryd.func15 (by kernel_rfl) rfl rfl (Nat.le_of_ble_eq_true rfl) (by intro t u h; simp [Tryd.f15] at h) ?_
  refine code_seq (fun K1 hK1 => ?_)
  refine code_region ?_
  refine list_cons rfl (op_q (q_assign rfl (by decide)) ?_)
  refine list_nil ?_
  refine hK1 _ ?_; clear hK1 K1
  refine code_seq (fun K2 hK2 => ?_)
  refine code_region ?_
  refine list_cons rfl (op_q (q_move rfl (by decide)) ?_)
  refine list_cons rfl (op_call _ (spec_l10Word _ _ (by first | omega | assumption) (by omega) (by omega)) rfl rfl (by decide) (by decide) (by decide) rfl ?_)
  rintro _ rfl
  refine list_cons rfl (op_q (q_assign rfl (by decide)) ?_)
  refine list_nil ?_
  refine hK2 _ ?_; clear hK2 K2
  refine codeT.imp (σ' := [(0, _), (2, _)]) ?_ (imp_covers ⟨rfl, rfl, trivial⟩)
  refine code_ret ?_
  refine ends_ret (cs := []) rfl rfl rfl rfl trivial ?_
  rfl

set_option maxRecDepth 4000 in
theorem spec_LetterCell (s : List UInt8) (hs : s.length ≤ 4611686018427387904) : PCalls Tryd.prog 17 [.str s] (· = [.val (.int .i64 (if s.length = 1 ∧ LtP s then cellW (s.getD 0 0) else 0)), .val (.bool (decide (s.length = 1 ∧ LtP s)))]) := by
  refine pcalls_of_code (n := 16) az Tryd.func17 (by kernel_rfl) rfl rfl (Nat.le_of_ble_eq_true rfl) (by intro t u h; simp [Tryd.f17] at h) ?_
  have hpb := plB_le (s.getD 0 0)
  refine code_seq (fun K1 hK1 => ?_)
  refine code_region ?_
  refine list_cons rfl (op_q (q_assign rfl (by decide)) ?_)
  refine list_cons rfl (op_q (q_assign rfl (by decide)) ?_)
  refine list_nil ?_
  refine hK1 _ ?_; clear hK1 K1
  refine code_seq (fun K2 hK2 => ?_)
  refine code_seq (fun K3 hK3 => ?_)
  refine code_region ?_
  refine list_cons rfl (op_q (q_move rfl (by decide)) ?_)
  refine list_cons rfl (op_q (q_len_str Tryd.underlying9 rfl (by decide)) ?_)
  refine list_cons rfl (op_q (q_ne rfl rfl (by decide)) ?_)
  refine list_cons rfl (op_q (q_move rfl (by decide)) ?_)
  refine list_guard_d rfl rfl rfl rfl (by decide) rfl (by decide) (fun h1 => ?_) (fun h1 => ?_)
  · simp only [Bool.false_eq_true, if_true, if_false, Decidable.not_not] at h1
    (try simp only [Decidable.not_not] at h1); (try have hLt : LtP s := (h1 : WrdP s 1).2)
    refine id (op_q (q_move rfl (by decide)) ?_)
    refine list_guard_y rfl rfl rfl rfl (by decide) rfl ?_
    refine id (op_call _ (spec_l10Word _ _ (by first | omega | assumption) (by omega) (by omega)) rfl rfl (by decide) (by decide) (by decide) rfl ?_)
    rintro _ rfl
    refine list_guard_y rfl rfl rfl rfl (by decide) rfl ?_
    refine id (op_q (by first | exact q_notd rfl (by decide) | exact q_not rfl (by decide)) ?_)
    refine list_cons rfl (op_q (q_pick rfl rfl (by decide)) ?_)
    refine list_nil ?_
    refine hK3 _ ?_; clear hK3 K3
    refine codeT.imp (σ' := [(0, _), (2, _), (3, _), (11, _)]) ?_ (imp_covers ⟨rfl, rfl, rfl, rfl, trivial⟩)
    refine code_cond_d rfl (fun h2 => ?_) (fun h2 => ?_)
    · skip
      (try simp only [Decidable.not_not] at h2); (try have hLt : LtP s := (h2 : WrdP s 1).2)
      refine code_seq (fun K4 hK4 => ?_)
      refine code_region ?_
      refine list_cons rfl (op_q (q_assign rfl (by decide)) ?_)
      refine list_cons rfl (op_q (q_assign rfl (by decide)) ?_)
      refine list_nil ?_
      refine hK4 _ ?_; clear hK4 K4
      refine code_ret ?_
      refine then_r ?_; clear hK2 K2
      refine ends_ret (cs := []) rfl rfl rfl rfl trivial ?_
      first
        | (have e : ¬ (s.length = 1 ∧ LtP s) := fun e => absurd (by omega) h2
           simp only [if_neg e, decide_eq_false e]; done)
        | (have e : ¬ (s.length = 1 ∧ LtP s) := fun e => absurd (⟨by omega, e.2⟩ : WrdP s 1) h2
           simp only [if_neg e, decide_eq_false e]; done)
        | (have e : s.length = 1 ∧ LtP s := ⟨by omega, hLt⟩
           simp only [if_pos e, decide_eq_true e]; first | done | rfl)
    (try simp only [Decidable.not_not] at h2); (try have hLt : LtP s := (h2 : WrdP s 1).2)
    refine code_skip ?_
    refine hK2 _ ?_; clear hK2 K2
    refine code_seq (fun K5 hK5 => ?_)
    refine code_region ?_
    refine list_cons rfl (op_q (q_move rfl (by decide)) ?_)
    refine list_cons rfl (op_q (q_index_str Tryd.underlying9 rfl rfl (by omega) (by omega) (by decide)) ?_)
    refine list_cons rfl (op_call _ (spec_l10Place _) rfl rfl (by decide) (by decide) (by decide) rfl ?_)
    rintro _ rfl
    refine list_cons rfl (op_call _ (spec_l10Of _ (LtP.at (by assumption) (by omega)) hpb.2) rfl rfl (by decide) (by decide) (by decide) rfl ?_)
    rintro _ rfl
    refine list_cons rfl (op_q (q_assign rfl (by decide)) ?_)
    refine list_cons rfl (op_q (q_assign rfl (by decide)) ?_)
    refine list_nil ?_
    refine hK5 _ ?_; clear hK5 K5
    refine codeT.imp (σ' := [(0, _), (2, _), (3, _)]) ?_ (imp_covers ⟨rfl, rfl, rfl, trivial⟩)
    refine code_ret ?_
    refine ends_ret (cs := []) rfl rfl rfl rfl trivial ?_
    first
      | (have e : ¬ (s.length = 1 ∧ LtP s) := fun e => absurd (by omega) h2
         simp only [if_neg e, decide_eq_false e]; done)
      | (have e : ¬ (s.length = 1 ∧ LtP s) := fun e => absurd (⟨by omega, e.2⟩ : WrdP s 1) h2
         simp only [if_neg e, decide_eq_false e]; done)
      | (have e : s.length = 1 ∧ LtP s := ⟨by omega, hLt⟩
         simp only [if_pos e, decide_eq_true e]; first | done | rfl)
  simp only [Bool.false_eq_true, if_true, if_false, Decidable.not_not] at h1
  (try simp only [Decidable.not_not] at h1); (try have hLt : LtP s := (h1 : WrdP s 1).2)
  refine list_guard_n rfl rfl rfl rfl (by decide) rfl ?_
  refine list_guard_n rfl rfl rfl rfl (by decide) rfl ?_
  refine list_cons rfl (op_q (q_pick rfl rfl (by decide)) ?_)
  refine list_nil ?_
  refine hK3 _ ?_; clear hK3 K3
  refine code_cond_t rfl ?_
  refine code_seq (fun K6 hK6 => ?_)
  refine code_region ?_
  refine list_cons rfl (op_q (q_assign rfl (by decide)) ?_)
  refine list_cons rfl (op_q (q_assign rfl (by decide)) ?_)
  refine list_nil ?_
  refine hK6 _ ?_; clear hK6 K6
  refine code_ret ?_
  refine then_r ?_; clear hK2 K2
  refine ends_ret (cs := []) rfl rfl rfl rfl trivial ?_
  first
    | (have e : ¬ (s.length = 1 ∧ LtP s) := fun e => absurd (by omega) h1
       simp only [if_neg e, decide_eq_false e]; done)
    | (have e : ¬ (s.length = 1 ∧ LtP s) := fun e => absurd (⟨by omega, e.2⟩ : WrdP s 1) h1
       simp only [if_neg e, decide_eq_false e]; done)
    | (have e : s.length = 1 ∧ LtP s := ⟨by omega, hLt⟩
       simp only [if_pos e, decide_eq_true e]; first | done | rfl)

set_option maxRecDepth 4000 in
theorem spec_LetterOf (c : Int) : PCalls Tryd.prog 19 [.int .i64 c] (· = [.val (.str (if 0 ≤ rdC c then [letC c] else [])), .val (.bool (decide (0 ≤ rdC c)))]) := by
  refine pcalls_of_code (n := 13) az Tryd.func19 (by kernel_rfl) rfl rfl (Nat.le_of_ble_eq_true rfl) (by intro t u h; simp [Tryd.f19] at h) ?_
  have hrd := rdC_le c
  refine code_seq (fun K1 hK1 => ?_)
  refine code_region ?_
  refine list_cons rfl (op_q (q_assign rfl (by decide)) ?_)
  refine list_cons rfl (op_q (q_assign rfl (by decide)) ?_)
  refine list_nil ?_
  refine hK1 _ ?_; clear hK1 K1
  refine code_seq (fun K2 hK2 => ?_)
  refine code_region ?_
  refine list_cons rfl (op_q (q_move rfl (by decide)) ?_)
  refine list_cons rfl (op_call _ (spec_l10Read _) rfl rfl (by decide) (by decide) (by decide) rfl ?_)
  rintro _ rfl
  refine list_cons rfl (op_q (q_assign rfl (by decide)) ?_)
  refine list_nil ?_
  refine hK2 _ ?_; clear hK2 K2
  refine codeT.imp (σ' := [(0, _), (2, _), (3, _), (4, _)]) ?_ (imp_covers ⟨rfl, rfl, rfl, rfl, trivial⟩)
  refine code_seq (fun K3 hK3 => ?_)
  refine code_seq (fun K4 hK4 => ?_)
  refine code_region ?_
  refine list_cons rfl (op_q (q_move rfl (by decide)) ?_)
  refine list_cons rfl (op_q (q_lt rfl rfl (by decide)) ?_)
  refine list_nil ?_
  refine hK4 _ ?_; clear hK4 K4
  refine code_cond_d rfl (fun h1 => ?_) (fun h1 => ?_)
  · skip
    (try simp only [Decidable.not_not] at h1)
    refine code_seq (fun K5 hK5 => ?_)
    refine code_region ?_
    refine list_cons rfl (op_q (q_assign rfl (by decide)) ?_)
    refine list_cons rfl (op_q (q_assign rfl (by decide)) ?_)
    refine list_nil ?_
    refine hK5 _ ?_; clear hK5 K5
    refine code_ret ?_
    refine then_r ?_; clear hK3 K3
    refine ends_ret (cs := []) rfl rfl rfl rfl trivial ?_
    first
      | (have e : ¬ 0 ≤ rdC c := by omega
         simp only [if_neg e, decide_eq_false e]; done)
      | (have e : 0 ≤ rdC c := by omega
         simp only [if_pos e, decide_eq_true e, ← cutL e hrd.2, letC]; first | done | rfl)
  (try simp only [Decidable.not_not] at h1)
  refine code_skip ?_
  refine hK3 _ ?_; clear hK3 K3
  refine code_seq (fun K6 hK6 => ?_)
  refine code_region ?_
  refine list_cons rfl (op_q (q_move rfl (by decide)) ?_)
  refine list_cons rfl (op_q (q_move rfl (by decide)) ?_)
  refine list_cons rfl (op_q (by first | exact q_addI rfl rfl (by decide) (by omega) (by omega) | exact q_ib rfl rfl rfl (by decide)) ?_)
  refine list_cons rfl (op_q (q_slice_str Tryd.underlying9 rfl ⟨_, rfl⟩ ⟨_, rfl⟩ (by first | omega | (show _ ≤ ((16 : Nat) : Int); omega)) (by first | omega | (show _ ≤ ((16 : Nat) : Int); omega)) (by first | omega | (show _ ≤ ((16 : Nat) : Int); omega)) (by decide)) ?_)
  refine list_cons rfl (op_q (q_assign rfl (by decide)) ?_)
  refine list_cons rfl (op_q (q_assign rfl (by decide)) ?_)
  refine list_nil ?_
  refine hK6 _ ?_; clear hK6 K6
  refine code_ret ?_
  refine ends_ret (cs := []) rfl rfl rfl rfl trivial ?_
  first
    | (have e : ¬ 0 ≤ rdC c := by omega
       simp only [if_neg e, decide_eq_false e]; done)
    | (have e : 0 ≤ rdC c := by omega
       simp only [if_pos e, decide_eq_true e, ← cutL e hrd.2, letC]; first | done | rfl)

set_option maxRecDepth 4000 in
theorem spec_l10Row (s : List UInt8) (h : LtP s) (hl : s.length ≤ 1000) : PCalls Tryd.prog 52 [.str s] (· = [.own 0 3 1 (rowW s).length ((rowW s).map (.int .i64))]) := by
  refine pcalls_of_code (n := 21) az Tryd.func52 (by kernel_rfl) rfl rfl (Nat.le_of_ble_eq_true rfl) (by intro t u h; simp [Tryd.f52] at h) ?_
  refine code_seq (fun K1 hK1 => ?_)
  refine code_region ?_
  refine list_cons rfl (op_q (q_assign rfl (by decide)) ?_)
  refine list_nil ?_
  refine hK1 _ ?_; clear hK1 K1
  refine code_seq (fun K2 hK2 => ?_)
  refine code_region ?_
  refine list_cons rfl (op_buildSlice sl_28 (parts := []) rfl rfl rfl (by decide) (by decide) (by decide) rfl ?_)
  refine list_cons rfl (op_q (q_assign rfl (by decide)) ?_)
  refine list_nil ?_
  refine hK2 _ ?_; clear hK2 K2
  refine code_seq (fun K3 hK3 => ?_)
  refine code_seq (fun K4 hK4 => ?_)
  refine code_region ?_
  refine list_cons rfl (op_q (q_assign rfl (by decide)) ?_)
  refine list_nil ?_
  refine hK4 _ ?_; clear hK4 K4
  refine code_block ?_
  refine code_loop (X := PV × Nat × List PV × Int) (fun x => [(0, .val (.str s)), (2, .val x.1), (3, .own 5 3 1 x.2.1 x.2.2.1), (4, .val (.int .i64 x.2.2.2))]) (fun x => 0 ≤ x.2.2.2 ∧ x.2.2.2 ≤ s.length ∧ x.2.1 = x.2.2.2.toNat ∧ x.2.2.1 = (rowW (s.take x.2.2.2.toNat)).map (.int .i64)) (fun x => s.length - x.2.2.2.toNat) (_, _, _, _) (imp_covers ⟨rfl, rfl, rfl, rfl, trivial⟩) ?_ ?_
  · (try dsimp only)
    exact ⟨by omega, by omega, rfl, rfl⟩
  · intro x hI
    obtain ⟨t2_p, out_n, out_c, i⟩ := x
    replace hI : 0 ≤ i ∧ i ≤ s.length ∧ out_n = i.toNat ∧ out_c = (rowW (s.take i.toNat)).map (.int .i64) := hI
    show codeT _ _ _ [(0, .val (.str s)), (2, .val t2_p), (3, .own 5 3 1 out_n out_c), (4, .val (.int .i64 i))] _
    obtain ⟨i1, i2, rfl, rfl⟩ := hI
    have hpb := plB_le (s.getD i.toNat 0)
    have hp0 := fun e : i < s.length => h.at (j := i.toNat) (by omega)
    have hlw : (rowW (s.take i.toNat)).length = i.toNat := by rw [rowW_len, List.length_take]; omega
    refine code_seq (fun K5 hK5 => ?_)
    refine code_seq (fun K6 hK6 => ?_)
    refine code_region ?_
    refine list_cons rfl (op_q (q_move rfl (by decide)) ?_)
    refine list_cons rfl (op_q (q_move rfl (by decide)) ?_)
    refine list_cons rfl (op_q (q_len_str Tryd.underlying9 rfl (by decide)) ?_)
    refine list_cons rfl (op_q (q_lt rfl rfl (by decide)) ?_)
    refine list_nil ?_
    refine hK6 _ ?_; clear hK6 K6
    refine code_cond_d rfl (fun h1 => ?_) (fun h1 => ?_)
    · skip
      (try simp only [Decidable.not_not] at h1)
      refine code_skip ?_
      refine hK5 _ ?_; clear hK5 K5
      refine code_seq (fun K7 hK7 => ?_)
      refine code_block ?_
      refine code_region ?_
      refine list_cons rfl (op_q (q_move rfl (by decide)) ?_)
      refine list_cons rfl (op_q (q_move rfl (by decide)) ?_)
      refine list_cons rfl (op_q (q_move rfl (by decide)) ?_)
      refine list_cons rfl (op_q (q_index_str Tryd.underlying9 rfl rfl (by omega) (by omega) (by decide)) ?_)
      refine list_cons rfl (op_call _ (spec_l10Place _) rfl rfl (by decide) (by decide) (by decide) rfl ?_)
      rintro _ rfl
      refine list_cons rfl (op_call _ (spec_l10Of _ (hp0 (by omega)) hpb.2) rfl rfl (by decide) (by decide) (by decide) rfl ?_)
      rintro _ rfl
      refine list_cons rfl (op_buildSlice sl_28 (parts := [(0, .tmp 17)]) rfl rfl rfl (by decide) (by decide) (by decide) rfl ?_)
      refine list_cons rfl (op_append_gen sl_28 (l := 5) (.inl rfl) rfl rfl (l2 := none) (.inl ⟨rfl, (by first | rfl | exact flat_map _ (fun _ => rfl) _)⟩) (by first | rfl | (simp; done) | (simp; omega)) (by omega) (by decide) (by decide) (by decide) ?_)
      refine list_cons rfl (op_q (q_assign rfl (by decide)) ?_)
      refine list_nil ?_
      refine blk_n ?_
      refine hK7 _ ?_; clear hK7 K7
      refine codeT.imp (σ' := [(0, _), (2, _), (3, _), (4, _)]) ?_ (imp_covers ⟨rfl, rfl, rfl, rfl, trivial⟩)
      refine code_region ?_
      refine list_cons rfl (op_q (q_move rfl (by decide)) ?_)
      refine list_cons rfl (op_q (by first | exact q_addI rfl rfl (by decide) (by omega) (by omega) | exact q_ib rfl rfl rfl (by decide)) ?_)
      refine list_cons rfl (op_q (q_assign rfl (by decide)) ?_)
      refine list_nil ?_
      refine then_n ⟨(_, _, _, _), imp_covers ⟨rfl, rfl, rfl, rfl, trivial⟩, ?_, ?_⟩
      · (try dsimp only)
        refine ⟨by omega, by omega, by omega, ?_⟩
        rw [show (i + 1).toNat = i.toNat + 1 by omega, take_snocI 0 s i.toNat (by omega)]
        unfold rowW
        rw [List.map_append, List.map_append]; rfl
      · (try dsimp only); omega
    (try simp only [Decidable.not_not] at h1)
    refine code_exit ?_
    refine then_x ?_; clear hK5 K5
    refine then_x ?_
    refine blk_hit ?_
    refine hK3 _ ?_; clear hK3 K3
    refine code_seq (fun K8 hK8 => ?_)
    refine code_region ?_
    refine list_cons rfl (op_q (q_move rfl (by decide)) ?_)
    refine list_cons rfl (op_q (q_assign rfl (by decide)) ?_)
    refine list_nil ?_
    refine hK8 _ ?_; clear hK8 K8
    refine code_ret ?_
    refine ends_ret (cs := []) rfl rfl rfl rfl trivial ?_
    have e : i.toNat = s.length := by omega
    rw [e, List.take_length, rowW_len]

set_option maxRecDepth 4000 in
theorem spec_RowOfWord (s : List UInt8) (hs : s.length ≤ 4611686018427387904) : PCalls Tryd.prog 21 [.str s] (· = [.own 0 3 1 (if WrdP s 6 then rowW s else []).length ((if WrdP s 6 then rowW s else []).map (.int .i64)), .val (.bool (decide (WrdP s 6)))]) := by
  refine pcalls_of_code (n := 10) az Tryd.func21 (by kernel_rfl) rfl rfl (Nat.le_of_ble_eq_true rfl) (by intro t u h; simp [Tryd.f21] at h) ?_
  refine code_seq (fun K1 hK1 => ?_)
  refine code_region ?_
  refine list_cons rfl (op_q (q_assign rfl (by decide)) ?_)
  refine list_cons rfl (op_q (q_assign rfl (by decide)) ?_)
  refine list_nil ?_
  refine hK1 _ ?_; clear hK1 K1
  refine code_seq (fun K2 hK2 => ?_)
  refine code_seq (fun K3 hK3 => ?_)
  refine code_region ?_
  refine list_cons rfl (op_q (q_move rfl (by decide)) ?_)
  refine list_cons rfl (op_call _ (spec_l10Word _ _ (by first | omega | assumption) (by omega) (by omega)) rfl rfl (by decide) (by decide) (by decide) rfl ?_)
  rintro _ rfl
  refine list_cons rfl (op_q (by first | exact q_notd rfl (by decide) | exact q_not rfl (by decide)) ?_)
  refine list_nil ?_
  refine hK3 _ ?_; clear hK3 K3
  refine codeT.imp (σ' := [(0, _), (2, _), (3, _), (6, _)]) ?_ (imp_covers ⟨rfl, rfl, rfl, rfl, trivial⟩)
  refine code_cond_d rfl (fun h1 => ?_) (fun h1 => ?_)
  · skip
    (try simp only [Decidable.not_not] at h1)
    refine code_seq (fun K4 hK4 => ?_)
    refine code_region ?_
    refine list_cons rfl (op_buildSlice sl_28 (parts := []) rfl rfl rfl (by decide) (by decide) (by decide) rfl ?_)
    refine list_cons rfl (op_q (q_assign rfl (by decide)) ?_)
    refine list_cons rfl (op_q (q_assign rfl (by decide)) ?_)
    refine list_nil ?_
    refine hK4 _ ?_; clear hK4 K4
    refine code_ret ?_
    refine then_r ?_; clear hK2 K2
    refine ends_ret (cs := []) rfl rfl rfl rfl trivial ?_
    simp only [if_neg h1, decide_eq_false h1]; rfl
  (try simp only [Decidable.not_not] at h1)
  refine code_skip ?_
  refine hK2 _ ?_; clear hK2 K2
  refine code_seq (fun K5 hK5 => ?_)
  refine code_region ?_
  refine list_cons rfl (op_q (q_move rfl (by decide)) ?_)
  refine list_cons rfl (op_call _ (spec_l10Row s h1.2 (by have := h1.1; omega)) rfl rfl (by decide) (by decide) (by decide) rfl ?_)
  rintro _ rfl
  refine list_cons rfl (op_q (q_assign rfl (by decide)) ?_)
  refine list_cons rfl (op_q (q_assign rfl (by decide)) ?_)
  refine list_nil ?_
  refine hK5 _ ?_; clear hK5 K5
  refine codeT.imp (σ' := [(0, _), (2, _), (3, _)]) ?_ (imp_covers ⟨rfl, rfl, rfl, trivial⟩)
  refine code_ret ?_
  refine ends_ret (cs := []) rfl rfl rfl rfl trivial ?_
  simp only [if_pos h1, decide_eq_true h1]

set_option maxRecDepth 4000 in
theorem spec_l10Spelt (l : List Int) (hl : l.length ≤ 1000) : PCalls Tryd.prog 54 [.sl l.length (l.map (.int .i64))] (· = [.val (.str (if SpP l then spT l else [])), .val (.bool (decide (SpP l)))]) := by
  refine pcalls_of_code (n := 27) az Tryd.func54 (by kernel_rfl) rfl rfl (Nat.le_of_ble_eq_true rfl) (by intro t u h; simp [Tryd.f54] at h) ?_
  refine code_seq (fun K1 hK1 => ?_)
  refine code_region ?_
  refine list_cons rfl (op_q (q_assign rfl (by decide)) ?_)
  refine list_cons rfl (op_q (q_assign rfl (by decide)) ?_)
  refine list_nil ?_
  refine hK1 _ ?_; clear hK1 K1
  refine code_seq (fun K2 hK2 => ?_)
  refine code_region ?_
  refine list_cons rfl (op_q (q_assign rfl (by decide)) ?_)
  refine list_nil ?_
  refine hK2 _ ?_; clear hK2 K2
  refine code_seq (fun K3 hK3 => ?_)
  refine code_seq (fun K4 hK4 => ?_)
  refine code_region ?_
  refine list_cons rfl (op_q (q_assign rfl (by decide)) ?_)
  refine list_nil ?_
  refine hK4 _ ?_; clear hK4 K4
  refine code_block ?_
  refine code_loop (X := List UInt8 × Bool × List UInt8 × Int) (fun x => [(0, .par 0 (.sl l.length (l.map (.int .i64)))), (2, .val (.str x.1)), (3, .val (.bool x.2.1)), (4, .val (.str x.2.2.1)), (5, .val (.int .i64 x.2.2.2))]) (fun x => 0 ≤ x.2.2.2 ∧ x.2.2.2 ≤ l.length ∧ x.2.2.1 = spT (l.take x.2.2.2.toNat) ∧ ∀ j, j < x.2.2.2.toNat → 0 ≤ rdC (l.getD j 0)) (fun x => l.length - x.2.2.2.toNat) (_, _, _, _) (imp_covers ⟨rfl, rfl, rfl, rfl, rfl, trivial⟩) ?_ ?_
  · (try dsimp only)
    exact ⟨by omega, by omega, rfl, fun j hj => by simp at hj⟩
  · intro x hI
    obtain ⟨t2, t3, s, i⟩ := x
    replace hI : 0 ≤ i ∧ i ≤ l.length ∧ s = spT (l.take i.toNat) ∧ ∀ j, j < i.toNat → 0 ≤ rdC (l.getD j 0) := hI
    show codeT _ _ _ [(0, .par 0 (.sl l.length (l.map (.int .i64)))), (2, .val (.str t2)), (3, .val (.bool t3)), (4, .val (.str s)), (5, .val (.int .i64 i))] _
    obtain ⟨i1, i2, rfl, i3⟩ := hI
    have hrd := rdC_le (l.getD i.toNat 0)
    have hL : ltrS.length = 16 := rfl
    have hsl : (spT (l.take i.toNat)).length = i.toNat := by rw [spT_len, List.length_take]; omega
    refine code_seq (fun K5 hK5 => ?_)
    refine code_seq (fun K6 hK6 => ?_)
    refine code_region ?_
    refine list_cons rfl (op_q (q_move rfl (by decide)) ?_)
    refine list_cons rfl (op_q (q_move rfl (by decide)) ?_)
    refine list_cons rfl (op_q (q_len_sl Tryd.underlying28 rfl rfl (by decide)) ?_)
    refine list_cons rfl (op_q (q_lt rfl rfl (by decide)) ?_)
    refine list_nil ?_
    refine hK6 _ ?_; clear hK6 K6
    refine code_cond_d rfl (fun h1 => ?_) (fun h1 => ?_)
    · skip
      (try simp only [Decidable.not_not] at h1)
      refine code_skip ?_
      refine hK5 _ ?_; clear hK5 K5
      refine code_seq (fun K7 hK7 => ?_)
      refine code_block ?_
      refine code_seq (fun K8 hK8 => ?_)
      refine code_region ?_
      refine list_cons rfl (op_q (q_move rfl (by decide)) ?_)
      refine list_cons rfl (op_q (q_move rfl (by decide)) ?_)
      refine list_cons rfl (op_q (q_indexAddr_rd sl_28 rfl (.inl ⟨_, rfl, rfl⟩) rfl (by omega) (by omega) (by decide)) ?_)
      refine list_cons rfl (op_q (q_load_rd one_3 rfl (.inl ⟨_, (by first | rfl | exact congrArg (SV.rpar _) (drop_map1 _ 0 _ (by first | omega | (simp; omega)))), rfl⟩) (by decide)) ?_)
      refine list_cons rfl (op_call _ (spec_l10Read _) rfl rfl (by decide) (by decide) (by decide) rfl ?_)
      rintro _ rfl
      refine list_cons rfl (op_q (q_assign rfl (by decide)) ?_)
      refine list_nil ?_
      refine hK8 _ ?_; clear hK8 K8
      refine codeT.imp (σ' := [(0, _), (2, _), (3, _), (4, _), (5, _), (6, _)]) ?_ (imp_covers ⟨rfl, rfl, rfl, rfl, rfl, rfl, trivial⟩)
      refine code_seq (fun K9 hK9 => ?_)
      refine code_seq (fun K10 hK10 => ?_)
      refine code_region ?_
      refine list_cons rfl (op_q (q_move rfl (by decide)) ?_)
      refine list_cons rfl (op_q (q_lt rfl rfl (by decide)) ?_)
      refine list_nil ?_
      refine hK10 _ ?_; clear hK10 K10
      refine code_cond_d rfl (fun h2 => ?_) (fun h2 => ?_)
      · skip
        (try simp only [Decidable.not_not] at h2)
        refine code_seq (fun K11 hK11 => ?_)
        refine code_region ?_
        refine list_cons rfl (op_q (q_assign rfl (by decide)) ?_)
        refine list_cons rfl (op_q (q_assign rfl (by decide)) ?_)
        refine list_nil ?_
        refine hK11 _ ?_; clear hK11 K11
        refine code_ret ?_
        refine then_r ?_; clear hK9 K9
        refine blk_r ?_
        refine then_r ?_; clear hK7 K7
        refine then_r ?_
        refine blk_r ?_
        refine then_r ?_; clear hK3 K3
        refine ends_ret (cs := []) rfl rfl rfl rfl trivial ?_
        first
          | (have e : ¬ SpP l := fun e => by have := e.at (j := i.toNat) (by omega); omega
             simp only [if_neg e, decide_eq_false e]; done)
          | (have e : SpP l := SpP.of fun j hj => i3 j (by omega)
             simp only [if_pos e, decide_eq_true e, List.take_of_length_le (show l.length ≤ i.toNat by omega)]; done)
      (try simp only [Decidable.not_not] at h2)
      refine code_skip ?_
      refine hK9 _ ?_; clear hK9 K9
      refine code_region ?_
      refine list_cons rfl (op_q (q_move rfl (by decide)) ?_)
      refine list_cons rfl (op_q (q_move rfl (by decide)) ?_)
      refine list_cons rfl (op_q (q_move rfl (by decide)) ?_)
      refine list_cons rfl (op_q (by first | exact q_addI rfl rfl (by decide) (by omega) (by omega) | exact q_ib rfl rfl rfl (by decide)) ?_)
      refine list_cons rfl (op_q (q_slice_str Tryd.underlying9 rfl ⟨_, rfl⟩ ⟨_, rfl⟩ (by first | omega | (show _ ≤ ((16 : Nat) : Int); omega)) (by first | omega | (show _ ≤ ((16 : Nat) : Int); omega)) (by first | omega | (show _ ≤ ((16 : Nat) : Int); omega)) (by decide)) ?_)
      refine list_cons rfl (op_q (q_cat rfl rfl (by first | omega | (simp only [List.length_append, List.length_cons, List.length_nil]; omega) | (simp; omega)) (by decide)) ?_)
      refine list_cons rfl (op_q (q_assign rfl (by decide)) ?_)
      refine list_nil ?_
      refine blk_n ?_
      refine hK7 _ ?_; clear hK7 K7
      refine codeT.imp (σ' := [(0, _), (2, _), (3, _), (4, _), (5, _), (6, _)]) ?_ (imp_covers ⟨rfl, rfl, rfl, rfl, rfl, rfl, trivial⟩)
      refine code_region ?_
      refine list_cons rfl (op_q (q_move rfl (by decide)) ?_)
      refine list_cons rfl (op_q (by first | exact q_addI rfl rfl (by decide) (by omega) (by omega) | exact q_ib rfl rfl rfl (by decide)) ?_)
      refine list_cons rfl (op_q (q_assign rfl (by decide)) ?_)
      refine list_nil ?_
      refine then_n ⟨(_, _, _, _), imp_covers ⟨rfl, rfl, rfl, rfl, rfl, trivial⟩, ?_, ?_⟩
      · (try dsimp only)
        have hk0 : 0 ≤ rdC (l.getD i.toNat 0) := by omega
        refine ⟨by omega, by omega, ?_, fun j hj => ?_⟩
        · rw [show (i + 1).toNat = i.toNat + 1 by omega, show spT (l.take (i.toNat + 1)) = spT (l.take i.toNat) ++ [letC (l.getD i.toNat 0)] from map_take letC 0 l (by omega)]
          exact congrArg (spT (l.take i.toNat) ++ ·) (cutL hk0 hrd.2)
        · by_cases e : j = i.toNat
          · subst e; omega
          · exact i3 j (by omega)
      · (try dsimp only); omega
    (try simp only [Decidable.not_not] at h1)
    refine code_exit ?_
    refine then_x ?_; clear hK5 K5
    refine then_x ?_
    refine blk_hit ?_
    refine hK3 _ ?_; clear hK3 K3
    refine code_seq (fun K12 hK12 => ?_)
    refine code_region ?_
    refine list_cons rfl (op_q (q_move rfl (by decide)) ?_)
    refine list_cons rfl (op_q (q_assign rfl (by decide)) ?_)
    refine list_cons rfl (op_q (q_assign rfl (by decide)) ?_)
    refine list_nil ?_
    refine hK12 _ ?_; clear hK12 K12
    refine code_ret ?_
    refine ends_ret (cs := []) rfl rfl rfl rfl trivial ?_
    first
      | (have e : ¬ SpP l := fun e => by have := e.at (j := i.toNat) (by omega); omega
         simp only [if_neg e, decide_eq_false e]; done)
      | (have e : SpP l := SpP.of fun j hj => i3 j (by omega)
         simp only [if_pos e, decide_eq_true e, List.take_of_length_le (show l.length ≤ i.toNat by omega)]; done)

set_option maxRecDepth 4000 in
theorem spec_WordOfRow (l : List Int) (hl : l.length ≤ 4611686018427387904) : PCalls Tryd.prog 26 [.sl l.length (l.map (.int .i64))] (· = [.val (.str (if RowP l ∧ SpP l then spT l else [])), .val (.bool (decide (RowP l ∧ SpP l)))]) := by
  refine pcalls_of_code (n := 11) az Tryd.func26 (by kernel_rfl) rfl rfl (Nat.le_of_ble_eq_true rfl) (by intro t u h; simp [Tryd.f26] at h) ?_
  refine code_seq (fun K1 hK1 => ?_)
  refine code_region ?_
  refine list_cons rfl (op_q (q_assign rfl (by decide)) ?_)
  refine list_cons rfl (op_q (q_assign rfl (by decide)) ?_)
  refine list_nil ?_
  refine hK1 _ ?_; clear hK1 K1
  refine code_seq (fun K2 hK2 => ?_)
  refine code_seq (fun K3 hK3 => ?_)
  refine code_region ?_
  refine list_cons rfl (op_q (q_move rfl (by decide)) ?_)
  refine list_cons rfl (op_call _ (spec_l2Row _ (by first | omega | (simp; omega))) rfl rfl (by decide) (by decide) (by decide) rfl ?_)
  rintro _ rfl
  refine list_cons rfl (op_q (by first | exact q_notd rfl (by decide) | exact q_not rfl (by decide)) ?_)
  refine list_nil ?_
  refine hK3 _ ?_; clear hK3 K3
  refine codeT.imp (σ' := [(0, _), (2, _), (3, _), (6, _)]) ?_ (imp_covers ⟨rfl, rfl, rfl, rfl, trivial⟩)
  refine code_cond_d rfl (fun h1 => ?_) (fun h1 => ?_)
  · skip
    (try simp only [Decidable.not_not] at h1)
    refine code_seq (fun K4 hK4 => ?_)
    refine code_region ?_
    refine list_cons rfl (op_q (q_assign rfl (by decide)) ?_)
    refine list_cons rfl (op_q (q_assign rfl (by decide)) ?_)
    refine list_nil ?_
    refine hK4 _ ?_; clear hK4 K4
    refine code_ret ?_
    refine then_r ?_; clear hK2 K2
    refine ends_ret (cs := []) rfl rfl rfl rfl trivial ?_
    rw [if_neg (fun k => h1 k.1), decide_eq_false (fun k => h1 k.1)]
  (try simp only [Decidable.not_not] at h1)
  refine code_skip ?_
  refine hK2 _ ?_; clear hK2 K2
  refine code_seq (fun K5 hK5 => ?_)
  refine code_region ?_
  refine list_cons rfl (op_q (q_move rfl (by decide)) ?_)
  refine list_cons rfl (op_call _ (spec_l10Spelt _ (by have := h1.1; omega)) rfl rfl (by decide) (by decide) (by decide) rfl ?_)
  rintro _ rfl
  refine list_cons rfl (op_q (q_extract rfl rfl (by decide)) ?_)
  refine list_cons rfl (op_q (q_extract rfl rfl (by decide)) ?_)
  refine list_cons rfl (op_q (q_assign rfl (by decide)) ?_)
  refine list_cons rfl (op_q (q_assign rfl (by decide)) ?_)
  refine list_nil ?_
  refine hK5 _ ?_; clear hK5 K5
  refine codeT.imp (σ' := [(0, _), (2, _), (3, _)]) ?_ (imp_covers ⟨rfl, rfl, rfl, trivial⟩)
  refine code_ret ?_
  refine ends_ret (cs := []) rfl rfl rfl rfl trivial ?_
  simp only [h1, true_and]

theorem litF_bd : ∀ (l : List Int) (k : Nat), 0 ≤ litF (l.take k) ∧ litF (l.take k) ≤ 7 * k
  | l, 0 => by rw [List.take_zero]; exact ⟨by decide, by decide⟩
  | l, k + 1 => by
    have ih := litF_bd l k
    by_cases h : k < l.length
    · have := cnt7_le (l.getD k 0).toNat
      unfold litF at ih ⊢
      rw [foldl_take _ 0 _ _ h]; omega
    · rw [List.take_of_length_le (by omega)]
      rw [List.take_of_length_le (by omega)] at ih; omega

set_option maxRecDepth 4000 in
theorem spec_WordLit (s : List UInt8) (hs : s.length ≤ 4611686018427387904) : PCalls Tryd.prog 29 [.str s] (· = [.val (.int .i64 (if WrdP s 12 then litF (rowW s) else 0)), .val (.bool (decide (WrdP s 12)))]) := by
  refine pcalls_of_code (n := 26) az Tryd.func29 (by kernel_rfl) rfl rfl (Nat.le_of_ble_eq_true rfl) (by intro t u h; simp [Tryd.f29] at h) ?_
  have hrl := rowW_len s
  refine code_seq (fun K1 hK1 => ?_)
  refine code_region ?_
  refine list_cons rfl (op_q (q_assign rfl (by decide)) ?_)
  refine list_cons rfl (op_q (q_assign rfl (by decide)) ?_)
  refine list_nil ?_
  refine hK1 _ ?_; clear hK1 K1
  refine code_seq (fun K2 hK2 => ?_)
  refine code_seq (fun K3 hK3 => ?_)
  refine code_region ?_
  refine list_cons rfl (op_q (q_move rfl (by decide)) ?_)
  refine list_cons rfl (op_call _ (spec_l10Word _ _ (by first | omega | assumption) (by omega) (by omega)) rfl rfl (by decide) (by decide) (by decide) rfl ?_)
  rintro _ rfl
  refine list_cons rfl (op_q (by first | exact q_notd rfl (by decide) | exact q_not rfl (by decide)) ?_)
  refine list_nil ?_
  refine hK3 _ ?_; clear hK3 K3
  refine codeT.imp (σ' := [(0, _), (2, _), (3, _), (9, _)]) ?_ (imp_covers ⟨rfl, rfl, rfl, rfl, trivial⟩)
  refine code_cond_d rfl (fun h1 => ?_) (fun h1 => ?_)
  · skip
    (try simp only [Decidable.not_not] at h1)
    refine code_seq (fun K4 hK4 => ?_)
    refine code_region ?_
    refine list_cons rfl (op_q (q_assign rfl (by decide)) ?_)
    refine list_cons rfl (op_q (q_assign rfl (by decide)) ?_)
    refine list_nil ?_
    refine hK4 _ ?_; clear hK4 K4
    refine code_ret ?_
    refine then_r ?_; clear hK2 K2
    refine ends_ret (cs := []) rfl rfl rfl rfl trivial ?_
    first
      | (simp only [if_neg h1, decide_eq_false h1]; done)
      | (rw [List.take_of_length_le (show (rowW s).length ≤ i.toNat by omega)]
         simp only [if_pos h1, decide_eq_true h1]; done)
  (try simp only [Decidable.not_not] at h1)
  refine code_skip ?_
  refine hK2 _ ?_; clear hK2 K2
  refine code_seq (fun K5 hK5 => ?_)
  refine code_region ?_
  refine list_cons rfl (op_q (q_move rfl (by decide)) ?_)
  refine list_cons rfl (op_call _ (spec_l10Row s h1.2 (by have := h1.1; omega)) rfl rfl (by decide) (by decide) (by decide) rfl ?_)
  rintro _ rfl
  refine list_cons rfl (op_q (q_assign rfl (by decide)) ?_)
  refine list_cons rfl (op_q (q_assign rfl (by decide)) ?_)
  refine list_nil ?_
  refine hK5 _ ?_; clear hK5 K5
  refine codeT.imp (σ' := [(0, _), (2, _), (3, _), (4, _), (5, _)]) ?_ (imp_covers ⟨rfl, rfl, rfl, rfl, rfl, trivial⟩)
  refine code_seq (fun K6 hK6 => ?_)
  refine code_seq (fun K7 hK7 => ?_)
  refine code_region ?_
  refine list_cons rfl (op_q (q_assign rfl (by decide)) ?_)
  refine list_nil ?_
  refine hK7 _ ?_; clear hK7 K7
  refine code_block ?_
  refine code_loop (X := Int × Bool × Int × Nat × List PV × Int) (fun x => [(0, .val (.str s)), (2, .val (.int .i64 x.1)), (3, .val (.bool x.2.1)), (4, .val (.int .i64 x.2.2.1)), (5, .own 11 3 1 x.2.2.2.1 x.2.2.2.2.1), (6, .val (.int .i64 x.2.2.2.2.2))]) (fun x => 0 ≤ x.2.2.2.2.2 ∧ x.2.2.2.2.2 ≤ s.length ∧ x.2.2.2.1 = s.length ∧ x.2.2.2.2.1 = (rowW s).map (.int .i64) ∧ x.2.2.1 = litF ((rowW s).take x.2.2.2.2.2.toNat)) (fun x => s.length - x.2.2.2.2.2.toNat) (_, _, _, _, _, _) (imp_covers ⟨rfl, rfl, rfl, rfl, rfl, rfl, trivial⟩) ?_ ?_
  · (try dsimp only)
    exact ⟨by omega, by omega, by omega, rfl, rfl⟩
  · intro x hI
    obtain ⟨t2, t3, sum, r_n, r_c, i⟩ := x
    replace hI : 0 ≤ i ∧ i ≤ s.length ∧ r_n = s.length ∧ r_c = (rowW s).map (.int .i64) ∧ sum = litF ((rowW s).take i.toNat) := hI
    show codeT _ _ _ [(0, .val (.str s)), (2, .val (.int .i64 t2)), (3, .val (.bool t3)), (4, .val (.int .i64 sum)), (5, .own 11 3 1 r_n r_c), (6, .val (.int .i64 i))] _
    obtain ⟨i1, i2, rfl, rfl, rfl⟩ := hI
    have hci := rowW_at s i.toNat
    have hl12 := h1.1
    have hlb := litF_bd (rowW s) i.toNat
    have hc7 := cnt7_le ((rowW s).getD i.toNat 0).toNat
    refine code_seq (fun K8 hK8 => ?_)
    refine code_seq (fun K9 hK9 => ?_)
    refine code_region ?_
    refine list_cons rfl (op_q (q_move rfl (by decide)) ?_)
    refine list_cons rfl (op_q (q_move rfl (by decide)) ?_)
    refine list_cons rfl (op_q (q_len_sl Tryd.underlying28 rfl rfl (by decide)) ?_)
    refine list_cons rfl (op_q (q_lt rfl rfl (by decide)) ?_)
    refine list_nil ?_
    refine hK9 _ ?_; clear hK9 K9
    refine code_cond_d rfl (fun h2 => ?_) (fun h2 => ?_)
    · skip
      (try simp only [Decidable.not_not] at h2)
      refine code_skip ?_
      refine hK8 _ ?_; clear hK8 K8
      refine code_seq (fun K10 hK10 => ?_)
      refine code_block ?_
      refine code_region ?_
      refine list_cons rfl (op_q (q_move rfl (by decide)) ?_)
      refine list_cons rfl (op_q (q_move rfl (by decide)) ?_)
      refine list_cons rfl (op_q (q_move rfl (by decide)) ?_)
      refine list_cons rfl (op_q (q_indexAddr_own sl_28 rfl rfl (by omega) (by omega) (by decide)) ?_)
      refine list_cons rfl (op_q (q_load one_3 5 rfl rfl rfl (by first | rfl | exact get_map1 _ 0 _ (by first | omega | (simp; omega))) (by decide)) ?_)
      refine list_cons rfl (op_call _ (spec_l2Count _ (hci).1 (hci).2) rfl rfl (by decide) (by decide) (by decide) rfl ?_)
      rintro _ rfl
      refine list_cons rfl (op_q (by first | exact q_addI rfl rfl (by decide) (by omega) (by omega) | exact q_ib rfl rfl rfl (by decide)) ?_)
      refine list_cons rfl (op_q (q_assign rfl (by decide)) ?_)
      refine list_nil ?_
      refine blk_n ?_
      refine hK10 _ ?_; clear hK10 K10
      refine codeT.imp (σ' := [(0, _), (2, _), (3, _), (4, _), (5, _), (6, _)]) ?_ (imp_covers ⟨rfl, rfl, rfl, rfl, rfl, rfl, trivial⟩)
      refine code_region ?_
      refine list_cons rfl (op_q (q_move rfl (by decide)) ?_)
      refine list_cons rfl (op_q (by first | exact q_addI rfl rfl (by decide) (by omega) (by omega) | exact q_ib rfl rfl rfl (by decide)) ?_)
      refine list_cons rfl (op_q (q_assign rfl (by decide)) ?_)
      refine list_nil ?_
      refine then_n ⟨(_, _, _, _, _, _), imp_covers ⟨rfl, rfl, rfl, rfl, rfl, rfl, trivial⟩, ?_, ?_⟩
      · (try dsimp only)
        refine ⟨by omega, by omega, rfl, rfl, ?_⟩
        rw [show (i + 1).toNat = i.toNat + 1 by omega]
        unfold litF
        rw [foldl_take _ 0 _ _ (by omega)]
      · (try dsimp only); omega
    (try simp only [Decidable.not_not] at h2)
    refine code_exit ?_
    refine then_x ?_; clear hK8 K8
    refine then_x ?_
    refine blk_hit ?_
    refine hK6 _ ?_; clear hK6 K6
    refine code_seq (fun K11 hK11 => ?_)
    refine code_region ?_
    refine list_cons rfl (op_q (q_move rfl (by decide)) ?_)
    refine list_cons rfl (op_q (q_assign rfl (by decide)) ?_)
    refine list_cons rfl (op_q (q_assign rfl (by decide)) ?_)
    refine list_nil ?_
    refine hK11 _ ?_; clear hK11 K11
    refine code_ret ?_
    refine ends_ret (cs := []) rfl rfl rfl rfl trivial ?_
    first
      | (simp only [if_neg h2, decide_eq_false h2]; done)
      | (rw [List.take_of_length_le (show (rowW s).length ≤ i.toNat by omega)]
         simp only [if_pos h1, decide_eq_true h1]; done)

set_option maxRecDepth 4000 in
theorem spec_MirroredWord (s : List UInt8) (hs : s.length ≤ 4611686018427387904) : PCalls Tryd.prog 31 [.str s] (· = [.val (.str (if WrdP s 6 ∧ SpP (mirL (rowW s)) then spT (mirL (rowW s)) else [])), .val (.bool (decide (WrdP s 6 ∧ SpP (mirL (rowW s)))))]) := by
  refine pcalls_of_code (n := 13) az Tryd.func31 (by kernel_rfl) rfl rfl (Nat.le_of_ble_eq_true rfl) (by intro t u h; simp [Tryd.f31] at h) ?_
  refine code_seq (fun K1 hK1 => ?_)
  refine code_region ?_
  refine list_cons rfl (op_q (q_assign rfl (by decide)) ?_)
  refine list_cons rfl (op_q (q_assign rfl (by decide)) ?_)
  refine list_nil ?_
  refine hK1 _ ?_; clear hK1 K1
  refine code_seq (fun K2 hK2 => ?_)
  refine code_seq (fun K3 hK3 => ?_)
  refine code_region ?_
  refine list_cons rfl (op_q (q_move rfl (by decide)) ?_)
  refine list_cons rfl (op_call _ (spec_l10Word _ _ (by first | omega | assumption) (by omega) (by omega)) rfl rfl (by decide) (by decide) (by decide) rfl ?_)
  rintro _ rfl
  refine list_cons rfl (op_q (by first | exact q_notd rfl (by decide) | exact q_not rfl (by decide)) ?_)
  refine list_nil ?_
  refine hK3 _ ?_; clear hK3 K3
  refine codeT.imp (σ' := [(0, _), (2, _), (3, _), (6, _)]) ?_ (imp_covers ⟨rfl, rfl, rfl, rfl, trivial⟩)
  refine code_cond_d rfl (fun h1 => ?_) (fun h1 => ?_)
  · skip
    (try simp only [Decidable.not_not] at h1)
    refine code_seq (fun K4 hK4 => ?_)
    refine code_region ?_
    refine list_cons rfl (op_q (q_assign rfl (by decide)) ?_)
    refine list_cons rfl (op_q (q_assign rfl (by decide)) ?_)
    refine list_nil ?_
    refine hK4 _ ?_; clear hK4 K4
    refine code_ret ?_
    refine then_r ?_; clear hK2 K2
    refine ends_ret (cs := []) rfl rfl rfl rfl trivial ?_
    rw [if_neg (fun k => h1 k.1), decide_eq_false (fun k => h1 k.1)]
  (try simp only [Decidable.not_not] at h1)
  refine code_skip ?_
  refine hK2 _ ?_; clear hK2 K2
  refine code_seq (fun K5 hK5 => ?_)
  refine code_region ?_
  refine list_cons rfl (op_q (q_move rfl (by decide)) ?_)
  refine list_cons rfl (op_call _ (spec_l10Row s h1.2 (by have := h1.1; omega)) rfl rfl (by decide) (by decide) (by decide) rfl ?_)
  rintro _ rfl
  refine list_cons rfl (op_call _ (spec_l2MirrorRow _ (rowW_row (by have := h1.1; omega))) rfl rfl (by decide) (by decide) (by decide) rfl ?_)
  rintro _ rfl
  refine list_cons rfl (op_call _ (spec_l10Spelt _ (by rw [mirL_len, rowW_len]; have := h1.1; omega)) rfl rfl (by decide) (by decide) (by decide) rfl ?_)
  rintro _ rfl
  refine list_cons rfl (op_q (q_extract rfl rfl (by decide)) ?_)
  refine list_cons rfl (op_q (q_extract rfl rfl (by decide)) ?_)
  refine list_cons rfl (op_q (q_assign rfl (by decide)) ?_)
  refine list_cons rfl (op_q (q_assign rfl (by decide)) ?_)
  refine list_nil ?_
  refine hK5 _ ?_; clear hK5 K5
  refine codeT.imp (σ' := [(0, _), (2, _), (3, _)]) ?_ (imp_covers ⟨rfl, rfl, rfl, trivial⟩)
  refine code_ret ?_
  refine ends_ret (cs := []) rfl rfl rfl rfl trivial ?_
  simp only [h1, true_and]

/-- The changes between the first i cells of two rows. -/
def chgK (a b : List Int) : Nat → Int
  | 0 => 0
  | i + 1 => chgK a b i + ((cnt7 ((a.getD i 0).toNat ^^^ (b.getD i 0).toNat) : Nat) : Int)
theorem chgK_le (a b : List Int) : ∀ i : Nat, 0 ≤ chgK a b i ∧ chgK a b i ≤ 7 * i
  | 0 => by simp [chgK]
  | i + 1 => by
    have := chgK_le a b i
    have h := cnt7_le ((a.getD i 0).toNat ^^^ (b.getD i 0).toNat)
    unfold chgK; omega

theorem chgK_congr {a b a2 b2 : List Int} : ∀ {k : Nat}, (∀ j, j < k → a.getD j 0 = a2.getD j 0 ∧ b.getD j 0 = b2.getD j 0) → chgK a b k = chgK a2 b2 k
  | 0, _ => rfl
  | k + 1, h => by
    have h1 := h k (by omega)
    unfold chgK
    rw [chgK_congr (k := k) fun j hj => h j (by omega), h1.1, h1.2]
theorem chgK_more {a b : List Int} {m : Nat} (h : ∀ j, m ≤ j → a.getD j 0 = 0 ∧ b.getD j 0 = 0) : ∀ d : Nat, chgK a b (m + d) = chgK a b m
  | 0 => rfl
  | d + 1 => by
    have h1 := h (m + d) (by omega)
    show chgK a b (m + d) + ((cnt7 ((a.getD (m + d) 0).toNat ^^^ (b.getD (m + d) 0).toNat) : Nat) : Int) = _
    rw [chgK_more h d, h1.1, h1.2]; exact Int.add_zero _
theorem getD_pad (l : List Int) (d j : Nat) : (l ++ List.replicate d (0 : Int)).getD j 0 = l.getD j 0 := by
  by_cases h : j < l.length
  · rw [List.getD_eq_getElem?_getD, List.getElem?_append_left h, ← List.getD_eq_getElem?_getD]
  · rw [List.getD_eq_getElem?_getD, List.getElem?_append_right (by omega), List.getElem?_replicate, List.getD_eq_getElem?_getD, List.getElem?_eq_none (by omega)]
    split <;> rfl
theorem getD_off (l : List Int) {j : Nat} (h : l.length ≤ j) : l.getD j 0 = 0 := by
  rw [List.getD_eq_getElem?_getD, List.getElem?_eq_none h]; rfl
/-- What changes between two rows, one of them with dark cells behind it. -/
def chgW (a b : List UInt8) : Int := chgK (rowW a) (rowW b) 6
theorem chgW_pad {a b : List UInt8} {d e m : Nat} (ha : a.length ≤ m) (hb : b.length ≤ m) (h6 : m ≤ 6) : chgK (rowW a ++ List.replicate d 0) (rowW b ++ List.replicate e 0) m = chgW a b := by
  have h1 : chgK (rowW a ++ List.replicate d 0) (rowW b ++ List.replicate e 0) m = chgK (rowW a) (rowW b) m := chgK_congr fun j _ => ⟨getD_pad _ _ _, getD_pad _ _ _⟩
  have h2 := chgK_more (a := rowW a) (b := rowW b) (m := m) (fun j hj => ⟨getD_off _ (by rw [rowW_len]; omega), getD_off _ (by rw [rowW_len]; omega)⟩) (6 - m)
  rw [h1, ← h2, show m + (6 - m) = 6 by omega]; rfl
theorem pad_cell (a : List UInt8) (d j : Nat) : 0 ≤ (rowW a ++ List.replicate d 0).getD j 0 ∧ (rowW a ++ List.replicate d 0).getD j 0 ≤ 127 := by
  rw [getD_pad]; exact rowW_at a j

set_option maxRecDepth 4000 in
theorem spec_l4Ch6 (a b : List Int) (hl : a.length ≤ b.length) (hl6 : a.length ≤ 6) (ha : ∀ i, i < a.length → 0 ≤ a.getD i 0 ∧ a.getD i 0 ≤ 127) (hb : ∀ i, i < a.length → 0 ≤ b.getD i 0 ∧ b.getD i 0 ≤ 127) : PCalls Tryd.prog 62 [.sl a.length (a.map (.int .i64)), .sl b.length (b.map (.int .i64))] (· = [.val (.int .i64 (chgK a b a.length))]) := by
  refine pcalls_of_code (n := 25) az Tryd.func62 (by kernel_rfl) rfl rfl (Nat.le_of_ble_eq_true rfl) (by intro t u h; simp [Tryd.f62] at h) ?_
  refine code_seq (fun K1 hK1 => ?_)
  refine code_region ?_
  refine list_cons rfl (op_q (q_assign rfl (by decide)) ?_)
  refine list_nil ?_
  refine hK1 _ ?_; clear hK1 K1
  refine code_seq (fun K2 hK2 => ?_)
  refine code_region ?_
  refine list_cons rfl (op_q (q_assign rfl (by decide)) ?_)
  refine list_nil ?_
  refine hK2 _ ?_; clear hK2 K2
  refine code_seq (fun K3 hK3 => ?_)
  refine code_seq (fun K4 hK4 => ?_)
  refine code_region ?_
  refine list_cons rfl (op_q (q_assign rfl (by decide)) ?_)
  refine list_nil ?_
  refine hK4 _ ?_; clear hK4 K4
  refine code_block ?_
  refine code_loop (X := Int × Int × Int) (fun x => [(0, .par 0 (.sl a.length (a.map (.int .i64)))), (1, .par 1 (.sl b.length (b.map (.int .i64)))), (4, .val (.int .i64 x.1)), (5, .val (.int .i64 x.2.1)), (6, .val (.int .i64 x.2.2))]) (fun x => 0 ≤ x.2.2 ∧ x.2.2 ≤ a.length ∧ x.2.1 = chgK a b x.2.2.toNat) (fun x => (a.length - x.2.2).toNat) (_, _, _) (imp_covers ⟨rfl, rfl, rfl, rfl, rfl, trivial⟩) ?_ ?_
  · (try dsimp only)
    exact ⟨by omega, by omega, rfl⟩
  · intro x hI
    obtain ⟨t4, sum, i⟩ := x
    replace hI : 0 ≤ i ∧ i ≤ a.length ∧ sum = chgK a b i.toNat := hI
    show codeT _ _ _ [(0, .par 0 (.sl a.length (a.map (.int .i64)))), (1, .par 1 (.sl b.length (b.map (.int .i64)))), (4, .val (.int .i64 t4)), (5, .val (.int .i64 sum)), (6, .val (.int .i64 i))] _
    obtain ⟨i1, i2, rfl⟩ := hI
    have hc := chgK_le a b i.toNat
    have hd := cnt7_le ((a.getD i.toNat 0).toNat ^^^ (b.getD i.toNat 0).toNat)
    refine code_seq (fun K5 hK5 => ?_)
    refine code_seq (fun K6 hK6 => ?_)
    refine code_region ?_
    refine list_cons rfl (op_q (q_move rfl (by decide)) ?_)
    refine list_cons rfl (op_q (q_move rfl (by decide)) ?_)
    refine list_cons rfl (op_q (q_len_sl Tryd.underlying28 rfl rfl (by decide)) ?_)
    refine list_cons rfl (op_q (q_lt rfl rfl (by decide)) ?_)
    refine list_nil ?_
    refine hK6 _ ?_; clear hK6 K6
    refine code_cond_d rfl (fun h1 => ?_) (fun h1 => ?_)
    · skip
      (try simp only [Decidable.not_not] at h1)
      refine code_skip ?_
      refine hK5 _ ?_; clear hK5 K5
      refine code_seq (fun K7 hK7 => ?_)
      refine code_block ?_
      refine code_draw (by kernel_rfl) (by kernel_rfl) ?_
      refine draw_q rfl (q_move rfl (by decide)) ?_
      refine draw_q rfl (q_move rfl (by decide)) ?_
      refine draw_q rfl (q_move rfl (by decide)) ?_
      refine draw_q rfl (q_indexAddr_rd sl_28 rfl (.inl ⟨_, rfl, rfl⟩) rfl (by omega) (by omega) (by decide)) ?_
      refine draw_q rfl (q_load_rd one_3 rfl (.inl ⟨_, (by first | rfl | exact congrArg (SV.rpar _) (drop_map1 _ 0 _ (by first | omega | (simp; omega)))), rfl⟩) (by decide)) ?_
      refine draw_q rfl (q_move rfl (by decide)) ?_
      refine draw_q rfl (q_move rfl (by decide)) ?_
      refine draw_q rfl (q_indexAddr_rd sl_28 rfl (.inl ⟨_, rfl, rfl⟩) rfl (by omega) (by omega) (by decide)) ?_
      refine draw_q rfl (q_load_rd one_3 rfl (.inl ⟨_, (by first | rfl | exact congrArg (SV.rpar _) (drop_map1 _ 0 _ (by first | omega | (simp; omega)))), rfl⟩) (by decide)) ?_
      refine draw_call _ (spec_l2Far _ _ (ha i.toNat (by omega)) (hb i.toNat (by omega))) rfl rfl rfl (by decide) ?_
      refine draw_q rfl (by first | exact q_addI rfl rfl (by decide) (by omega) (by omega) | exact q_ib rfl rfl rfl (by decide)) ?_
      refine draw_q rfl (q_assign rfl (by decide)) ?_
      refine draw_nil ?_
      refine blk_n ?_
      refine hK7 _ ?_; clear hK7 K7
      refine codeT.imp (σ' := [(0, _), (1, _), (4, _), (5, _), (6, _)]) ?_ (imp_covers ⟨rfl, rfl, rfl, rfl, rfl, trivial⟩)
      refine code_region ?_
      refine list_cons rfl (op_q (q_move rfl (by decide)) ?_)
      refine list_cons rfl (op_q (by first | exact q_addI rfl rfl (by decide) (by omega) (by omega) | exact q_ib rfl rfl rfl (by decide)) ?_)
      refine list_cons rfl (op_q (q_assign rfl (by decide)) ?_)
      refine list_nil ?_
      refine then_n ⟨(_, _, _), imp_covers ⟨rfl, rfl, rfl, rfl, rfl, trivial⟩, ?_, ?_⟩
      · (try dsimp only)
        refine ⟨by omega, by omega, ?_⟩
        rw [show (i + 1).toNat = i.toNat + 1 by omega, chgK]
      · (try dsimp only); omega
    (try simp only [Decidable.not_not] at h1)
    refine code_exit ?_
    refine then_x ?_; clear hK5 K5
    refine then_x ?_
    refine blk_hit ?_
    refine hK3 _ ?_; clear hK3 K3
    refine code_seq (fun K8 hK8 => ?_)
    refine code_region ?_
    refine list_cons rfl (op_q (q_move rfl (by decide)) ?_)
    refine list_cons rfl (op_q (q_assign rfl (by decide)) ?_)
    refine list_nil ?_
    refine hK8 _ ?_; clear hK8 K8
    refine code_ret ?_
    refine ends_ret (cs := []) rfl rfl rfl rfl trivial ?_
    rw [show i.toNat = a.length by omega]

theorem spec_l4ChP (a b : List UInt8) (d e : Nat) (h : a.length + d = b.length + e) (h6 : a.length + d ≤ 6) : PCalls Tryd.prog 62 [.sl (a.length + d) ((rowW a ++ List.replicate d 0).map (.int .i64)), .sl (b.length + e) ((rowW b ++ List.replicate e 0).map (.int .i64))] (· = [.val (.int .i64 (chgW a b))]) := by
  have l1 : (rowW a ++ List.replicate d 0).length = a.length + d := by rw [List.length_append, rowW_len, List.length_replicate]
  have l2 : (rowW b ++ List.replicate e 0).length = b.length + e := by rw [List.length_append, rowW_len, List.length_replicate]
  have := spec_l4Ch6 (rowW a ++ List.replicate d 0) (rowW b ++ List.replicate e 0) (by omega) (by omega) (fun i _ => pad_cell a d i) (fun i _ => pad_cell b e i)
  rw [l1, l2, chgW_pad (by omega) (by omega) h6] at this
  exact this

set_option maxRecDepth 4000 in
theorem spec_WordChanges (a b : List UInt8) (ha : a.length ≤ 4611686018427387904) (hb : b.length ≤ 4611686018427387904) : PCalls Tryd.prog 33 [.str a, .str b] (· = [.val (.int .i64 (if WrdP a 6 ∧ WrdP b 6 then chgW a b else 0)), .val (.bool (decide (WrdP a 6 ∧ WrdP b 6)))]) := by
  refine pcalls_of_code (n := 39) az Tryd.func33 (by kernel_rfl) rfl rfl (Nat.le_of_ble_eq_true rfl) (by intro t u h; simp [Tryd.f33] at h) ?_
  have hla := rowW_len a
  have hlb := rowW_len b
  refine code_seq (fun K1 hK1 => ?_)
  refine code_region ?_
  refine list_cons rfl (op_q (q_assign rfl (by decide)) ?_)
  refine list_cons rfl (op_q (q_assign rfl (by decide)) ?_)
  refine list_nil ?_
  refine hK1 _ ?_; clear hK1 K1
  refine code_seq (fun K2 hK2 => ?_)
  refine code_seq (fun K3 hK3 => ?_)
  refine code_region ?_
  refine list_cons rfl (op_q (q_move rfl (by decide)) ?_)
  refine list_cons rfl (op_call _ (spec_l10Word _ _ (by first | omega | assumption) (by omega) (by omega)) rfl rfl (by decide) (by decide) (by decide) rfl ?_)
  rintro _ rfl
  refine list_cons rfl (op_q (by first | exact q_notd rfl (by decide) | exact q_not rfl (by decide)) ?_)
  refine list_cons rfl (op_q (q_move rfl (by decide)) ?_)
  refine list_guard_d rfl rfl rfl rfl (by decide) rfl (by decide) (fun h1 => ?_) (fun h1 => ?_)
  · simp only [Bool.false_eq_true, if_true, if_false, Decidable.not_not] at h1
    refine id (op_q (q_move rfl (by decide)) ?_)
    refine list_guard_y rfl rfl rfl rfl (by decide) rfl ?_
    refine id (op_call _ (spec_l10Word _ _ (by first | omega | assumption) (by omega) (by omega)) rfl rfl (by decide) (by decide) (by decide) rfl ?_)
    rintro _ rfl
    refine list_guard_y rfl rfl rfl rfl (by decide) rfl ?_
    refine id (op_q (by first | exact q_notd rfl (by decide) | exact q_not rfl (by decide)) ?_)
    refine list_cons rfl (op_q (q_pick rfl rfl (by decide)) ?_)
    refine list_nil ?_
    refine hK3 _ ?_; clear hK3 K3
    refine codeT.imp (σ' := [(0, _), (1, _), (4, _), (5, _), (15, _)]) ?_ (imp_covers ⟨rfl, rfl, rfl, rfl, rfl, trivial⟩)
    refine code_cond_d rfl (fun h2 => ?_) (fun h2 => ?_)
    · skip
      (try simp only [Decidable.not_not] at h2)
      refine code_seq (fun K4 hK4 => ?_)
      refine code_region ?_
      refine list_cons rfl (op_q (q_assign rfl (by decide)) ?_)
      refine list_cons rfl (op_q (q_assign rfl (by decide)) ?_)
      refine list_nil ?_
      refine hK4 _ ?_; clear hK4 K4
      refine code_ret ?_
      refine then_r ?_; clear hK2 K2
      refine ends_ret (cs := []) rfl rfl rfl rfl trivial ?_
      first
        | (have hn : ¬ (WrdP a 6 ∧ WrdP b 6) := fun z => by have z1 := z.1; have z2 := z.2; contradiction
           simp only [if_neg hn, decide_eq_false hn]; done)
        | (have hn : WrdP a 6 ∧ WrdP b 6 := ⟨hW, hV⟩
           simp only [if_pos hn, decide_eq_true hn]; done)
    (try simp only [Decidable.not_not] at h2)
    refine code_skip ?_
    refine hK2 _ ?_; clear hK2 K2
    refine code_seq (fun K5 hK5 => ?_)
    refine code_region ?_
    refine list_cons rfl (op_q (q_move rfl (by decide)) ?_)
    refine list_cons rfl (op_call _ (spec_l10Row a (show WrdP a 6 by assumption).2 (by have := (show WrdP a 6 by assumption).1; omega)) rfl rfl (by decide) (by decide) (by decide) rfl ?_)
    rintro _ rfl
    refine list_cons rfl (op_q (q_move rfl (by decide)) ?_)
    refine list_cons rfl (op_call _ (spec_l10Row b (show WrdP b 6 by assumption).2 (by have := (show WrdP b 6 by assumption).1; omega)) rfl rfl (by decide) (by decide) (by decide) rfl ?_)
    rintro _ rfl
    refine list_cons rfl (op_q (q_assign rfl (by decide)) ?_)
    refine list_cons rfl (op_q (q_assign rfl (by decide)) ?_)
    refine list_nil ?_
    refine hK5 _ ?_; clear hK5 K5
    refine codeT.imp (σ' := [(0, _), (1, _), (4, _), (5, _), (6, _), (7, _)]) ?_ (imp_covers ⟨rfl, rfl, rfl, rfl, rfl, rfl, trivial⟩)
    refine code_seq (fun K6 hK6 => ?_)
    refine code_block ?_
    refine code_loop (X := Int × Bool × Nat × List PV × Nat × List PV) (fun x => [(0, .val (.str a)), (1, .val (.str b)), (4, .val (.int .i64 x.1)), (5, .val (.bool x.2.1)), (6, .own 17 3 1 x.2.2.1 x.2.2.2.1), (7, .own 19 3 1 x.2.2.2.2.1 x.2.2.2.2.2)]) (fun x => (WrdP a 6 ∧ WrdP b 6) ∧ x.2.2.2.2.1 = b.length ∧ x.2.2.2.2.2 = (rowW b).map (.int .i64) ∧ ∃ d, x.2.2.1 = a.length + d ∧ x.2.2.2.1 = (rowW a ++ List.replicate d 0).map (.int .i64) ∧ (d = 0 ∨ a.length + d ≤ b.length)) (fun x => b.length - x.2.2.1) (_, _, _, _, _, _) (imp_covers ⟨rfl, rfl, rfl, rfl, rfl, rfl, trivial⟩) ?_ ?_
    · (try dsimp only)
      exact ⟨⟨by assumption, by assumption⟩, by omega, rfl, 0, by omega, by simp, .inl rfl⟩
    · intro x hI
      obtain ⟨t4, t5, x__n, x__c, y_n, y_c⟩ := x
      replace hI : (WrdP a 6 ∧ WrdP b 6) ∧ y_n = b.length ∧ y_c = (rowW b).map (.int .i64) ∧ ∃ d, x__n = a.length + d ∧ x__c = (rowW a ++ List.replicate d 0).map (.int .i64) ∧ (d = 0 ∨ a.length + d ≤ b.length) := hI
      show codeT _ _ _ [(0, .val (.str a)), (1, .val (.str b)), (4, .val (.int .i64 t4)), (5, .val (.bool t5)), (6, .own 17 3 1 x__n x__c), (7, .own 19 3 1 y_n y_c)] _
      obtain ⟨⟨hW, hV⟩, rfl, rfl, d, rfl, rfl, hd⟩ := hI
      have hW6 := hW.1
      have hV6 := hV.1
      refine code_seq (fun K7 hK7 => ?_)
      refine code_seq (fun K8 hK8 => ?_)
      refine code_region ?_
      refine list_cons rfl (op_q (q_move rfl (by decide)) ?_)
      refine list_cons rfl (op_q (q_len_sl Tryd.underlying28 rfl rfl (by decide)) ?_)
      refine list_cons rfl (op_q (q_move rfl (by decide)) ?_)
      refine list_cons rfl (op_q (q_len_sl Tryd.underlying28 rfl rfl (by decide)) ?_)
      refine list_cons rfl (op_q (q_lt rfl rfl (by decide)) ?_)
      refine list_nil ?_
      refine hK8 _ ?_; clear hK8 K8
      refine code_cond_d rfl (fun h3 => ?_) (fun h3 => ?_)
      · skip
        (try simp only [Decidable.not_not] at h3)
        refine code_skip ?_
        refine hK7 _ ?_; clear hK7 K7
        refine code_block ?_
        refine code_region ?_
        refine list_cons rfl (op_q (q_move rfl (by decide)) ?_)
        refine list_cons rfl (op_buildSlice sl_28 (parts := [(0, _)]) rfl rfl rfl (by decide) (by decide) (by decide) rfl ?_)
        refine list_cons rfl (op_append_gen sl_28 (l := 17) (.inl rfl) rfl rfl (l2 := none) (.inl ⟨rfl, (by first | rfl | exact flat_map _ (fun _ => rfl) _)⟩) (by first | rfl | (simp; done) | (simp; omega)) (by omega) (by decide) (by decide) (by decide) ?_)
        refine list_cons rfl (op_q (q_assign rfl (by decide)) ?_)
        refine list_nil ?_
        refine blk_n ?_
        refine then_n ⟨(_, _, _, _, _, _), imp_covers ⟨rfl, rfl, rfl, rfl, rfl, rfl, trivial⟩, ?_, ?_⟩
        · (try dsimp only)
          exact ⟨⟨hW, hV⟩, rfl, rfl, d + 1, by omega, by rw [List.replicate_succ', ← List.append_assoc]; exact (List.map_append (f := PV.int .i64) (l₁ := rowW a ++ List.replicate d 0) (l₂ := [0])).symm, .inr (by omega)⟩
        · (try dsimp only); omega
      (try simp only [Decidable.not_not] at h3)
      refine code_exit ?_
      refine then_x ?_; clear hK7 K7
      refine then_x ?_
      refine blk_hit ?_
      refine hK6 _ ?_; clear hK6 K6
      refine codeT.imp (σ' := [(0, _), (1, _), (4, _), (5, _), (6, _), (7, _)]) ?_ (imp_covers ⟨rfl, rfl, rfl, rfl, rfl, rfl, trivial⟩)
      refine code_seq (fun K9 hK9 => ?_)
      refine code_block ?_
      refine code_loop (X := Int × Bool × Nat × List PV × Nat × List PV) (fun x => [(0, .val (.str a)), (1, .val (.str b)), (4, .val (.int .i64 x.1)), (5, .val (.bool x.2.1)), (6, .own 17 3 1 x.2.2.1 x.2.2.2.1), (7, .own 19 3 1 x.2.2.2.2.1 x.2.2.2.2.2)]) (fun x => ∃ d e, x.2.2.1 = a.length + d ∧ x.2.2.2.1 = (rowW a ++ List.replicate d 0).map (.int .i64) ∧ x.2.2.2.2.1 = b.length + e ∧ x.2.2.2.2.2 = (rowW b ++ List.replicate e 0).map (.int .i64) ∧ b.length + e ≤ a.length + d ∧ a.length + d ≤ 6) (fun x => x.2.2.1 - x.2.2.2.2.1) (_, _, _, _, _, _) (imp_covers ⟨rfl, rfl, rfl, rfl, rfl, rfl, trivial⟩) ?_ ?_
      · (try dsimp only)
        exact ⟨d, 0, rfl, rfl, by omega, by simp, by omega, by omega⟩
      · intro x hI
        obtain ⟨t4, t5, x__n, x__c, y_n, y_c⟩ := x
        replace hI : ∃ d e, x__n = a.length + d ∧ x__c = (rowW a ++ List.replicate d 0).map (.int .i64) ∧ y_n = b.length + e ∧ y_c = (rowW b ++ List.replicate e 0).map (.int .i64) ∧ b.length + e ≤ a.length + d ∧ a.length + d ≤ 6 := hI
        show codeT _ _ _ [(0, .val (.str a)), (1, .val (.str b)), (4, .val (.int .i64 t4)), (5, .val (.bool t5)), (6, .own 17 3 1 x__n x__c), (7, .own 19 3 1 y_n y_c)] _
        obtain ⟨d1, e, rfl, rfl, rfl, rfl, i1, i2⟩ := hI
        refine code_seq (fun K10 hK10 => ?_)
        refine code_seq (fun K11 hK11 => ?_)
        refine code_region ?_
        refine list_cons rfl (op_q (q_move rfl (by decide)) ?_)
        refine list_cons rfl (op_q (q_len_sl Tryd.underlying28 rfl rfl (by decide)) ?_)
        refine list_cons rfl (op_q (q_move rfl (by decide)) ?_)
        refine list_cons rfl (op_q (q_len_sl Tryd.underlying28 rfl rfl (by decide)) ?_)
        refine list_cons rfl (op_q (q_lt rfl rfl (by decide)) ?_)
        refine list_nil ?_
        refine hK11 _ ?_; clear hK11 K11
        refine code_cond_d rfl (fun h4 => ?_) (fun h4 => ?_)
        · skip
          (try simp only [Decidable.not_not] at h4)
          refine code_skip ?_
          refine hK10 _ ?_; clear hK10 K10
          refine code_block ?_
          refine code_region ?_
          refine list_cons rfl (op_q (q_move rfl (by decide)) ?_)
          refine list_cons rfl (op_buildSlice sl_28 (parts := [(0, _)]) rfl rfl rfl (by decide) (by decide) (by decide) rfl ?_)
          refine list_cons rfl (op_append_gen sl_28 (l := 19) (.inl rfl) rfl rfl (l2 := none) (.inl ⟨rfl, (by first | rfl | exact flat_map _ (fun _ => rfl) _)⟩) (by first | rfl | (simp; done) | (simp; omega)) (by omega) (by decide) (by decide) (by decide) ?_)
          refine list_cons rfl (op_q (q_assign rfl (by decide)) ?_)
          refine list_nil ?_
          refine blk_n ?_
          refine then_n ⟨(_, _, _, _, _, _), imp_covers ⟨rfl, rfl, rfl, rfl, rfl, rfl, trivial⟩, ?_, ?_⟩
          · (try dsimp only)
            exact ⟨d1, e + 1, rfl, rfl, by omega, by rw [List.replicate_succ', ← List.append_assoc]; exact (List.map_append (f := PV.int .i64) (l₁ := rowW b ++ List.replicate e 0) (l₂ := [0])).symm, by omega, by omega⟩
          · (try dsimp only); omega
        (try simp only [Decidable.not_not] at h4)
        refine code_exit ?_
        refine then_x ?_; clear hK10 K10
        refine then_x ?_
        refine blk_hit ?_
        refine hK9 _ ?_; clear hK9 K9
        refine codeT.imp (σ' := [(0, _), (1, _), (4, _), (5, _), (6, _), (7, _)]) ?_ (imp_covers ⟨rfl, rfl, rfl, rfl, rfl, rfl, trivial⟩)
        refine code_seq (fun K12 hK12 => ?_)
        refine code_region ?_
        refine list_cons rfl (op_q (q_move rfl (by decide)) ?_)
        refine list_cons rfl (op_q (q_move rfl (by decide)) ?_)
        refine list_cons rfl (op_call _ (spec_l4ChP a b d1 e (by omega) (by omega)) rfl rfl (by decide) (by decide) (by decide) rfl ?_)
        rintro _ rfl
        refine list_cons rfl (op_q (q_assign rfl (by decide)) ?_)
        refine list_cons rfl (op_q (q_assign rfl (by decide)) ?_)
        refine list_nil ?_
        refine hK12 _ ?_; clear hK12 K12
        refine codeT.imp (σ' := [(0, _), (1, _), (4, _), (5, _), (6, _), (7, _)]) ?_ (imp_covers ⟨rfl, rfl, rfl, rfl, rfl, rfl, trivial⟩)
        refine code_ret ?_
        refine ends_ret (cs := []) rfl rfl rfl rfl trivial ?_
        first
          | (have hn : ¬ (WrdP a 6 ∧ WrdP b 6) := fun z => by have z1 := z.1; have z2 := z.2; contradiction
             simp only [if_neg hn, decide_eq_false hn]; done)
          | (have hn : WrdP a 6 ∧ WrdP b 6 := ⟨hW, hV⟩
             simp only [if_pos hn, decide_eq_true hn]; done)
  simp only [Bool.false_eq_true, if_true, if_false, Decidable.not_not] at h1
  refine list_guard_n rfl rfl rfl rfl (by decide) rfl ?_
  refine list_guard_n rfl rfl rfl rfl (by decide) rfl ?_
  refine list_cons rfl (op_q (q_pick rfl rfl (by decide)) ?_)
  refine list_nil ?_
  refine hK3 _ ?_; clear hK3 K3
  refine code_cond_t rfl ?_
  refine code_seq (fun K13 hK13 => ?_)
  refine code_region ?_
  refine list_cons rfl (op_q (q_assign rfl (by decide)) ?_)
  refine list_cons rfl (op_q (q_assign rfl (by decide)) ?_)
  refine list_nil ?_
  refine hK13 _ ?_; clear hK13 K13
  refine code_ret ?_
  refine then_r ?_; clear hK2 K2
  refine ends_ret (cs := []) rfl rfl rfl rfl trivial ?_
  first
    | (have hn : ¬ (WrdP a 6 ∧ WrdP b 6) := fun z => by have z1 := z.1; have z2 := z.2; contradiction
       simp only [if_neg hn, decide_eq_false hn]; done)
    | (have hn : WrdP a 6 ∧ WrdP b 6 := ⟨hW, hV⟩
       simp only [if_pos hn, decide_eq_true hn]; done)

theorem hasC_iff {k : Nat} {c : Int} (h0 : 0 ≤ c) : (((ltrT.getD k 0).toNat &&& c.toNat : Nat) : Int) = c ↔ hasC k c = true := by
  unfold hasC
  constructor
  · intro h
    have : (ltrT.getD k 0).toNat &&& c.toNat = c.toNat := by omega
    rw [this]; exact Nat.beq_refl _
  · intro h
    have := Nat.eq_of_beq_eq_true h
    omega

set_option maxRecDepth 4000 in
theorem spec_l10Can (c : Int) (hc : 0 ≤ c ∧ c ≤ 127) : PCalls Tryd.prog 68 [.int .i64 c] (· = [.own 0 3 1 (canI c 16).length ((canI c 16).map (.int .i64))]) := by
  refine pcalls_of_code (n := 21) az Tryd.func68 (by kernel_rfl) rfl rfl (Nat.le_of_ble_eq_true rfl) (by intro t u h; simp [Tryd.f68] at h) ?_
  obtain ⟨hc0, hc1⟩ := hc
  refine code_seq (fun K1 hK1 => ?_)
  refine code_region ?_
  refine list_cons rfl (op_q (q_assign rfl (by decide)) ?_)
  refine list_nil ?_
  refine hK1 _ ?_; clear hK1 K1
  refine code_seq (fun K2 hK2 => ?_)
  refine code_region ?_
  refine list_cons rfl (op_buildSlice sl_28 (parts := []) rfl rfl rfl (by decide) (by decide) (by decide) rfl ?_)
  refine list_cons rfl (op_q (q_assign rfl (by decide)) ?_)
  refine list_nil ?_
  refine hK2 _ ?_; clear hK2 K2
  refine code_seq (fun K3 hK3 => ?_)
  refine code_seq (fun K4 hK4 => ?_)
  refine code_region ?_
  refine list_cons rfl (op_q (q_assign rfl (by decide)) ?_)
  refine list_nil ?_
  refine hK4 _ ?_; clear hK4 K4
  refine code_block ?_
  refine code_loop (X := PV × Nat × List PV × Int) (fun x => [(0, .val (.int .i64 c)), (2, .val x.1), (3, .own 5 3 1 x.2.1 x.2.2.1), (4, .val (.int .i64 x.2.2.2))]) (fun x => 0 ≤ x.2.2.2 ∧ x.2.2.2 ≤ 16 ∧ x.2.1 = (canI c x.2.2.2.toNat).length ∧ x.2.2.1 = (canI c x.2.2.2.toNat).map (.int .i64)) (fun x => 16 - x.2.2.2.toNat) (_, _, _, _) (imp_covers ⟨rfl, rfl, rfl, rfl, trivial⟩) ?_ ?_
  · (try dsimp only)
    exact ⟨by omega, by omega, rfl, rfl⟩
  · intro x hI
    obtain ⟨t2_p, out_n, out_c, k⟩ := x
    replace hI : 0 ≤ k ∧ k ≤ 16 ∧ out_n = (canI c k.toNat).length ∧ out_c = (canI c k.toNat).map (.int .i64) := hI
    show codeT _ _ _ [(0, .val (.int .i64 c)), (2, .val t2_p), (3, .own 5 3 1 out_n out_c), (4, .val (.int .i64 k))] _
    obtain ⟨i1, i2, rfl, rfl⟩ := hI
    have hcl := canI_len c k.toNat
    have hlt := ltrT_cell k.toNat
    refine code_seq (fun K5 hK5 => ?_)
    refine code_seq (fun K6 hK6 => ?_)
    refine code_region ?_
    refine list_cons rfl (op_q (q_move rfl (by decide)) ?_)
    refine list_cons rfl (op_q (q_lt rfl rfl (by decide)) ?_)
    refine list_nil ?_
    refine hK6 _ ?_; clear hK6 K6
    refine code_cond_d rfl (fun h1 => ?_) (fun h1 => ?_)
    · skip
      (try simp only [Decidable.not_not] at h1)
      refine code_skip ?_
      refine hK5 _ ?_; clear hK5 K5
      refine code_seq (fun K7 hK7 => ?_)
      refine code_block ?_
      refine code_seq (fun K8 hK8 => ?_)
      refine code_region ?_
      refine list_cons rfl (op_q (q_move rfl (by decide)) ?_)
      refine list_cons rfl (op_call _ (spec_l10Of _ (by omega) (by omega)) rfl rfl (by decide) (by decide) (by decide) rfl ?_)
      rintro _ rfl
      refine list_cons rfl (op_q (q_move rfl (by decide)) ?_)
      refine list_cons rfl (op_q (by first | exact q_andI rfl rfl (by decide) (by omega) (by omega) (by omega) (by omega) | exact q_ib rfl rfl rfl (by decide)) ?_)
      refine list_cons rfl (op_q (q_move rfl (by decide)) ?_)
      refine list_cons rfl (op_q (q_eq rfl rfl (by decide)) ?_)
      refine list_nil ?_
      refine hK8 _ ?_; clear hK8 K8
      refine codeT.imp (σ' := [(0, _), (2, _), (3, _), (4, _), (15, _)]) ?_ (imp_covers ⟨rfl, rfl, rfl, rfl, rfl, trivial⟩)
      refine code_cond_d rfl (fun h2 => ?_) (fun h2 => ?_)
      · skip
        (try simp only [Decidable.not_not] at h2)
        refine code_region ?_
        refine list_cons rfl (op_q (q_move rfl (by decide)) ?_)
        refine list_cons rfl (op_q (q_move rfl (by decide)) ?_)
        refine list_cons rfl (op_buildSlice sl_28 (parts := [(0, .tmp 17)]) rfl rfl rfl (by decide) (by decide) (by decide) rfl ?_)
        refine list_cons rfl (op_append_gen sl_28 (l := 5) (.inl rfl) rfl rfl (l2 := none) (.inl ⟨rfl, (by first | rfl | exact flat_map _ (fun _ => rfl) _)⟩) (by first | rfl | (simp; done) | (simp; omega)) (by omega) (by decide) (by decide) (by decide) ?_)
        refine list_cons rfl (op_q (q_assign rfl (by decide)) ?_)
        refine list_nil ?_
        refine blk_n ?_
        refine hK7 _ ?_; clear hK7 K7
        refine codeT.imp (σ' := [(0, _), (2, _), (3, _), (4, _)]) ?_ (imp_covers ⟨rfl, rfl, rfl, rfl, trivial⟩)
        refine code_region ?_
        refine list_cons rfl (op_q (q_move rfl (by decide)) ?_)
        refine list_cons rfl (op_q (by first | exact q_addI rfl rfl (by decide) (by omega) (by omega) | exact q_ib rfl rfl rfl (by decide)) ?_)
        refine list_cons rfl (op_q (q_assign rfl (by decide)) ?_)
        refine list_nil ?_
        refine then_n ⟨(_, _, _, _), imp_covers ⟨rfl, rfl, rfl, rfl, trivial⟩, ?_, ?_⟩
        · (try dsimp only)
          refine ⟨by omega, by omega, ?_⟩
          rw [show (k + 1).toNat = k.toNat + 1 by omega]
          have hk : ((k.toNat : Nat) : Int) = k := by omega
          have hh := h2
          have hx := hasC_iff (k := k.toNat) hc0
          rw [canI_succ]
          first
          | (rw [if_pos (hx.1 hh), hk, List.map_append, List.length_append]; exact ⟨rfl, rfl⟩)
          | (rw [if_neg (fun z => hh (hx.2 z))]; exact ⟨rfl, rfl⟩)
        · (try dsimp only); omega
      (try simp only [Decidable.not_not] at h2)
      refine code_skip ?_
      refine blk_n ?_
      refine hK7 _ ?_; clear hK7 K7
      refine code_region ?_
      refine list_cons rfl (op_q (q_move rfl (by decide)) ?_)
      refine list_cons rfl (op_q (by first | exact q_addI rfl rfl (by decide) (by omega) (by omega) | exact q_ib rfl rfl rfl (by decide)) ?_)
      refine list_cons rfl (op_q (q_assign rfl (by decide)) ?_)
      refine list_nil ?_
      refine then_n ⟨(_, _, _, _), imp_covers ⟨rfl, rfl, rfl, rfl, trivial⟩, ?_, ?_⟩
      · (try dsimp only)
        refine ⟨by omega, by omega, ?_⟩
        rw [show (k + 1).toNat = k.toNat + 1 by omega]
        have hk : ((k.toNat : Nat) : Int) = k := by omega
        have hh := h2
        have hx := hasC_iff (k := k.toNat) hc0
        rw [canI_succ]
        first
        | (rw [if_pos (hx.1 hh), hk, List.map_append, List.length_append]; exact ⟨rfl, rfl⟩)
        | (rw [if_neg (fun z => hh (hx.2 z))]; exact ⟨rfl, rfl⟩)
      · (try dsimp only); omega
    (try simp only [Decidable.not_not] at h1)
    refine code_exit ?_
    refine then_x ?_; clear hK5 K5
    refine then_x ?_
    refine blk_hit ?_
    refine hK3 _ ?_; clear hK3 K3
    refine code_seq (fun K9 hK9 => ?_)
    refine code_region ?_
    refine list_cons rfl (op_q (q_move rfl (by decide)) ?_)
    refine list_cons rfl (op_q (q_assign rfl (by decide)) ?_)
    refine list_nil ?_
    refine hK9 _ ?_; clear hK9 K9
    refine code_ret ?_
    refine ends_ret (cs := []) rfl rfl rfl rfl trivial ?_
    rw [show k.toNat = 16 by omega]

theorem cntR_take {l : List Int} {k : Nat} (h : k < l.length) : cntR (l.take (k + 1)) = cntR (l.take k) * (canI (l.getD k 0) 16).length := by
  rw [take_snocI 0 l k h, cntR_app]
  show _ * ((canI (l.getD k 0) 16).length * 1) = _
  rw [Nat.mul_one]
theorem cntR_step {l : List Int} {k : Nat} (h : k < l.length) (h6 : l.length ≤ 6) : ((cntR (l.take k) : Nat) : Int) * ((canI (l.getD k 0) 16).length : Int) = ((cntR (l.take (k + 1)) : Nat) : Int) ∧ cntR (l.take (k + 1)) ≤ 16777216 := by
  rw [cntR_take h]
  refine ⟨by rw [Int.natCast_mul], ?_⟩
  rw [← cntR_take h]
  exact cntR_le6 (by rw [List.length_take]; omega)

set_option maxRecDepth 4000 in
theorem spec_l10Count (l : List Int) (hl : RowP l) : PCalls Tryd.prog 65 [.sl l.length (l.map (.int .i64))] (· = [.val (.int .i64 (((cntR l : Nat) : Int)))]) := by
  refine pcalls_of_code (n := 20) az Tryd.func65 (by kernel_rfl) rfl rfl (Nat.le_of_ble_eq_true rfl) (by intro t u h; simp [Tryd.f65] at h) ?_
  have hl6 := hl.1
  refine code_seq (fun K1 hK1 => ?_)
  refine code_region ?_
  refine list_cons rfl (op_q (q_assign rfl (by decide)) ?_)
  refine list_nil ?_
  refine hK1 _ ?_; clear hK1 K1
  refine code_seq (fun K2 hK2 => ?_)
  refine code_region ?_
  refine list_cons rfl (op_q (q_assign rfl (by decide)) ?_)
  refine list_nil ?_
  refine hK2 _ ?_; clear hK2 K2
  refine code_seq (fun K3 hK3 => ?_)
  refine code_seq (fun K4 hK4 => ?_)
  refine code_region ?_
  refine list_cons rfl (op_q (q_assign rfl (by decide)) ?_)
  refine list_nil ?_
  refine hK4 _ ?_; clear hK4 K4
  refine code_block ?_
  refine code_loop (X := Int × Int × Int) (fun x => [(0, .par 0 (.sl l.length (l.map (.int .i64)))), (2, .val (.int .i64 x.1)), (3, .val (.int .i64 x.2.1)), (4, .val (.int .i64 x.2.2))]) (fun x => 0 ≤ x.2.2 ∧ x.2.2 ≤ l.length ∧ x.2.1 = ((cntR (l.take x.2.2.toNat) : Nat) : Int)) (fun x => l.length - x.2.2.toNat) (_, _, _) (imp_covers ⟨rfl, rfl, rfl, rfl, trivial⟩) ?_ ?_
  · (try dsimp only)
    exact ⟨by omega, by omega, by rw [show (0 : Int).toNat = 0 from rfl, List.take_zero]; rfl⟩
  · intro x hI
    obtain ⟨t2, many, i⟩ := x
    replace hI : 0 ≤ i ∧ i ≤ l.length ∧ many = ((cntR (l.take i.toNat) : Nat) : Int) := hI
    show codeT _ _ _ [(0, .par 0 (.sl l.length (l.map (.int .i64)))), (2, .val (.int .i64 t2)), (3, .val (.int .i64 many)), (4, .val (.int .i64 i))] _
    obtain ⟨i1, i2, rfl⟩ := hI
    have hc := fun e : i < l.length => hl.at (j := i.toNat) (by omega)
    have hst := fun e : i < l.length => cntR_step (l := l) (k := i.toNat) (by omega) hl6
    refine code_seq (fun K5 hK5 => ?_)
    refine code_seq (fun K6 hK6 => ?_)
    refine code_region ?_
    refine list_cons rfl (op_q (q_move rfl (by decide)) ?_)
    refine list_cons rfl (op_q (q_move rfl (by decide)) ?_)
    refine list_cons rfl (op_q (q_len_sl Tryd.underlying28 rfl rfl (by decide)) ?_)
    refine list_cons rfl (op_q (q_lt rfl rfl (by decide)) ?_)
    refine list_nil ?_
    refine hK6 _ ?_; clear hK6 K6
    refine code_cond_d rfl (fun h1 => ?_) (fun h1 => ?_)
    · skip
      (try simp only [Decidable.not_not] at h1)
      refine code_skip ?_
      refine hK5 _ ?_; clear hK5 K5
      refine code_seq (fun K7 hK7 => ?_)
      refine code_block ?_
      refine code_region ?_
      refine list_cons rfl (op_q (q_move rfl (by decide)) ?_)
      refine list_cons rfl (op_q (q_move rfl (by decide)) ?_)
      refine list_cons rfl (op_q (q_move rfl (by decide)) ?_)
      refine list_cons rfl (op_q (q_indexAddr_rd sl_28 rfl (.inl ⟨_, rfl, rfl⟩) rfl (by omega) (by omega) (by decide)) ?_)
      refine list_cons rfl (op_q (q_load_rd one_3 rfl (.inl ⟨_, (by first | rfl | exact congrArg (SV.rpar _) (drop_map1 _ 0 _ (by first | omega | (simp; omega)))), rfl⟩) (by decide)) ?_)
      refine list_cons rfl (op_call _ (spec_l10Can _ (hc (by omega))) rfl rfl (by decide) (by decide) (by decide) rfl ?_)
      rintro _ rfl; have hs2 := hst (by omega)
      refine list_cons rfl (op_q (q_len_sl Tryd.underlying28 rfl rfl (by decide)) ?_)
      refine list_cons rfl (op_q (by first | exact q_mulI rfl rfl (by decide) (by omega) (by omega) | exact q_ib rfl rfl rfl (by decide)) ?_)
      refine list_cons rfl (op_q (q_assign rfl (by decide)) ?_)
      refine list_nil ?_
      refine blk_n ?_
      refine hK7 _ ?_; clear hK7 K7
      refine codeT.imp (σ' := [(0, _), (2, _), (3, _), (4, _)]) ?_ (imp_covers ⟨rfl, rfl, rfl, rfl, trivial⟩)
      refine code_region ?_
      refine list_cons rfl (op_q (q_move rfl (by decide)) ?_)
      refine list_cons rfl (op_q (by first | exact q_addI rfl rfl (by decide) (by omega) (by omega) | exact q_ib rfl rfl rfl (by decide)) ?_)
      refine list_cons rfl (op_q (q_assign rfl (by decide)) ?_)
      refine list_nil ?_
      refine then_n ⟨(_, _, _), imp_covers ⟨rfl, rfl, rfl, rfl, trivial⟩, ?_, ?_⟩
      · (try dsimp only)
        refine ⟨by omega, by omega, ?_⟩
        rw [show (i + 1).toNat = i.toNat + 1 by omega]; exact (hst (by omega)).1
      · (try dsimp only); omega
    (try simp only [Decidable.not_not] at h1)
    refine code_exit ?_
    refine then_x ?_; clear hK5 K5
    refine then_x ?_
    refine blk_hit ?_
    refine hK3 _ ?_; clear hK3 K3
    refine code_seq (fun K8 hK8 => ?_)
    refine code_region ?_
    refine list_cons rfl (op_q (q_move rfl (by decide)) ?_)
    refine list_cons rfl (op_q (q_assign rfl (by decide)) ?_)
    refine list_nil ?_
    refine hK8 _ ?_; clear hK8 K8
    refine code_ret ?_
    refine ends_ret (cs := []) rfl rfl rfl rfl trivial ?_
    rw [List.take_of_length_le (by omega)]

set_option maxRecDepth 4000 in
theorem spec_CountReadings (l : List Int) (hl : l.length ≤ 4611686018427387904) : PCalls Tryd.prog 35 [.sl l.length (l.map (.int .i64))] (· = [.val (.int .i64 (if RowP l then ((cntR l : Nat) : Int) else 0)), .val (.bool (decide (RowP l)))]) := by
  refine pcalls_of_code (n := 9) az Tryd.func35 (by kernel_rfl) rfl rfl (Nat.le_of_ble_eq_true rfl) (by intro t u h; simp [Tryd.f35] at h) ?_
  refine code_seq (fun K1 hK1 => ?_)
  refine code_region ?_
  refine list_cons rfl (op_q (q_assign rfl (by decide)) ?_)
  refine list_cons rfl (op_q (q_assign rfl (by decide)) ?_)
  refine list_nil ?_
  refine hK1 _ ?_; clear hK1 K1
  refine code_seq (fun K2 hK2 => ?_)
  refine code_seq (fun K3 hK3 => ?_)
  refine code_region ?_
  refine list_cons rfl (op_q (q_move rfl (by decide)) ?_)
  refine list_cons rfl (op_call _ (spec_l2Row _ (by first | omega | (simp; omega))) rfl rfl (by decide) (by decide) (by decide) rfl ?_)
  rintro _ rfl
  refine list_cons rfl (op_q (by first | exact q_notd rfl (by decide) | exact q_not rfl (by decide)) ?_)
  refine list_nil ?_
  refine hK3 _ ?_; clear hK3 K3
  refine codeT.imp (σ' := [(0, _), (2, _), (3, _), (6, _)]) ?_ (imp_covers ⟨rfl, rfl, rfl, rfl, trivial⟩)
  refine code_cond_d rfl (fun h1 => ?_) (fun h1 => ?_)
  · skip
    (try simp only [Decidable.not_not] at h1)
    refine code_seq (fun K4 hK4 => ?_)
    refine code_region ?_
    refine list_cons rfl (op_q (q_assign rfl (by decide)) ?_)
    refine list_cons rfl (op_q (q_assign rfl (by decide)) ?_)
    refine list_nil ?_
    refine hK4 _ ?_; clear hK4 K4
    refine code_ret ?_
    refine then_r ?_; clear hK2 K2
    refine ends_ret (cs := []) rfl rfl rfl rfl trivial ?_
    simp only [if_neg h1, decide_eq_false h1]
  (try simp only [Decidable.not_not] at h1)
  refine code_skip ?_
  refine hK2 _ ?_; clear hK2 K2
  refine code_seq (fun K5 hK5 => ?_)
  refine code_region ?_
  refine list_cons rfl (op_q (q_move rfl (by decide)) ?_)
  refine list_cons rfl (op_call _ (spec_l10Count _ (by assumption)) rfl rfl (by decide) (by decide) (by decide) rfl ?_)
  rintro _ rfl
  refine list_cons rfl (op_q (q_assign rfl (by decide)) ?_)
  refine list_cons rfl (op_q (q_assign rfl (by decide)) ?_)
  refine list_nil ?_
  refine hK5 _ ?_; clear hK5 K5
  refine codeT.imp (σ' := [(0, _), (2, _), (3, _)]) ?_ (imp_covers ⟨rfl, rfl, rfl, trivial⟩)
  refine code_ret ?_
  refine ends_ret (cs := []) rfl rfl rfl rfl trivial ?_
  simp only [if_pos h1, decide_eq_true h1]

theorem RowP.drop {l : List Int} (h : RowP l) (k : Nat) : RowP (l.drop k) := ⟨by rw [List.length_drop]; have := h.1; omega, fun x hx => h.2 x (List.mem_of_mem_drop hx)⟩
theorem spec_l10CountD (l : List Int) (j k : Nat) (cs : List PV) (hl : RowP l) (hk : k = (l.drop j).length) (hcs : cs = (l.drop j).map (.int .i64)) : PCalls Tryd.prog 65 [.sl k cs] (· = [.val (.int .i64 (((cntR (l.drop j) : Nat) : Int)))]) := by
  subst hk; subst hcs; exact spec_l10Count _ (hl.drop j)
theorem cntR_drop {l : List Int} {k : Nat} (h : k < l.length) : cntR (l.drop k) = (canI (l.getD k 0) 16).length * cntR (l.drop (k + 1)) := by
  rw [List.drop_eq_getElem_cons h]
  show (canI l[k] 16).length * _ = _
  rw [show l.getD k 0 = l[k] by simp [h]]
theorem rdT_drop {l : List Int} {k n : Nat} (h : k < l.length) : rdT (l.drop k) n = letN ((canI (l.getD k 0) 16).getD (n / cntR (l.drop (k + 1))) 0) :: rdT (l.drop (k + 1)) (n % cntR (l.drop (k + 1))) := by
  rw [List.drop_eq_getElem_cons h]
  show letN ((canI l[k] 16).getD _ 0) :: _ = _
  rw [show l.getD k 0 = l[k] by simp [h]]
theorem rd_ix {l : List Int} {k n : Nat} (h : k < l.length) (hn : n < cntR (l.drop k)) : 0 < cntR (l.drop (k + 1)) ∧ n / cntR (l.drop (k + 1)) < (canI (l.getD k 0) 16).length ∧ n % cntR (l.drop (k + 1)) < cntR (l.drop (k + 1)) := by
  rw [cntR_drop h] at hn
  have h0 : 0 < cntR (l.drop (k + 1)) := by
    rcases Nat.eq_zero_or_pos (cntR (l.drop (k + 1))) with e | e
    · rw [e, Nat.mul_zero] at hn; omega
    · exact e
  exact ⟨h0, Nat.div_lt_of_lt_mul (by rw [Nat.mul_comm]; exact hn), Nat.mod_lt _ h0⟩
theorem quo_cast {k : Int} {n : Nat} (h0 : 0 ≤ k) : k / (n : Int) = ((k.toNat / n : Nat) : Int) := by
  rw [Int.natCast_ediv, Int.toNat_of_nonneg h0]
theorem rem_cast {k : Int} {n : Nat} (h0 : 0 ≤ k) : k % (n : Int) = ((k.toNat % n : Nat) : Int) := by
  rw [Int.natCast_emod, Int.toNat_of_nonneg h0]

set_option maxRecDepth 4000 in
set_option maxHeartbeats 1000000 in
theorem spec_ReadingAt (l : List Int) (k : Int) (hl : l.length ≤ 4611686018427387904) : PCalls Tryd.prog 37 [.sl l.length (l.map (.int .i64)), .int .i64 k] (· = [.val (.str (if RowP l ∧ 0 ≤ k ∧ k < ((cntR l : Nat) : Int) then rdT l k.toNat else [])), .val (.bool (decide (RowP l ∧ 0 ≤ k ∧ k < ((cntR l : Nat) : Int))))]) := by
  refine pcalls_of_code (n := 54) az Tryd.func37 (by kernel_rfl) rfl rfl (Nat.le_of_ble_eq_true rfl) (by intro t u h; simp [Tryd.f37] at h) ?_
  have hb := cntR_le6 (l := l)
  refine code_seq (fun K1 hK1 => ?_)
  refine code_region ?_
  refine list_cons rfl (op_q (q_assign rfl (by decide)) ?_)
  refine list_cons rfl (op_q (q_assign rfl (by decide)) ?_)
  refine list_nil ?_
  refine hK1 _ ?_; clear hK1 K1
  refine code_seq (fun K2 hK2 => ?_)
  refine code_seq (fun K3 hK3 => ?_)
  refine code_region ?_
  refine list_cons rfl (op_q (q_move rfl (by decide)) ?_)
  refine list_cons rfl (op_call _ (spec_l2Row _ (by first | omega | (simp; omega))) rfl rfl (by decide) (by decide) (by decide) rfl ?_)
  rintro _ rfl
  refine list_cons rfl (op_q (by first | exact q_notd rfl (by decide) | exact q_not rfl (by decide)) ?_)
  refine list_cons rfl (op_q (q_move rfl (by decide)) ?_)
  refine list_guard_d rfl rfl rfl rfl (by decide) rfl (by decide) (fun h1 => ?_) (fun h1 => ?_)
  · simp only [Bool.false_eq_true, if_true, if_false, Decidable.not_not] at h1
    refine id (op_q (q_move rfl (by decide)) ?_)
    refine list_guard_y rfl rfl rfl rfl (by decide) rfl ?_
    refine id (op_q (q_move rfl (by decide)) ?_)
    refine list_guard_y rfl rfl rfl rfl (by decide) rfl ?_
    refine id (op_call _ (spec_l10Count l (by assumption)) rfl rfl (by decide) (by decide) (by decide) rfl ?_)
    rintro _ rfl; have hb1 := hb (by have := (show RowP l by assumption).1; omega)
    refine list_guard_y rfl rfl rfl rfl (by decide) rfl ?_
    refine id (op_q (by first | exact q_subI rfl rfl (by decide) (by omega) (by omega) | exact q_ib rfl rfl rfl (by decide)) ?_)
    refine list_guard_y rfl rfl rfl rfl (by decide) rfl ?_
    refine id (op_call _ (spec_l1In _ _ _) rfl rfl (by decide) (by decide) (by decide) rfl ?_)
    rintro _ rfl
    refine list_guard_y rfl rfl rfl rfl (by decide) rfl ?_
    refine id (op_q (by first | exact q_notd rfl (by decide) | exact q_not rfl (by decide)) ?_)
    refine list_cons rfl (op_q (q_pick rfl rfl (by decide)) ?_)
    refine list_nil ?_
    refine hK3 _ ?_; clear hK3 K3
    refine codeT.imp (σ' := [(0, _), (1, _), (4, _), (5, _), (21, _)]) ?_ (imp_covers ⟨rfl, rfl, rfl, rfl, rfl, trivial⟩)
    refine code_cond_d rfl (fun h2 => ?_) (fun h2 => ?_)
    · skip
      (try simp only [Decidable.not_not] at h2)
      refine code_seq (fun K4 hK4 => ?_)
      refine code_region ?_
      refine list_cons rfl (op_q (q_assign rfl (by decide)) ?_)
      refine list_cons rfl (op_q (q_assign rfl (by decide)) ?_)
      refine list_nil ?_
      refine hK4 _ ?_; clear hK4 K4
      refine code_ret ?_
      refine then_r ?_; clear hK2 K2
      refine ends_ret (cs := []) rfl rfl rfl rfl trivial ?_
      first
        | (have e : ¬ (RowP l ∧ 0 ≤ k ∧ k < ((cntR l : Nat) : Int)) := fun z => absurd z.1 (by assumption)
           simp only [if_neg e, decide_eq_false e]; done)
        | (have e : ¬ (RowP l ∧ 0 ≤ k ∧ k < ((cntR l : Nat) : Int)) := fun z => by omega
           simp only [if_neg e, decide_eq_false e]; done)
        | (have e : RowP l ∧ 0 ≤ k ∧ k < ((cntR l : Nat) : Int) := ⟨hR, hK.1, hK.2⟩
           rw [show i.toNat = l.length by omega, List.drop_length] at i6
           simp only [if_pos e, decide_eq_true e, ← i6]
           rw [show rdT [] k_.toNat = [] from rfl, List.append_nil]; done)
    (try simp only [Decidable.not_not] at h2)
    refine code_skip ?_
    refine hK2 _ ?_; clear hK2 K2
    refine code_seq (fun K5 hK5 => ?_)
    refine code_region ?_
    refine list_cons rfl (op_q (q_assign rfl (by decide)) ?_)
    refine list_nil ?_
    refine hK5 _ ?_; clear hK5 K5
    refine code_seq (fun K6 hK6 => ?_)
    refine code_seq (fun K7 hK7 => ?_)
    refine code_region ?_
    refine list_cons rfl (op_q (q_assign rfl (by decide)) ?_)
    refine list_nil ?_
    refine hK7 _ ?_; clear hK7 K7
    refine code_block ?_
    refine code_loop (X := Int × List UInt8 × Bool × List UInt8 × Int) (fun x => [(0, .par 0 (.sl l.length (l.map (.int .i64)))), (1, .val (.int .i64 x.1)), (4, .val (.str x.2.1)), (5, .val (.bool x.2.2.1)), (6, .val (.str x.2.2.2.1)), (7, .val (.int .i64 x.2.2.2.2))]) (fun x => RowP l ∧ (0 ≤ k ∧ k < ((cntR l : Nat) : Int)) ∧ 0 ≤ x.2.2.2.2 ∧ x.2.2.2.2 ≤ l.length ∧ 0 ≤ x.1 ∧ x.1 < ((cntR (l.drop x.2.2.2.2.toNat) : Nat) : Int) ∧ x.2.2.2.1.length = x.2.2.2.2.toNat ∧ x.2.2.2.1 ++ rdT (l.drop x.2.2.2.2.toNat) x.1.toNat = rdT l k.toNat) (fun x => l.length - x.2.2.2.2.toNat) (_, _, _, _, _) (imp_covers ⟨rfl, rfl, rfl, rfl, rfl, rfl, trivial⟩) ?_ ?_
    · (try dsimp only)
      exact ⟨by assumption, by omega, by omega, by omega, by omega, by rw [show (0 : Int).toNat = 0 from rfl, List.drop_zero]; omega, rfl, rfl⟩
    · intro x hI
      obtain ⟨k_, t4, t5, s, i⟩ := x
      replace hI : RowP l ∧ (0 ≤ k ∧ k < ((cntR l : Nat) : Int)) ∧ 0 ≤ i ∧ i ≤ l.length ∧ 0 ≤ k_ ∧ k_ < ((cntR (l.drop i.toNat) : Nat) : Int) ∧ s.length = i.toNat ∧ s ++ rdT (l.drop i.toNat) k_.toNat = rdT l k.toNat := hI
      show codeT _ _ _ [(0, .par 0 (.sl l.length (l.map (.int .i64)))), (1, .val (.int .i64 k_)), (4, .val (.str t4)), (5, .val (.bool t5)), (6, .val (.str s)), (7, .val (.int .i64 i))] _
      obtain ⟨hR, hK, i1, i2, i3, i4, i5, i6⟩ := hI
      have hR6 := hR.1
      have hb1 := hb hR6
      have hix := fun e : i < l.length => rd_ix (l := l) (k := i.toNat) (n := k_.toNat) (by omega) (by omega)
      have hL : ltrS.length = 16 := rfl
      have hdr := cntR_le6 (l := l.drop (i.toNat + 1)) (by rw [List.length_drop]; omega)
      have hdi := cntR_le6 (l := l.drop i.toNat) (by rw [List.length_drop]; omega)
      have hqz : (0 : Int) ≤ ((k_.toNat / cntR (l.drop (i.toNat + 1)) : Nat) : Int) := Int.natCast_nonneg _
      have hrz : (0 : Int) ≤ ((k_.toNat % cntR (l.drop (i.toNat + 1)) : Nat) : Int) := Int.natCast_nonneg _
      have hqc := quo_cast (n := cntR (l.drop (i.toNat + 1))) i3
      have hrc := rem_cast (n := cntR (l.drop (i.toNat + 1))) i3
      have hpl := fun e : i < l.length => canI_at (l.getD i.toNat 0) (j := (k_ / ((cntR (l.drop (i.toNat + 1)) : Nat) : Int)).toNat) (by have := hix e; omega)
      refine code_seq (fun K8 hK8 => ?_)
      refine code_seq (fun K9 hK9 => ?_)
      refine code_region ?_
      refine list_cons rfl (op_q (q_move rfl (by decide)) ?_)
      refine list_cons rfl (op_q (q_move rfl (by decide)) ?_)
      refine list_cons rfl (op_q (q_len_sl Tryd.underlying28 rfl rfl (by decide)) ?_)
      refine list_cons rfl (op_q (q_lt rfl rfl (by decide)) ?_)
      refine list_nil ?_
      refine hK9 _ ?_; clear hK9 K9
      refine code_cond_d rfl (fun h3 => ?_) (fun h3 => ?_)
      · skip
        (try simp only [Decidable.not_not] at h3)
        refine code_skip ?_
        refine hK8 _ ?_; clear hK8 K8
        refine code_seq (fun K10 hK10 => ?_)
        refine code_block ?_
        refine code_seq (fun K11 hK11 => ?_)
        refine any_start fun ob1_0 => ?_
        refine any_op (rd := [0]) ob1_0 rfl rfl rfl (anyT_quiet [(0, _)] ⟨rfl, trivial⟩ rfl (q_move rfl (by decide))) (fun ob1_1 => ?_)
        refine any_op (rd := [7]) ob1_1 rfl rfl rfl (anyT_quiet [(7, _)] ⟨rfl, trivial⟩ rfl (q_move rfl (by decide))) (fun ob1_2 => ?_)
        refine any_op (rd := [29]) ob1_2 rfl rfl rfl (anyT_quiet [(29, _)] ⟨rfl, trivial⟩ rfl (by first | exact q_addI rfl rfl (by decide) (by omega) (by omega) | exact q_ib rfl rfl rfl (by decide))) (fun ob1_3 => ?_)
        refine any_op (rd := [28, 30]) ob1_3 rfl rfl rfl (anyT_quiet [(28, _), (30, _)] ⟨rfl, rfl, trivial⟩ rfl (q_slice_sl sl_28 rfl rfl ⟨_, rfl⟩ rfl (by first | omega | (show _ ≤ ((16 : Nat) : Int); omega)) (by first | omega | (show _ ≤ ((16 : Nat) : Int); omega)) (by first | omega | (show _ ≤ ((16 : Nat) : Int); omega)) rfl (by decide))) (fun ob1_4 => ?_)
        refine any_op (rd := [31]) ob1_4 rfl rfl rfl (fun σ hag hfr => by have e31 : σ.at 31 = some _ := (hag 31 (by decide)).trans rfl; exact op_call _ (spec_l10CountD l (i.toNat + 1) _ _ hR (by rw [List.length_drop]; omega) (by rw [show (i + 1).toNat = i.toNat + 1 by omega, Nat.mul_one, Nat.mul_one, List.take_of_length_le (by rw [List.length_drop, List.length_map]; omega), List.map_drop])) (evs_cons e31 evs_nil) rfl (by decide) (by decide) (by decide) hfr (fun rs hR => by subst hR; rfl)) (fun ob1_5 => ?_)
        refine any_op (rd := [0]) ob1_5 rfl rfl rfl (anyT_quiet [(0, _)] ⟨rfl, trivial⟩ rfl (q_move rfl (by decide))) (fun ob1_6 => ?_)
        refine any_op (rd := [7]) ob1_6 rfl rfl rfl (anyT_quiet [(7, _)] ⟨rfl, trivial⟩ rfl (q_move rfl (by decide))) (fun ob1_7 => ?_)
        refine any_op (rd := [33, 34]) ob1_7 rfl rfl rfl (anyT_quiet [(33, _), (34, _)] ⟨rfl, rfl, trivial⟩ rfl (q_indexAddr_rd sl_28 rfl (.inl ⟨_, rfl, rfl⟩) rfl (by omega) (by omega) (by decide))) (fun ob1_8 => ?_)
        refine any_op (rd := [35]) ob1_8 rfl rfl rfl (anyT_quiet [(35, _)] ⟨rfl, trivial⟩ rfl (q_load_rd one_3 rfl (.inl ⟨_, (by first | rfl | exact congrArg (SV.rpar _) (drop_map1 _ 0 _ (by first | omega | (simp; omega)))), rfl⟩) (by decide))) (fun ob1_9 => ?_)
        refine any_end [[], [], [1], [0, 1, 2], [0, 1, 2, 3], [], [], [5, 6], [5, 6, 7], [0, 1, 2, 3, 4, 5, 6, 7, 8], [0, 1, 2, 3, 4, 5, 6, 7, 8, 9], [0, 1, 2, 3, 4, 5, 6, 7, 8, 9, 10]] ob1_9 (by kernel_rfl) (Nat.le_of_ble_eq_true rfl) (by decide) (by decide) (by kernel_rfl) (by kernel_rfl) (by kernel_rfl) (by kernel_rfl) (by kernel_rfl) ?_
        clear ob1_0 ob1_1 ob1_2 ob1_3 ob1_4 ob1_5 ob1_6 ob1_7 ob1_8 ob1_9
        refine listT.imp (σ' := [(0, _), (1, _), (4, _), (5, _), (6, _), (7, _), (22, _), (23, _), (24, _), (25, _), (28, _), (29, _), (30, _), (31, _), (32, _), (33, _), (34, _), (35, _), (36, _)]) ?_ (imp_covers ⟨rfl, rfl, rfl, rfl, rfl, rfl, rfl, rfl, rfl, rfl, rfl, rfl, rfl, rfl, rfl, rfl, rfl, rfl, rfl, trivial⟩)
        refine list_cons rfl (op_call _ (spec_l10Can _ (hR.at (by omega))) rfl rfl (by decide) (by decide) (by decide) rfl ?_)
        rintro _ rfl
        refine list_cons rfl (op_q (q_assign rfl (by decide)) ?_)
        refine list_cons rfl (op_q (q_assign rfl (by decide)) ?_)
        refine list_nil ?_
        refine hK11 _ ?_; clear hK11 K11
        refine codeT.imp (σ' := [(0, _), (1, _), (4, _), (5, _), (6, _), (7, _), (8, _), (9, _)]) ?_ (imp_covers ⟨rfl, rfl, rfl, rfl, rfl, rfl, rfl, rfl, trivial⟩)
        refine code_seq (fun K12 hK12 => ?_)
        refine code_region ?_
        refine list_cons rfl (op_q (q_move rfl (by decide)) ?_)
        refine list_cons rfl (op_q (q_move rfl (by decide)) ?_)
        refine list_cons rfl (op_q (q_move rfl (by decide)) ?_)
        refine list_cons rfl (op_q (by first | exact q_quoI rfl rfl (by decide) (by omega) (by omega) (by omega) | exact q_quoT rfl rfl (by omega) (by decide) (by omega) (by omega) | exact q_quo rfl rfl (by omega) (by decide)) ?_)
        refine list_cons rfl (op_q (q_indexAddr_own sl_28 rfl rfl (by omega) (by omega) (by decide)) ?_)
        refine list_cons rfl (op_q (q_load one_3 9 rfl rfl rfl (by first | rfl | exact get_map1 _ 0 _ (by first | omega | (simp; omega))) (by decide)) ?_)
        refine list_cons rfl (op_q (q_assign rfl (by decide)) ?_)
        refine list_nil ?_
        refine hK12 _ ?_; clear hK12 K12
        refine code_seq (fun K13 hK13 => ?_)
        refine code_region ?_
        refine list_cons rfl (op_q (q_move rfl (by decide)) ?_)
        refine list_cons rfl (op_q (q_move rfl (by decide)) ?_)
        refine list_cons rfl (op_q (by first | exact q_remI rfl rfl (by decide) (by omega) (by omega) | exact q_rem rfl rfl (by omega) (by decide)) ?_)
        refine list_cons rfl (op_q (q_assign rfl (by decide)) ?_)
        refine list_nil ?_
        refine hK13 _ ?_; clear hK13 K13
        refine codeT.imp (σ' := [(0, _), (1, _), (4, _), (5, _), (6, _), (7, _), (8, _), (9, _), (10, _)]) ?_ (imp_covers ⟨rfl, rfl, rfl, rfl, rfl, rfl, rfl, rfl, rfl, trivial⟩)
        refine code_region ?_
        refine list_cons rfl (op_q (q_move rfl (by decide)) ?_)
        refine list_cons rfl (op_q (q_move rfl (by decide)) ?_)
        refine list_cons rfl (op_q (q_move rfl (by decide)) ?_)
        refine list_cons rfl (op_q (by first | exact q_addI rfl rfl (by decide) (by omega) (by omega) | exact q_ib rfl rfl rfl (by decide)) ?_)
        refine list_cons rfl (op_q (q_slice_str Tryd.underlying9 rfl ⟨_, rfl⟩ ⟨_, rfl⟩ (by first | omega | (show _ ≤ ((16 : Nat) : Int); omega)) (by first | omega | (show _ ≤ ((16 : Nat) : Int); omega)) (by first | omega | (show _ ≤ ((16 : Nat) : Int); omega)) (by decide)) ?_)
        refine list_cons rfl (op_q (q_cat rfl rfl (by first | omega | (simp only [List.length_append, List.length_cons, List.length_nil]; omega) | (simp; omega)) (by decide)) ?_)
        refine list_cons rfl (op_q (q_assign rfl (by decide)) ?_)
        refine list_nil ?_
        refine blk_n ?_
        refine hK10 _ ?_; clear hK10 K10
        refine code_region ?_
        refine list_cons rfl (op_q (q_move rfl (by decide)) ?_)
        refine list_cons rfl (op_q (by first | exact q_addI rfl rfl (by decide) (by omega) (by omega) | exact q_ib rfl rfl rfl (by decide)) ?_)
        refine list_cons rfl (op_q (q_assign rfl (by decide)) ?_)
        refine list_nil ?_
        refine then_n ⟨(_, _, _, _, _), imp_covers ⟨rfl, rfl, rfl, rfl, rfl, rfl, trivial⟩, ?_, ?_⟩
        · (try dsimp only)
          have hx := hix (by omega)
          have hp := hpl (by omega)
          have hi1 : (i + 1).toNat = i.toNat + 1 := by omega
          have e2 := cutL hp.1 hp.2
          refine ⟨hR, hK, by omega, by omega, by omega, by rw [hi1]; omega, ?_, ?_⟩
          · rw [List.length_append]
            have := congrArg List.length e2
            exact (congrArg (s.length + ·) this).trans (by show s.length + 1 = _; omega)
          · rw [hi1, ← i6, rdT_drop (l := l) (k := i.toNat) (n := k_.toNat) (by omega)]
            refine (congrArg (fun z => s ++ z ++ rdT (l.drop (i.toNat + 1)) (k_ % ((cntR (l.drop (i.toNat + 1)) : Nat) : Int)).toNat) e2).trans ?_
            rw [hrc, hqc, Int.toNat_natCast, Int.toNat_natCast, List.append_assoc]; rfl
        · (try dsimp only); omega
      (try simp only [Decidable.not_not] at h3)
      refine code_exit ?_
      refine then_x ?_; clear hK8 K8
      refine then_x ?_
      refine blk_hit ?_
      refine hK6 _ ?_; clear hK6 K6
      refine code_seq (fun K14 hK14 => ?_)
      refine code_region ?_
      refine list_cons rfl (op_q (q_move rfl (by decide)) ?_)
      refine list_cons rfl (op_q (q_assign rfl (by decide)) ?_)
      refine list_cons rfl (op_q (q_assign rfl (by decide)) ?_)
      refine list_nil ?_
      refine hK14 _ ?_; clear hK14 K14
      refine code_ret ?_
      refine ends_ret (cs := []) rfl rfl rfl rfl trivial ?_
      first
        | (have e : ¬ (RowP l ∧ 0 ≤ k ∧ k < ((cntR l : Nat) : Int)) := fun z => absurd z.1 (by assumption)
           simp only [if_neg e, decide_eq_false e]; done)
        | (have e : ¬ (RowP l ∧ 0 ≤ k ∧ k < ((cntR l : Nat) : Int)) := fun z => by omega
           simp only [if_neg e, decide_eq_false e]; done)
        | (have e : RowP l ∧ 0 ≤ k ∧ k < ((cntR l : Nat) : Int) := ⟨hR, hK.1, hK.2⟩
           rw [show i.toNat = l.length by omega, List.drop_length] at i6
           simp only [if_pos e, decide_eq_true e, ← i6]
           rw [show rdT [] k_.toNat = [] from rfl, List.append_nil]; done)
  simp only [Bool.false_eq_true, if_true, if_false, Decidable.not_not] at h1
  refine list_guard_n rfl rfl rfl rfl (by decide) rfl ?_
  refine list_guard_n rfl rfl rfl rfl (by decide) rfl ?_
  refine list_guard_n rfl rfl rfl rfl (by decide) rfl ?_
  refine list_guard_n rfl rfl rfl rfl (by decide) rfl ?_
  refine list_guard_n rfl rfl rfl rfl (by decide) rfl ?_
  refine list_cons rfl (op_q (q_pick rfl rfl (by decide)) ?_)
  refine list_nil ?_
  refine hK3 _ ?_; clear hK3 K3
  refine code_cond_t rfl ?_
  refine code_seq (fun K15 hK15 => ?_)
  refine code_region ?_
  refine list_cons rfl (op_q (q_assign rfl (by decide)) ?_)
  refine list_cons rfl (op_q (q_assign rfl (by decide)) ?_)
  refine list_nil ?_
  refine hK15 _ ?_; clear hK15 K15
  refine code_ret ?_
  refine then_r ?_; clear hK2 K2
  refine ends_ret (cs := []) rfl rfl rfl rfl trivial ?_
  first
    | (have e : ¬ (RowP l ∧ 0 ≤ k ∧ k < ((cntR l : Nat) : Int)) := fun z => absurd z.1 (by assumption)
       simp only [if_neg e, decide_eq_false e]; done)
    | (have e : ¬ (RowP l ∧ 0 ≤ k ∧ k < ((cntR l : Nat) : Int)) := fun z => by omega
       simp only [if_neg e, decide_eq_false e]; done)
    | (have e : RowP l ∧ 0 ≤ k ∧ k < ((cntR l : Nat) : Int) := ⟨hR, hK.1, hK.2⟩
       rw [show i.toNat = l.length by omega, List.drop_length] at i6
       simp only [if_pos e, decide_eq_true e, ← i6]
       rw [show rdT [] k_.toNat = [] from rfl, List.append_nil]; done)

end Go.Proofs.YtgpgjaebhfhjoaaDoor
