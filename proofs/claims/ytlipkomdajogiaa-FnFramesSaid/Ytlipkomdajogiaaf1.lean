/- Contracts of functions, walked over the pure layer; each says for which arguments. -/
import Derived.Test.Ytlipkomdajogiaaf1Ty
import Derived.Test.YtlipkomdajogiaaTf
namespace Go.Proofs.Ytlipkomdajogiaa
open Go.RowKit f1Ty
set_option linter.unusedVariables false
set_option linter.unusedSimpArgs false
theorem list_eq_ofI {α : Type} (d : α) (a b : List α) (h : a.length = b.length) (k : ∀ j, j < a.length → a.getD j d = b.getD j d) : a = b := by
  apply List.ext_getElem h
  intro j h1 h2
  have := k j h1
  simpa [h1, h2] using this
theorem take_snocI {α : Type} (d : α) (l : List α) (k : Nat) (h : k < l.length) : l.take (k + 1) = l.take k ++ [l.getD k d] := by
  rw [List.take_succ_eq_append_getElem h]; simp [h]
theorem list_ne_ofI {α : Type} (d : α) {a b : List α} (j : Nat) (k : a.getD j d ≠ b.getD j d) : a ≠ b := fun h => k (by rw [h])
def digT : List Int := [63, 6, 91, 79, 102, 109, 125, 7, 127, 111]
def digOf (c : Int) : Int := if c = 63 then 0 else if c = 6 then 1 else if c = 91 then 2 else if c = 79 then 3 else if c = 102 then 4 else if c = 109 then 5 else if c = 125 then 6 else if c = 7 then 7 else if c = 127 then 8 else if c = 111 then 9 else -1
def RowP (l : List Int) : Prop := l.length ≤ 6 ∧ ∀ x ∈ l, 0 ≤ x ∧ x ≤ 127
instance (l : List Int) : Decidable (RowP l) := by unfold RowP; infer_instance
theorem RowP.at {l : List Int} (h : RowP l) {j : Nat} (hj : j < l.length) : 0 ≤ l.getD j 0 ∧ l.getD j 0 ≤ 127 := by
  have : l.getD j 0 = l[j] := by simp [hj]
  rw [this]; exact h.2 _ (List.getElem_mem hj)
theorem RowP.of {l : List Int} (h0 : l.length ≤ 6) (h : ∀ j, j < l.length → 0 ≤ l.getD j 0 ∧ l.getD j 0 ≤ 127) : RowP l := ⟨h0, fun x hx => by
  obtain ⟨j, hj, rfl⟩ := List.getElem_of_mem hx
  have := h j hj
  simpa [hj] using this⟩
set_option maxRecDepth 4000 in
theorem spec_l1In (x a b : Int) : PCalls Try.prog 50 [.int .i64 x, .int .i64 a, .int .i64 b] (· = [.val (.bool (decide (a ≤ x ∧ x ≤ b)))]) := by
  refine pcalls_of_code (n := 15) az Try.func50 (by kernel_rfl) rfl rfl (Nat.le_of_ble_eq_true rfl) (by intro t u h; simp [Try.f50] at h) ?_
  refine code_seq (fun K1 hK1 => ?_)
  refine code_region ?_
  refine list_cons rfl (op_q (q_assign rfl (by decide)) ?_)
  refine list_nil ?_
  refine hK1 _ ?_; clear hK1 K1
  refine code_seq (fun K2 hK2 => ?_)
  refine code_region ?_
  refine list_cons rfl (op_q (q_move rfl (by decide)) ?_)
  refine list_cons rfl (op_q (q_move rfl (by decide)) ?_)
  refine list_cons rfl (op_q (q_ge rfl rfl (by decide)) ?_)
  refine list_cons rfl (op_q (q_move rfl (by decide)) ?_)
  refine list_guard_d rfl rfl rfl rfl (by decide) rfl (by decide) (fun h1 => ?_) (fun h1 => ?_)
  · simp only [Bool.false_eq_true, if_true, if_false, Decidable.not_not] at h1
    refine id (op_q (q_move rfl (by decide)) ?_)
    refine list_guard_y rfl rfl rfl rfl (by decide) rfl ?_
    refine id (op_q (q_move rfl (by decide)) ?_)
    refine list_guard_y rfl rfl rfl rfl (by decide) rfl ?_
    refine id (op_q (q_le rfl rfl (by decide)) ?_)
    refine list_cons rfl (op_q (q_pick rfl rfl (by decide)) ?_)
    refine list_cons rfl (op_q (q_assign rfl (by decide)) ?_)
    refine list_nil ?_
    refine hK2 _ ?_; clear hK2 K2
    refine codeT.imp (σ' := [(0, _), (1, _), (2, _), (6, _)]) ?_ (imp_covers ⟨rfl, rfl, rfl, rfl, trivial⟩)
    refine code_ret ?_
    refine ends_ret (cs := []) rfl rfl rfl rfl trivial ?_
    simp [h1]
  simp only [Bool.false_eq_true, if_true, if_false, Decidable.not_not] at h1
  refine list_guard_n rfl rfl rfl rfl (by decide) rfl ?_
  refine list_guard_n rfl rfl rfl rfl (by decide) rfl ?_
  refine list_cons rfl (op_q (q_pick rfl rfl (by decide)) ?_)
  refine list_cons rfl (op_q (q_assign rfl (by decide)) ?_)
  refine list_nil ?_
  refine hK2 _ ?_; clear hK2 K2
  refine code_ret ?_
  refine ends_ret (cs := []) rfl rfl rfl rfl trivial ?_
  simp [h1]
set_option maxRecDepth 4000 in
theorem spec_l1Most (a b : Int) : PCalls Try.prog 81 [.int .i64 a, .int .i64 b] (· = [.val (.int .i64 (if b < a then a else b))]) := by
  refine pcalls_of_code (n := 10) az Try.func81 (by kernel_rfl) rfl rfl (Nat.le_of_ble_eq_true rfl) (by intro t u h; simp [Try.f81] at h) ?_
  refine code_seq (fun K1 hK1 => ?_)
  refine code_region ?_
  refine list_cons rfl (op_q (q_assign rfl (by decide)) ?_)
  refine list_nil ?_
  refine hK1 _ ?_; clear hK1 K1
  refine code_seq (fun K2 hK2 => ?_)
  refine code_seq (fun K3 hK3 => ?_)
  refine code_region ?_
  refine list_cons rfl (op_q (q_move rfl (by decide)) ?_)
  refine list_cons rfl (op_q (q_move rfl (by decide)) ?_)
  refine list_cons rfl (op_q (q_gt rfl rfl (by decide)) ?_)
  refine list_nil ?_
  refine hK3 _ ?_; clear hK3 K3
  refine code_cond_d rfl (fun h1 => ?_) (fun h1 => ?_)
  · skip
    (try simp only [Decidable.not_not] at h1)
    refine code_seq (fun K4 hK4 => ?_)
    refine code_region ?_
    refine list_cons rfl (op_q (q_move rfl (by decide)) ?_)
    refine list_cons rfl (op_q (q_assign rfl (by decide)) ?_)
    refine list_nil ?_
    refine hK4 _ ?_; clear hK4 K4
    refine code_ret ?_
    refine then_r ?_; clear hK2 K2
    refine ends_ret (cs := []) rfl rfl rfl rfl trivial ?_
    rw [if_pos h1]
  (try simp only [Decidable.not_not] at h1)
  refine code_skip ?_
  refine hK2 _ ?_; clear hK2 K2
  refine code_seq (fun K5 hK5 => ?_)
  refine code_region ?_
  refine list_cons rfl (op_q (q_move rfl (by decide)) ?_)
  refine list_cons rfl (op_q (q_assign rfl (by decide)) ?_)
  refine list_nil ?_
  refine hK5 _ ?_; clear hK5 K5
  refine code_ret ?_
  refine ends_ret (cs := []) rfl rfl rfl rfl trivial ?_
  rw [if_neg h1]
set_option maxRecDepth 4000 in
theorem spec_l2Cell (c : Int) : PCalls Try.prog 89 [.int .i64 c] (· = [.val (.bool (decide (0 ≤ c ∧ c ≤ 127)))]) := by
  refine pcalls_of_code (n := 5) az Try.func89 (by kernel_rfl) rfl rfl (Nat.le_of_ble_eq_true rfl) (by intro t u h; simp [Try.f89] at h) ?_
  refine code_seq (fun K1 hK1 => ?_)
  refine code_region ?_
  refine list_cons rfl (op_q (q_assign rfl (by decide)) ?_)
  refine list_nil ?_
  refine hK1 _ ?_; clear hK1 K1
  refine code_seq (fun K2 hK2 => ?_)
  refine code_region ?_
  refine list_cons rfl (op_q (q_move rfl (by decide)) ?_)
  refine list_cons rfl (op_call _ (spec_l1In _ _ _) rfl rfl (by decide) (by decide) (by decide) rfl ?_)
  rintro _ rfl
  refine list_cons rfl (op_q (q_assign rfl (by decide)) ?_)
  refine list_nil ?_
  refine hK2 _ ?_; clear hK2 K2
  refine codeT.imp (σ' := [(0, _), (2, _)]) ?_ (imp_covers ⟨rfl, rfl, trivial⟩)
  refine code_ret ?_
  refine ends_ret (cs := []) rfl rfl rfl rfl trivial ?_
  rfl
set_option maxRecDepth 4000 in
theorem spec_l2Row (l : List Int) (hl : l.length ≤ 4611686018427387904) : PCalls Try.prog 59 [.sl l.length (l.map (.int .i64))] (· = [.val (.bool (decide (RowP l)))]) := by
  refine pcalls_of_code (n := 23) az Try.func59 (by kernel_rfl) rfl rfl (Nat.le_of_ble_eq_true rfl) (by intro t u h; simp [Try.f59] at h) ?_
  refine code_seq (fun K1 hK1 => ?_)
  refine code_region ?_
  refine list_cons rfl (op_q (q_assign rfl (by decide)) ?_)
  refine list_nil ?_
  refine hK1 _ ?_; clear hK1 K1
  refine code_seq (fun K2 hK2 => ?_)
  refine code_seq (fun K3 hK3 => ?_)
  refine code_region ?_
  refine list_cons rfl (op_q (q_assign rfl (by decide)) ?_)
  refine list_nil ?_
  refine hK3 _ ?_; clear hK3 K3
  refine code_block ?_
  refine code_loop (X := Bool × Int) (fun x => [(0, .par 0 (.sl l.length (l.map (.int .i64)))), (2, .val (.bool x.1)), (3, .val (.int .i64 x.2))]) (fun x => 0 ≤ x.2 ∧ x.2 ≤ 7 ∧ x.2 ≤ l.length ∧ ∀ j, j < x.2.toNat → 0 ≤ l.getD j 0 ∧ l.getD j 0 ≤ 127) (fun x => l.length - x.2.toNat) (_, _) (imp_covers ⟨rfl, rfl, rfl, trivial⟩) ?_ ?_
  · (try dsimp only)
    refine ⟨by omega, by omega, by omega, fun j hj => by simp at hj⟩
  · intro x hI
    obtain ⟨t2, i⟩ := x
    replace hI : 0 ≤ i ∧ i ≤ 7 ∧ i ≤ l.length ∧ ∀ j, j < i.toNat → 0 ≤ l.getD j 0 ∧ l.getD j 0 ≤ 127 := hI
    show codeT _ _ _ [(0, .par 0 (.sl l.length (l.map (.int .i64)))), (2, .val (.bool t2)), (3, .val (.int .i64 i))] _
    obtain ⟨i1, i2, i3, i4⟩ := hI
    refine code_seq (fun K4 hK4 => ?_)
    refine code_seq (fun K5 hK5 => ?_)
    refine code_region ?_
    refine list_cons rfl (op_q (q_move rfl (by decide)) ?_)
    refine list_cons rfl (op_q (q_move rfl (by decide)) ?_)
    refine list_cons rfl (op_q (q_len_sl Try.underlying27 rfl rfl (by decide)) ?_)
    refine list_cons rfl (op_q (q_lt rfl rfl (by decide)) ?_)
    refine list_cons rfl (op_q (q_move rfl (by decide)) ?_)
    refine list_guard_d rfl rfl rfl rfl (by decide) rfl (by decide) (fun h1 => ?_) (fun h1 => ?_)
    · simp only [Bool.false_eq_true, if_true, if_false, Decidable.not_not] at h1
      refine id (op_q (q_move rfl (by decide)) ?_)
      refine list_guard_y rfl rfl rfl rfl (by decide) rfl ?_
      refine id (op_q (q_le rfl rfl (by decide)) ?_)
      refine list_cons rfl (op_q (q_pick rfl rfl (by decide)) ?_)
      refine list_nil ?_
      refine hK5 _ ?_; clear hK5 K5
      refine codeT.imp (σ' := [(0, _), (2, _), (3, _), (11, _)]) ?_ (imp_covers ⟨rfl, rfl, rfl, rfl, trivial⟩)
      refine code_cond_d rfl (fun h2 => ?_) (fun h2 => ?_)
      · skip
        (try simp only [Decidable.not_not] at h2)
        refine code_skip ?_
        refine hK4 _ ?_; clear hK4 K4
        refine code_seq (fun K6 hK6 => ?_)
        refine code_block ?_
        refine code_seq (fun K7 hK7 => ?_)
        refine code_region ?_
        refine list_cons rfl (op_q (q_move rfl (by decide)) ?_)
        refine list_cons rfl (op_q (q_move rfl (by decide)) ?_)
        refine list_cons rfl (op_q (q_indexAddr_rd sl_27 rfl (.inl ⟨_, rfl, rfl⟩) rfl (by omega) (by omega) (by decide)) ?_)
        refine list_cons rfl (op_q (q_load_rd one_3 rfl (.inl ⟨_, (by first | rfl | exact congrArg (SV.rpar _) (drop_map1 _ 0 _ (by first | omega | (simp; omega)))), rfl⟩) (by decide)) ?_)
        refine list_cons rfl (op_call _ (spec_l2Cell _) rfl rfl (by decide) (by decide) (by decide) rfl ?_)
        rintro _ rfl
        refine list_cons rfl (op_q (by first | exact q_notd rfl (by decide) | exact q_not rfl (by decide)) ?_)
        refine list_nil ?_
        refine hK7 _ ?_; clear hK7 K7
        refine codeT.imp (σ' := [(0, _), (2, _), (3, _), (19, _)]) ?_ (imp_covers ⟨rfl, rfl, rfl, rfl, trivial⟩)
        refine code_cond_d rfl (fun h3 => ?_) (fun h3 => ?_)
        · skip
          (try simp only [Decidable.not_not] at h3)
          refine code_seq (fun K8 hK8 => ?_)
          refine code_region ?_
          refine list_cons rfl (op_q (q_assign rfl (by decide)) ?_)
          refine list_nil ?_
          refine hK8 _ ?_; clear hK8 K8
          refine code_ret ?_
          refine blk_r ?_
          refine then_r ?_; clear hK6 K6
          refine then_r ?_
          refine blk_r ?_
          refine then_r ?_; clear hK2 K2
          refine ends_ret (cs := []) rfl rfl rfl rfl trivial ?_
          rw [decide_eq_false (fun e => h3 (e.at (by omega)))]
        (try simp only [Decidable.not_not] at h3)
        refine code_skip ?_
        refine blk_n ?_
        refine hK6 _ ?_; clear hK6 K6
        refine code_region ?_
        refine list_cons rfl (op_q (q_move rfl (by decide)) ?_)
        refine list_cons rfl (op_q (by first | exact q_addI rfl rfl (by decide) (by omega) (by omega) | exact q_ib rfl rfl rfl (by decide)) ?_)
        refine list_cons rfl (op_q (q_assign rfl (by decide)) ?_)
        refine list_nil ?_
        refine then_n ⟨(_, _), imp_covers ⟨rfl, rfl, rfl, trivial⟩, ?_, ?_⟩
        · (try dsimp only)
          refine ⟨by omega, by omega, by omega, fun j hj => ?_⟩
          by_cases e : j = i.toNat
          · subst e; exact h3
          · exact i4 j (by omega)
        · (try dsimp only); omega
      (try simp only [Decidable.not_not] at h2)
      refine code_exit ?_
      refine then_x ?_; clear hK4 K4
      refine then_x ?_
      refine blk_hit ?_
      refine hK2 _ ?_; clear hK2 K2
      refine code_seq (fun K9 hK9 => ?_)
      refine code_region ?_
      refine list_cons rfl (op_q (q_move rfl (by decide)) ?_)
      refine list_cons rfl (op_q (q_len_sl Try.underlying27 rfl rfl (by decide)) ?_)
      refine list_cons rfl (op_q (q_le rfl rfl (by decide)) ?_)
      refine list_cons rfl (op_q (q_assign rfl (by decide)) ?_)
      refine list_nil ?_
      refine hK9 _ ?_; clear hK9 K9
      refine code_ret ?_
      refine ends_ret (cs := []) rfl rfl rfl rfl trivial ?_
      congr 3
      refine decide_eq_decide.mpr ⟨fun e => RowP.of (by omega) fun j hj => i4 j (by omega), fun e => by have := e.1; omega⟩
    simp only [Bool.false_eq_true, if_true, if_false, Decidable.not_not] at h1
    refine list_guard_n rfl rfl rfl rfl (by decide) rfl ?_
    refine list_cons rfl (op_q (q_pick rfl rfl (by decide)) ?_)
    refine list_nil ?_
    refine hK5 _ ?_; clear hK5 K5
    refine code_cond_f rfl ?_
    refine code_exit ?_
    refine then_x ?_; clear hK4 K4
    refine then_x ?_
    refine blk_hit ?_
    refine hK2 _ ?_; clear hK2 K2
    refine code_seq (fun K10 hK10 => ?_)
    refine code_region ?_
    refine list_cons rfl (op_q (q_move rfl (by decide)) ?_)
    refine list_cons rfl (op_q (q_len_sl Try.underlying27 rfl rfl (by decide)) ?_)
    refine list_cons rfl (op_q (q_le rfl rfl (by decide)) ?_)
    refine list_cons rfl (op_q (q_assign rfl (by decide)) ?_)
    refine list_nil ?_
    refine hK10 _ ?_; clear hK10 K10
    refine codeT.imp (σ' := [(0, _), (2, _), (3, _)]) ?_ (imp_covers ⟨rfl, rfl, rfl, trivial⟩)
    refine code_ret ?_
    refine ends_ret (cs := []) rfl rfl rfl rfl trivial ?_
    congr 3
    refine decide_eq_decide.mpr ⟨fun e => RowP.of (by omega) fun j hj => i4 j (by omega), fun e => by have := e.1; omega⟩
set_option maxRecDepth 100000 in
theorem spec_l2Digit (c : Int) (h0 : 0 ≤ c) (h1 : c ≤ 9) : PCalls Try.prog 92 [.int .i64 c] (· = [.val (.int .i64 (digT.getD c.toNat 0))]) := by
  have h := below_int (p := fun i => oneInt (crun Tf.tf noExt 200 6 92 [.int .i64 (Int.ofNat i)]) (digT.getD i 0)) (k := 10) (by kernel_rfl) h0 (by omega)
  have e : Int.ofNat c.toNat = c := Int.toNat_of_nonneg h0
  rw [e] at h
  exact pcalls_run Tf.tf (oneInt_ok h)
theorem map_take {α β : Type} (f : α → β) (d : α) (l : List α) {k : Nat} (h : k < l.length) : (l.take (k + 1)).map f = (l.take k).map f ++ [f (l.getD k d)] := by
  rw [take_snocI d l k h, List.map_append]; rfl
theorem digT_cell (n : Nat) : 0 ≤ digT.getD n 0 ∧ digT.getD n 0 ≤ 127 := by
  by_cases h : n < 10
  · have : n = 0 ∨ n = 1 ∨ n = 2 ∨ n = 3 ∨ n = 4 ∨ n = 5 ∨ n = 6 ∨ n = 7 ∨ n = 8 ∨ n = 9 := by omega
    rcases this with rfl | rfl | rfl | rfl | rfl | rfl | rfl | rfl | rfl | rfl <;> decide
  · have : digT.getD n 0 = 0 := by unfold List.getD; rw [List.getElem?_eq_none (by simp [digT]; omega)]; rfl
    rw [this]; omega
def DigsP (l : List Int) : Prop := ∀ x ∈ l, 0 ≤ digOf x
instance (l : List Int) : Decidable (DigsP l) := by unfold DigsP; infer_instance
theorem DigsP.at {l : List Int} (h : DigsP l) {j : Nat} (hj : j < l.length) : 0 ≤ digOf (l.getD j 0) := by
  have : l.getD j 0 = l[j] := by simp [hj]
  rw [this]; exact h _ (List.getElem_mem hj)
theorem DigsP.of {l : List Int} (h : ∀ j, j < l.length → 0 ≤ digOf (l.getD j 0)) : DigsP l := fun x hx => by
  obtain ⟨j, hj, rfl⟩ := List.getElem_of_mem hx
  have := h j hj
  simpa [hj] using this
def OrdP (s : List UInt8) : Prop := ∀ i, i < s.length → 97 ≤ (s.getD i 0).toNat ∧ (s.getD i 0).toNat ≤ 103 ∧ (0 < i → (s.getD (i - 1) 0).toNat < (s.getD i 0).toNat)
instance (s : List UInt8) : Decidable (OrdP s) := by unfold OrdP; infer_instance
def fl (fs : List (Int × Int)) : List PV := (fs.map fun f => [PV.int .i64 f.1, PV.int .i64 f.2]).flatten
theorem fl_at : ∀ (fs : List (Int × Int)) (k : Nat), k < fs.length → ((fl fs).drop (k * 2)).take 2 = [PV.int .i64 (fs.getD k (0, 0)).1, PV.int .i64 (fs.getD k (0, 0)).2]
  | f :: fs, 0, _ => rfl
  | f :: fs, k + 1, h => by
    have ih := fl_at fs k (by simpa using h)
    show (((PV.int .i64 f.1 :: PV.int .i64 f.2 :: fl fs)).drop ((k + 1) * 2)).take 2 = _
    rw [show (k + 1) * 2 = k * 2 + 2 by omega]
    exact ih
theorem fl_len : ∀ fs : List (Int × Int), (fl fs).length = fs.length * 2
  | [] => rfl
  | f :: fs => by
    show (PV.int .i64 f.1 :: PV.int .i64 f.2 :: fl fs).length = _
    simp only [List.length_cons, fl_len fs]; omega
theorem fl_flat : ∀ fs : List (Int × Int), PV.flatL (fl fs) = true
  | [] => rfl
  | f :: fs => by
    show PV.flatL (PV.int .i64 f.1 :: PV.int .i64 f.2 :: fl fs) = true
    simp only [PV.flatL, PV.flat, fl_flat fs, Bool.and_self]
theorem fl_dp0 : ∀ (fs : List (Int × Int)) (k : Nat), k < fs.length → (fl fs).drop (k * 2) = PV.int .i64 (fs.getD k (0, 0)).1 :: PV.int .i64 (fs.getD k (0, 0)).2 :: (fl fs).drop ((k + 1) * 2)
  | [], k, h => by simp at h
  | f :: fs, 0, _ => rfl
  | f :: fs, k + 1, h => by
    have ih := fl_dp0 fs k (by simpa using h)
    rw [show (k + 1) * 2 = k * 2 + 2 by omega, show (k + 1 + 1) * 2 = (k + 1) * 2 + 2 by omega]
    show (fl fs).drop (k * 2) = _
    rw [ih]; rfl
theorem fl_dp2 {fs : List (Int × Int)} {k : Nat} (h : k < fs.length) : ((fl fs).drop (k * 2)).drop 1 = PV.int .i64 (fs.getD k (0, 0)).2 :: (fl fs).drop ((k + 1) * 2) := by
  rw [fl_dp0 fs k h]; rfl
theorem ior_cast {a : Nat} {b : Int} (ha : a ≤ 127) (h0 : 0 ≤ b) (h1 : b ≤ 127) : ior .i64 (a : Int) b = ((a ||| b.toNat : Nat) : Int) := by
  rw [← ior_nat a b.toNat (by omega) (by omega), Int.toNat_of_nonneg h0]
theorem fl_app8 : ∀ a b : List (Int × Int), fl (a ++ b) = fl a ++ fl b
  | [], _ => rfl
  | x :: a, b => by
    have ih := fl_app8 a b
    show PV.int .i64 x.1 :: PV.int .i64 x.2 :: fl (a ++ b) = _
    rw [ih]; rfl
theorem rng_set {k m : Nat} {f g : Nat → Int} (h : m < k) (h1 : ∀ j, j < k → j ≠ m → g j = f j) : ((List.range k).map f).set m (g m) = (List.range k).map g := by
  apply List.ext_getElem (by simp)
  intro j h2 h3
  rw [List.getElem_set]
  have hj : j < k := by simpa using h3
  simp only [List.getElem_map, List.getElem_range]
  by_cases e : m = j
  · rw [if_pos e, e]
  · rw [if_neg e]; exact (h1 j hj (fun z => e z.symm)).symm
theorem rng_at {k m : Nat} {f : Nat → Int} (h : m < k) : ((List.range k).map f).getD m 0 = f m := by
  rw [List.getD_eq_getElem?_getD, List.getElem?_map, List.getElem?_range h]; rfl
theorem p2_le6 {k : Int} (h : k ≤ 6) : 1 ≤ p2 k.toNat ∧ p2 k.toNat ≤ 64 := by
  have h1 : p2 k.toNat ≤ p2 6 := Nat.pow_le_pow_right (by omega) (by omega)
  have h2 : 0 < p2 k.toNat := Nat.pow_pos (by omega)
  exact ⟨h2, h1⟩
def bt (c : Int) (x : Nat) : Prop := iand .i64 ((shN c.toNat x : Nat) : Int) 1 = 1
instance (c : Int) (x : Nat) : Decidable (bt c x) := by unfold bt; infer_instance
def SlP (k c b : Int) : Prop := (0 ≤ c ∧ c ≤ ((p2 k.toNat : Nat) : Int) - 1) ∧ 0 ≤ b ∧ b ≤ 127
instance (k c b : Int) : Decidable (SlP k c b) := by unfold SlP; infer_instance
def FrmP (k : Int) (fr : List (Int × Int)) : Prop := fr.length ≤ 12 ∧ ∀ j, j < fr.length → SlP k (fr.getD j (0, 0)).1 (fr.getD j (0, 0)).2
instance (k : Int) (fr : List (Int × Int)) : Decidable (FrmP k fr) := by unfold FrmP; infer_instance
def GdP (k : Int) (fr : List (Int × Int)) : Prop := (1 ≤ k ∧ k ≤ 6) ∧ FrmP k fr
instance (k : Int) (fr : List (Int × Int)) : Decidable (GdP k fr) := by unfold GdP; infer_instance
theorem FrmP.bd {k : Int} {fr : List (Int × Int)} (h : FrmP k fr) (hk : k ≤ 6) {j : Nat} (hj : j < fr.length) : (0 ≤ (fr.getD j (0, 0)).1 ∧ (fr.getD j (0, 0)).1 ≤ 63) ∧ 0 ≤ (fr.getD j (0, 0)).2 ∧ (fr.getD j (0, 0)).2 ≤ 127 := by
  have h1 := h.2 j hj
  have h2 := p2_le6 hk
  unfold SlP at h1; omega
def orN (fr : List (Int × Int)) (x : Nat) : Nat → Nat
  | 0 => 0
  | i + 1 => if bt (fr.getD i (0, 0)).1 x then orN fr x i ||| (fr.getD i (0, 0)).2.toNat else orN fr x i
theorem or_127 {a b : Nat} (ha : a ≤ 127) (hb : b ≤ 127) : a ||| b ≤ 127 := by
  have := @Nat.or_lt_two_pow a b 7 (by omega) (by omega); omega
theorem orN_le {k : Int} {fr : List (Int × Int)} (h : FrmP k fr) (hk : k ≤ 6) (x : Nat) : ∀ i, i ≤ fr.length → orN fr x i ≤ 127
  | 0, _ => by simp [orN]
  | i + 1, hi => by
    have ih := orN_le h hk x i (by omega)
    have hb := h.bd hk (j := i) (by omega)
    unfold orN
    split
    · exact or_127 ih (by omega)
    · exact ih
def senK (fr : List (Int × Int)) (k i m : Nat) : List Int := (List.range k).map fun x => ((orN fr x (if x < m then i + 1 else i) : Nat) : Int)
def sen (fr : List (Int × Int)) (k : Nat) : List Int := senK fr k fr.length 0
theorem senK_len (fr : List (Int × Int)) (k i m : Nat) : (senK fr k i m).length = k := by simp [senK]
theorem senK_at {fr : List (Int × Int)} {k i m x : Nat} (h : x < k) : (senK fr k i m).getD x 0 = ((orN fr x (if x < m then i + 1 else i) : Nat) : Int) := rng_at h
theorem senK_zero (fr : List (Int × Int)) (k : Nat) : List.replicate k (0 : Int) = senK fr k 0 0 := by
  apply List.ext_getElem (by simp [senK])
  intro j h1 h2
  simp [senK, orN]
theorem senK_next (fr : List (Int × Int)) (k i : Nat) : senK fr k i k = senK fr k (i + 1) 0 := by
  unfold senK
  apply List.map_congr_left
  intro x hx
  rw [if_pos (List.mem_range.1 hx), if_neg (by omega)]
theorem senK_yes {fr : List (Int × Int)} {k i m o : Nat} {v : Int} (h : m < k) (ho : o = m) (hb : bt (fr.getD i (0, 0)).1 m) (hv : v = ((orN fr m i ||| (fr.getD i (0, 0)).2.toNat : Nat) : Int)) : putAt ((senK fr k i m).map (PV.int .i64)) (o * 1) [PV.int .i64 v] = (senK fr k i (m + 1)).map (PV.int .i64) := by
  subst ho
  rw [put_map1 (PV.int .i64) _ (by rw [senK_len]; exact h)]
  congr 1
  have := rng_set (f := fun x => ((orN fr x (if x < o then i + 1 else i) : Nat) : Int)) (g := fun x => ((orN fr x (if x < o + 1 then i + 1 else i) : Nat) : Int)) h (fun j hj hne => by
    by_cases e : j < o
    · rw [if_pos e, if_pos (by omega)]
    · rw [if_neg e, if_neg (by omega)])
  rw [if_pos (show o < o + 1 by omega)] at this
  rw [hv]
  unfold senK
  rw [← this, orN, if_pos hb]
theorem senK_no {fr : List (Int × Int)} {k i m : Nat} (hb : ¬ bt (fr.getD i (0, 0)).1 m) : senK fr k i m = senK fr k i (m + 1) := by
  unfold senK
  apply List.map_congr_left
  intro x hx
  by_cases e : x < m
  · rw [if_pos e, if_pos (by omega)]
  · rw [if_neg e]
    by_cases e2 : x = m
    · subst e2; rw [if_pos (by omega), orN, if_neg hb]
    · rw [if_neg (by omega)]
def plnK (l : List Int) : Nat → List (Int × Int)
  | 0 => []
  | i + 1 => if l.getD i 0 ≠ 0 then plnK l i ++ [(((p2 i : Nat) : Int), l.getD i 0)] else plnK l i
theorem plnK_len (l : List Int) : ∀ i, (plnK l i).length ≤ i
  | 0 => by simp [plnK]
  | i + 1 => by
    have := plnK_len l i
    unfold plnK; split
    · simp; omega
    · omega
def PlnP (l : List Int) : Prop := RowP l ∧ 0 < l.length
instance (l : List Int) : Decidable (PlnP l) := by unfold PlnP; infer_instance
def fulN (l : List Int) (cells : Int) : Nat → Nat
  | 0 => 127
  | i + 1 => if bt cells i then fulN l cells i &&& (l.getD i 0).toNat else fulN l cells i
theorem fulN_le (l : List Int) (cells : Int) : ∀ i, fulN l cells i ≤ 127
  | 0 => Nat.le_refl _
  | i + 1 => by
    have := fulN_le l cells i
    unfold fulN; split
    · exact Nat.le_trans Nat.and_le_left this
    · exact this
def FbP (l : List Int) (cells : Int) : Prop := PlnP l ∧ 1 ≤ cells ∧ cells ≤ ((p2 (l.length : Int).toNat : Nat) : Int) - 1
instance (l : List Int) (cells : Int) : Decidable (FbP l cells) := by unfold FbP; infer_instance
def blk (fr : List (Int × Int)) : List (Int × Int) := fr.flatMap fun s => [s, (0, 0)]
theorem blk_snoc {fr : List (Int × Int)} {i : Nat} (h : i < fr.length) : blk (fr.take (i + 1)) = blk (fr.take i) ++ [fr.getD i (0, 0), (0, 0)] := by
  unfold blk
  rw [List.take_add_one, List.getElem?_eq_getElem h, List.flatMap_append, List.getD_eq_getElem?_getD, List.getElem?_eq_getElem h]; rfl
theorem blk_len (fr : List (Int × Int)) : (blk fr).length = 2 * fr.length := by
  unfold blk
  induction fr with
  | nil => rfl
  | cons a r ih => simp only [List.flatMap_cons, List.length_append, List.length_cons, List.length_nil]; omega
def BlkP (k : Int) (fr : List (Int × Int)) : Prop := GdP k fr ∧ 2 * (fr.length : Int) ≤ 12
instance (k : Int) (fr : List (Int × Int)) : Decidable (BlkP k fr) := by unfold BlkP; infer_instance
def VnP (k : Int) (fr : List (Int × Int)) (i : Nat) : Prop := sen (fr.take i ++ fr.drop (i + 1)) k.toNat = sen fr k.toNat
instance (k : Int) (fr : List (Int × Int)) (i : Nat) : Decidable (VnP k fr i) := by unfold VnP; infer_instance
theorem FrmP.mem {k : Int} {fr : List (Int × Int)} : FrmP k fr ↔ fr.length ≤ 12 ∧ ∀ s ∈ fr, SlP k s.1 s.2 := by
  unfold FrmP
  refine and_congr_right fun _ => ⟨fun h s hs => ?_, fun h j hj => ?_⟩
  · obtain ⟨j, hj, rfl⟩ := List.getElem_of_mem hs
    have := h j hj
    rwa [List.getD_eq_getElem?_getD, List.getElem?_eq_getElem hj] at this
  · rw [List.getD_eq_getElem?_getD, List.getElem?_eq_getElem hj]; exact h _ (List.getElem_mem hj)
theorem FrmP.cut {k : Int} {fr : List (Int × Int)} (h : FrmP k fr) (i : Nat) : FrmP k (fr.take i ++ fr.drop (i + 1)) := by
  rw [FrmP.mem] at h ⊢
  refine ⟨by have := h.1; simp only [List.length_append, List.length_take, List.length_drop]; omega, fun s hs => h.2 s ?_⟩
  rcases List.mem_append.1 hs with hs | hs
  · exact List.mem_of_mem_take hs
  · exact List.mem_of_mem_drop hs
theorem GdP.gd {k : Int} {fr : List (Int × Int)} (h : GdP k fr) (i : Nat) : GdP k (fr.take i ++ fr.drop (i + 1)) := ⟨h.1, h.2.cut i⟩
def gK (o : Nat → Nat → Nat) (k i m : Nat) : List Int := (List.range k).map fun x => ((o x (if x < m then i + 1 else i) : Nat) : Int)
theorem gK_len (o : Nat → Nat → Nat) (k i m : Nat) : (gK o k i m).length = k := by simp [gK]
theorem gK_at {o : Nat → Nat → Nat} {k i m x : Nat} (h : x < k) : (gK o k i m).getD x 0 = ((o x (if x < m then i + 1 else i) : Nat) : Int) := rng_at h
theorem gK_zero {o : Nat → Nat → Nat} (h : ∀ x, o x 0 = 0) (k : Nat) : List.replicate k (0 : Int) = gK o k 0 0 := by
  apply List.ext_getElem (by simp [gK])
  intro j h1 h2
  simp [gK, h]
theorem gK_next (o : Nat → Nat → Nat) (k i : Nat) : gK o k i k = gK o k (i + 1) 0 := by
  unfold gK
  apply List.map_congr_left
  intro x hx
  rw [if_pos (List.mem_range.1 hx), if_neg (by omega)]
theorem gK_yes {o : Nat → Nat → Nat} {k i m p : Nat} {v : Int} (h : m < k) (hp : p = m) (hv : v = ((o m (i + 1) : Nat) : Int)) : putAt ((gK o k i m).map (PV.int .i64)) (p * 1) [PV.int .i64 v] = (gK o k i (m + 1)).map (PV.int .i64) := by
  subst hp
  rw [put_map1 (PV.int .i64) _ (by rw [gK_len]; exact h)]
  congr 1
  have := rng_set (f := fun x => ((o x (if x < p then i + 1 else i) : Nat) : Int)) (g := fun x => ((o x (if x < p + 1 then i + 1 else i) : Nat) : Int)) h (fun j hj hne => by
    by_cases e : j < p
    · rw [if_pos e, if_pos (by omega)]
    · rw [if_neg e, if_neg (by omega)])
  rw [if_pos (show p < p + 1 by omega)] at this
  rw [hv]
  unfold gK
  rw [← this]
theorem gK_put {o : Nat → Nat → Nat} {k i m p : Nat} {v : Int} (h : m < k) (hp : p = m * 1) (hv : v = ((o m (i + 1) : Nat) : Int)) : putAt ((gK o k i m).map (PV.int .i64)) p [PV.int .i64 v] = (gK o k i (m + 1)).map (PV.int .i64) := by
  subst hp; exact gK_yes h rfl hv
theorem gK_no {o : Nat → Nat → Nat} {k i m : Nat} (hb : o m (i + 1) = o m i) : gK o k i m = gK o k i (m + 1) := by
  unfold gK
  apply List.map_congr_left
  intro x hx
  by_cases e : x < m
  · rw [if_pos e, if_pos (by omega)]
  · rw [if_neg e]
    by_cases e2 : x = m
    · subst e2; rw [if_pos (by omega), hb]
    · rw [if_neg (by omega)]
def ghO (fr : List (Int × Int)) (x : Nat) : Nat → Nat
  | 0 => 0
  | i + 1 => if bt (fr.getD ((i + 1) % fr.length) (0, 0)).1 x then ghO fr x i ||| ((fr.getD i (0, 0)).2.toNat ^^^ ((fr.getD i (0, 0)).2.toNat &&& orN fr x fr.length)) else ghO fr x i
theorem aN_le {a b : Nat} (h : a ≤ 127) : a ^^^ (a &&& b) ≤ 127 := by
  have h1 : a &&& b ≤ a := Nat.and_le_left
  have := @Nat.xor_lt_two_pow a (a &&& b) 7 (by omega) (by omega); omega
theorem ghO_le {k : Int} {fr : List (Int × Int)} (h : FrmP k fr) (hk : k ≤ 6) (x : Nat) : ∀ i, i ≤ fr.length → ghO fr x i ≤ 127
  | 0, _ => by simp [ghO]
  | i + 1, hi => by
    have ih := ghO_le h hk x i (by omega)
    have hb := h.bd hk (j := i) (by omega)
    unfold ghO
    split
    · exact or_127 ih (aN_le (by omega))
    · exact ih
theorem gh_val {a c : Nat} {b : Int} (ha : a ≤ 127) (h0 : 0 ≤ b) (h1 : b ≤ 127) (hc : c ≤ 127) : ior .i64 (a : Int) (iandNot .i64 b (c : Int)) = ((a ||| (b.toNat ^^^ (b.toNat &&& c)) : Nat) : Int) := by
  have h := aN_le (a := b.toNat) (b := c) (by omega)
  rw [← Int.toNat_of_nonneg h0, iandNot_nat _ _ (by omega) (by omega), ior_nat _ _ (by omega) (by omega), Int.toNat_natCast]
def ghL (fr : List (Int × Int)) (k : Nat) : List Int := gK (ghO fr) k fr.length 0
def duS (fr : List (Int × Int)) (s i : Nat) : Nat := (shN (fr.getD i (0, 0)).1.toNat (s / 7) &&& 1) * (shN (fr.getD i (0, 0)).2.toNat (s % 7) &&& 1)
def duO (fr : List (Int × Int)) (s : Nat) : Nat → Nat
  | 0 => 0
  | i + 1 => duO fr s i + duS fr s i
theorem and1_le (a : Nat) : a &&& 1 ≤ 1 := Nat.and_le_right
theorem duS_le (fr : List (Int × Int)) (s i : Nat) : duS fr s i ≤ 1 := by
  have h := Nat.mul_le_mul (and1_le (shN (fr.getD i (0, 0)).1.toNat (s / 7))) (and1_le (shN (fr.getD i (0, 0)).2.toNat (s % 7)))
  unfold duS; omega
theorem duO_le (fr : List (Int × Int)) (s : Nat) : ∀ i, duO fr s i ≤ i
  | 0 => Nat.le_refl _
  | i + 1 => by
    have h1 := duO_le fr s i
    have h2 := duS_le fr s i
    unfold duO; omega
theorem du_val {a x y : Nat} (ha : a ≤ 12) (hx : x ≤ 127) (hy : y ≤ 127) : IntKind.i64.wrap ((a : Int) + IntKind.i64.wrap (iand .i64 (x : Int) 1 * iand .i64 (y : Int) 1)) = ((a + (x &&& 1) * (y &&& 1) : Nat) : Int) := by
  have h1 := iand_nat x 1 (by omega) (by omega)
  have h2 := iand_nat y 1 (by omega) (by omega)
  have h3 := and1_le x
  have h4 := and1_le y
  have h5 : (x &&& 1) * (y &&& 1) ≤ 1 * 1 := Nat.mul_le_mul h3 h4
  rw [show (1 : Int) = ((1 : Nat) : Int) from rfl, h1, h2, ← Int.natCast_mul, wrap_in (i := (((x &&& 1) * (y &&& 1) : Nat) : Int)) (by omega) (by omega), wrap_in (by omega) (by omega)]; rfl
def duL (fr : List (Int × Int)) (k : Nat) : List Int := gK (duO fr) (k * 7) fr.length 0
theorem gK_ld {o : Nat → Nat → Nat} {k i m j b : Nat} (h : j * 7 + b < k) : ((gK o k i m).map (PV.int .i64))[j * 7 + b * 1]? = some (.int .i64 ((gK o k i m).getD (j * 7 + b) 0)) := by
  have := get_map1 (PV.int .i64) 0 (gK o k i m) (k := j * 7 + b) (by rw [gK_len]; exact h)
  rw [Nat.mul_one] at this
  rw [Nat.mul_one]; exact this
theorem duS_at (fr : List (Int × Int)) (i : Nat) {j b : Nat} (h : b < 7) : duS fr (j * 7 + b) i = (shN (fr.getD i (0, 0)).1.toNat j &&& 1) * (shN (fr.getD i (0, 0)).2.toNat b &&& 1) := by
  unfold duS; rw [show (j * 7 + b) / 7 = j by omega, show (j * 7 + b) % 7 = b by omega]
theorem sevn0 : ∀ m, m < 7 → ([PV.int .i64 0, PV.int .i64 0, PV.int .i64 0, PV.int .i64 0, PV.int .i64 0, PV.int .i64 0, PV.int .i64 0] : List PV).getD m (.bool false) = PV.int .i64 0
  | 0, _ => rfl | 1, _ => rfl | 2, _ => rfl | 3, _ => rfl | 4, _ => rfl | 5, _ => rfl | 6, _ => rfl
theorem zers7 (n : Nat) : zeros [PV.int .i64 0, PV.int .i64 0, PV.int .i64 0, PV.int .i64 0, PV.int .i64 0, PV.int .i64 0, PV.int .i64 0] n = (List.replicate (n * 7) (0 : Int)).map (PV.int .i64) := by
  have e : zeros [PV.int .i64 0, PV.int .i64 0, PV.int .i64 0, PV.int .i64 0, PV.int .i64 0, PV.int .i64 0, PV.int .i64 0] n = (List.range (n * 7)).map fun _ => PV.int .i64 0 := by
    unfold zeros
    apply List.map_congr_left
    intro j _
    exact sevn0 _ (Nat.mod_lt _ (by decide))
  rw [e, List.map_const', List.length_range, List.map_replicate]
set_option maxRecDepth 4000 in
theorem spec_l8Slot (k cc b : Int) (hk : 1 ≤ k ∧ k ≤ 6) : PCalls Try.prog 85 [.int .i64 k, .agg [.int .i64 cc, .int .i64 b]] (· = [.val (.bool (decide (SlP k cc b)))]) := by
  refine pcalls_of_code (n := 16) az Try.func85 (by kernel_rfl) rfl rfl (Nat.le_of_ble_eq_true rfl) (by intro t u h; simp [Try.f85] at h) ?_
  have hp := p2_le6 hk.2
  refine code_seq (fun K1 hK1 => ?_)
  refine code_region ?_
  refine list_cons rfl (op_box rfl (.inl ⟨rfl, rfl⟩) (by decide) (by decide) rfl ?_)
  refine list_cons rfl (op_q (q_assign rfl (by decide)) ?_)
  refine list_nil ?_
  refine hK1 _ ?_; clear hK1 K1
  refine code_seq (fun K2 hK2 => ?_)
  refine code_draw (by kernel_rfl) (by kernel_rfl) ?_
  refine draw_q rfl (q_fieldAddr fi_62_0 rfl rfl (by decide)) ?_
  refine draw_q rfl (q_load one_3 3 rfl rfl rfl (by first | rfl | exact get_map1 _ 0 _ (by first | omega | (simp; omega))) (by decide)) ?_
  refine draw_q rfl (q_move rfl (by decide)) ?_
  refine draw_q rfl (by first | exact q_shl1 rfl rfl (by decide) (by omega) (by omega) | exact q_shlI rfl rfl (by decide) (by omega) (by omega) (by omega) | exact q_shl rfl rfl (by omega) (by decide)) ?_
  refine draw_q rfl (by first | exact q_subI rfl rfl (by decide) (by omega) (by omega) | exact q_ib rfl rfl rfl (by decide)) ?_
  refine draw_call _ (spec_l1In _ _ _) rfl rfl rfl (by decide) ?_
  refine draw_q rfl (q_move rfl (by decide)) ?_
  refine draw_guard_d rfl rfl rfl rfl (by decide) rfl (by decide) (fun h1 => q_fieldAddr fi_62_1 rfl rfl (by decide)) (fun h1 => ?_) (fun h1 => ?_)
  · simp only [Bool.false_eq_true, if_true, if_false, Decidable.not_not] at h1
    refine draw_guard_y rfl rfl rfl rfl (by decide) rfl (q_load one_3 3 rfl rfl rfl (by first | rfl | exact get_map1 _ 0 _ (by first | omega | (simp; omega))) (by decide)) ?_
    refine draw_callW _ (spec_l2Cell _) rfl rfl rfl (by decide) (wanted_of rfl rfl rfl (by decide)) ?_
    refine draw_q rfl (q_pick rfl rfl (by decide)) ?_
    refine draw_q rfl (q_assign rfl (by decide)) ?_
    refine draw_nil ?_
    refine hK2 _ ?_; clear hK2 K2
    refine codeT.imp (σ' := [(0, _), (1, _), (3, _), (4, _)]) ?_ (imp_covers ⟨rfl, rfl, rfl, rfl, trivial⟩)
    refine code_ret ?_
    refine ends_ret (cs := []) rfl rfl rfl rfl trivial ?_
    first
      | (congr 3; exact decide_eq_decide.mpr ⟨fun e => by unfold SlP; omega, fun e => by unfold SlP at e; omega⟩)
      | (rw [decide_eq_false (fun e => by unfold SlP at e; omega)]; done)
  simp only [Bool.false_eq_true, if_true, if_false, Decidable.not_not] at h1
  refine draw_guard_n rfl rfl rfl rfl (by decide) rfl ?_
  refine draw_guard_n rfl rfl rfl rfl (by decide) rfl ?_
  refine draw_q rfl (q_pick rfl rfl (by decide)) ?_
  refine draw_q rfl (q_assign rfl (by decide)) ?_
  refine draw_nil ?_
  refine hK2 _ ?_; clear hK2 K2
  refine codeT.imp (σ' := [(0, _), (1, _), (3, _), (4, _)]) ?_ (imp_covers ⟨rfl, rfl, rfl, rfl, trivial⟩)
  refine code_ret ?_
  refine ends_ret (cs := []) rfl rfl rfl rfl trivial ?_
  first
    | (congr 3; exact decide_eq_decide.mpr ⟨fun e => by unfold SlP; omega, fun e => by unfold SlP at e; omega⟩)
    | (rw [decide_eq_false (fun e => by unfold SlP at e; omega)]; done)
theorem spec_l8SlotE (k : Int) (cs : List PV) (cc b : Int) (hc : cs = [.int .i64 cc, .int .i64 b]) (hk : 1 ≤ k ∧ k ≤ 6) : PCalls Try.prog 85 [.int .i64 k, .agg cs] (· = [.val (.bool (decide (SlP k cc b)))]) := by
  subst hc; exact spec_l8Slot k cc b hk
set_option maxRecDepth 8000 in
set_option maxHeartbeats 2000000 in
theorem spec_l8Frame (k : Int) (fr : List (Int × Int)) (hk : 1 ≤ k ∧ k ≤ 6) (hf : fr.length ≤ 1048576) : PCalls Try.prog 51 [.int .i64 k, .sl fr.length (fl fr)] (· = [.val (.bool (decide (FrmP k fr)))]) := by
  refine pcalls_of_code (n := 26) az Try.func51 (by kernel_rfl) rfl rfl (Nat.le_of_ble_eq_true rfl) (by intro t u h; simp [Try.f51] at h) ?_
  have hfl := fl_len fr
  have hff := fl_flat fr
  refine code_seq (fun K1 hK1 => ?_)
  refine code_region ?_
  refine list_cons rfl (op_q (q_assign rfl (by decide)) ?_)
  refine list_nil ?_
  refine hK1 _ ?_; clear hK1 K1
  refine code_seq (fun K2 hK2 => ?_)
  refine code_seq (fun K3 hK3 => ?_)
  refine code_region ?_
  refine list_cons rfl (op_q (q_assign rfl (by decide)) ?_)
  refine list_nil ?_
  refine hK3 _ ?_; clear hK3 K3
  refine code_block ?_
  refine code_loop (X := Bool × Int) (fun x => [(0, .val (.int .i64 k)), (1, .par 1 (.sl fr.length (fl fr))), (4, .val (.bool x.1)), (5, .val (.int .i64 x.2))]) (fun x => 0 ≤ x.2 ∧ x.2 ≤ 13 ∧ x.2 ≤ fr.length ∧ ∀ j, j < x.2.toNat → SlP k (fr.getD j (0, 0)).1 (fr.getD j (0, 0)).2) (fun x => (13 - x.2).toNat) (_, _) (imp_covers ⟨rfl, rfl, rfl, rfl, trivial⟩) ?_ ?_
  · (try dsimp only)
    exact ⟨by omega, by omega, by omega, fun j hj => absurd hj (Nat.not_lt_zero j)⟩
  · intro x hI
    obtain ⟨t4, i⟩ := x
    replace hI : 0 ≤ i ∧ i ≤ 13 ∧ i ≤ fr.length ∧ ∀ j, j < i.toNat → SlP k (fr.getD j (0, 0)).1 (fr.getD j (0, 0)).2 := hI
    show codeT _ _ _ [(0, .val (.int .i64 k)), (1, .par 1 (.sl fr.length (fl fr))), (4, .val (.bool t4)), (5, .val (.int .i64 i))] _
    obtain ⟨i1, i2, i3, i4⟩ := hI
    refine code_seq (fun K4 hK4 => ?_)
    refine code_seq (fun K5 hK5 => ?_)
    refine code_region ?_
    refine list_cons rfl (op_q (q_move rfl (by decide)) ?_)
    refine list_cons rfl (op_q (q_move rfl (by decide)) ?_)
    refine list_cons rfl (op_q (q_len_sl Try.underlying24 rfl rfl (by decide)) ?_)
    refine list_cons rfl (op_q (q_lt rfl rfl (by decide)) ?_)
    refine list_cons rfl (op_q (q_move rfl (by decide)) ?_)
    refine list_guard_d rfl rfl rfl rfl (by decide) rfl (by decide) (fun h1 => ?_) (fun h1 => ?_)
    · simp only [Bool.false_eq_true, if_true, if_false, Decidable.not_not] at h1
      refine id (op_q (q_move rfl (by decide)) ?_)
      refine list_guard_y rfl rfl rfl rfl (by decide) rfl ?_
      refine id (op_q (q_le rfl rfl (by decide)) ?_)
      refine list_cons rfl (op_q (q_pick rfl rfl (by decide)) ?_)
      refine list_nil ?_
      refine hK5 _ ?_; clear hK5 K5
      refine codeT.imp (σ' := [(0, _), (1, _), (4, _), (5, _), (13, _)]) ?_ (imp_covers ⟨rfl, rfl, rfl, rfl, rfl, trivial⟩)
      refine code_cond_d rfl (fun h2 => ?_) (fun h2 => ?_)
      · skip
        (try simp only [Decidable.not_not] at h2)
        refine code_skip ?_
        refine hK4 _ ?_; clear hK4 K4
        refine code_seq (fun K6 hK6 => ?_)
        refine code_block ?_
        refine code_seq (fun K7 hK7 => ?_)
        refine code_region ?_
        refine list_cons rfl (op_q (q_move rfl (by decide)) ?_)
        refine list_cons rfl (op_q (q_move rfl (by decide)) ?_)
        refine list_cons rfl (op_q (q_move rfl (by decide)) ?_)
        refine list_cons rfl (op_q (q_indexAddr_rd sl_24 rfl (.inl ⟨_, rfl, rfl⟩) rfl (by omega) (by omega) (by decide)) ?_)
        refine list_cons rfl (op_q (q_load_rd_aggE agg_62 rfl (.inl ⟨_, rfl⟩) (by first | decide | omega | exact Nat.le_refl _ | (simp; done) | (simp; omega)) (fl_at fr i.toNat (by omega)) rfl (by decide)) ?_)
        refine list_cons rfl (op_call _ (spec_l8SlotE k _ _ _ rfl hk) rfl rfl (by decide) (by decide) (by decide) rfl ?_)
        rintro _ rfl
        refine list_cons rfl (op_q (by first | exact q_notd rfl (by decide) | exact q_not rfl (by decide)) ?_)
        refine list_nil ?_
        refine hK7 _ ?_; clear hK7 K7
        refine codeT.imp (σ' := [(0, _), (1, _), (4, _), (5, _), (22, _)]) ?_ (imp_covers ⟨rfl, rfl, rfl, rfl, rfl, trivial⟩)
        refine code_cond_d rfl (fun h3 => ?_) (fun h3 => ?_)
        · skip
          (try simp only [Decidable.not_not] at h3)
          refine code_seq (fun K8 hK8 => ?_)
          refine code_region ?_
          refine list_cons rfl (op_q (q_assign rfl (by decide)) ?_)
          refine list_nil ?_
          refine hK8 _ ?_; clear hK8 K8
          refine code_ret ?_
          refine blk_r ?_
          refine then_r ?_; clear hK6 K6
          refine then_r ?_
          refine blk_r ?_
          refine then_r ?_; clear hK2 K2
          refine ends_ret (cs := []) rfl rfl rfl rfl trivial ?_
          first
            | (rw [decide_eq_false (fun e : FrmP k fr => absurd (e.2 i.toNat (by omega)) (by assumption))]; done)
            | (congr 3; exact decide_eq_decide.mpr ⟨fun e => ⟨by omega, fun j hj => i4 j (by omega)⟩, fun e => by have := e.1; omega⟩)
        (try simp only [Decidable.not_not] at h3)
        refine code_skip ?_
        refine blk_n ?_
        refine hK6 _ ?_; clear hK6 K6
        refine code_region ?_
        refine list_cons rfl (op_q (q_move rfl (by decide)) ?_)
        refine list_cons rfl (op_q (by first | exact q_addI rfl rfl (by decide) (by omega) (by omega) | exact q_ib rfl rfl rfl (by decide)) ?_)
        refine list_cons rfl (op_q (q_assign rfl (by decide)) ?_)
        refine list_nil ?_
        refine then_n ⟨(_, _), imp_covers ⟨rfl, rfl, rfl, rfl, trivial⟩, ?_, ?_⟩
        · (try dsimp only)
          refine ⟨by omega, by omega, by omega, fun j hj => ?_⟩
          by_cases e : j = i.toNat
          · subst e; assumption
          · exact i4 j (by omega)
        · (try dsimp only); omega
      (try simp only [Decidable.not_not] at h2)
      refine code_exit ?_
      refine then_x ?_; clear hK4 K4
      refine then_x ?_
      refine blk_hit ?_
      refine hK2 _ ?_; clear hK2 K2
      refine code_seq (fun K9 hK9 => ?_)
      refine code_region ?_
      refine list_cons rfl (op_q (q_move rfl (by decide)) ?_)
      refine list_cons rfl (op_q (q_len_sl Try.underlying24 rfl rfl (by decide)) ?_)
      refine list_cons rfl (op_q (q_le rfl rfl (by decide)) ?_)
      refine list_cons rfl (op_q (q_assign rfl (by decide)) ?_)
      refine list_nil ?_
      refine hK9 _ ?_; clear hK9 K9
      refine code_ret ?_
      refine ends_ret (cs := []) rfl rfl rfl rfl trivial ?_
      first
        | (rw [decide_eq_false (fun e : FrmP k fr => absurd (e.2 i.toNat (by omega)) (by assumption))]; done)
        | (congr 3; exact decide_eq_decide.mpr ⟨fun e => ⟨by omega, fun j hj => i4 j (by omega)⟩, fun e => by have := e.1; omega⟩)
    simp only [Bool.false_eq_true, if_true, if_false, Decidable.not_not] at h1
    refine list_guard_n rfl rfl rfl rfl (by decide) rfl ?_
    refine list_cons rfl (op_q (q_pick rfl rfl (by decide)) ?_)
    refine list_nil ?_
    refine hK5 _ ?_; clear hK5 K5
    refine code_cond_f rfl ?_
    refine code_exit ?_
    refine then_x ?_; clear hK4 K4
    refine then_x ?_
    refine blk_hit ?_
    refine hK2 _ ?_; clear hK2 K2
    refine code_seq (fun K10 hK10 => ?_)
    refine code_region ?_
    refine list_cons rfl (op_q (q_move rfl (by decide)) ?_)
    refine list_cons rfl (op_q (q_len_sl Try.underlying24 rfl rfl (by decide)) ?_)
    refine list_cons rfl (op_q (q_le rfl rfl (by decide)) ?_)
    refine list_cons rfl (op_q (q_assign rfl (by decide)) ?_)
    refine list_nil ?_
    refine hK10 _ ?_; clear hK10 K10
    refine codeT.imp (σ' := [(0, _), (1, _), (4, _), (5, _)]) ?_ (imp_covers ⟨rfl, rfl, rfl, rfl, trivial⟩)
    refine code_ret ?_
    refine ends_ret (cs := []) rfl rfl rfl rfl trivial ?_
    first
      | (rw [decide_eq_false (fun e : FrmP k fr => absurd (e.2 i.toNat (by omega)) (by assumption))]; done)
      | (congr 3; exact decide_eq_decide.mpr ⟨fun e => ⟨by omega, fun j hj => i4 j (by omega)⟩, fun e => by have := e.1; omega⟩)
set_option maxRecDepth 4000 in
theorem spec_l8Good (k : Int) (fr : List (Int × Int)) (hf : fr.length ≤ 1048576) : PCalls Try.prog 44 [.int .i64 k, .sl fr.length (fl fr)] (· = [.val (.bool (decide (GdP k fr)))]) := by
  refine pcalls_of_code (n := 12) az Try.func44 (by kernel_rfl) rfl rfl (Nat.le_of_ble_eq_true rfl) (by intro t u h; simp [Try.f44] at h) ?_
  refine code_seq (fun K1 hK1 => ?_)
  refine code_region ?_
  refine list_cons rfl (op_q (q_assign rfl (by decide)) ?_)
  refine list_nil ?_
  refine hK1 _ ?_; clear hK1 K1
  refine code_seq (fun K2 hK2 => ?_)
  refine code_region ?_
  refine list_cons rfl (op_q (q_move rfl (by decide)) ?_)
  refine list_cons rfl (op_call _ (spec_l1In _ _ _) rfl rfl (by decide) (by decide) (by decide) rfl ?_)
  rintro _ rfl
  refine list_cons rfl (op_q (q_move rfl (by decide)) ?_)
  refine list_guard_d rfl rfl rfl rfl (by decide) rfl (by decide) (fun h1 => ?_) (fun h1 => ?_)
  · simp only [Bool.false_eq_true, if_true, if_false, Decidable.not_not] at h1
    refine id (op_q (q_move rfl (by decide)) ?_)
    refine list_guard_y rfl rfl rfl rfl (by decide) rfl ?_
    refine id (op_q (q_move rfl (by decide)) ?_)
    refine list_guard_y rfl rfl rfl rfl (by decide) rfl ?_
    refine id (op_call _ (spec_l8Frame k fr h1 hf) rfl rfl (by decide) (by decide) (by decide) rfl ?_)
    rintro _ rfl
    refine list_cons rfl (op_q (q_pick rfl rfl (by decide)) ?_)
    refine list_cons rfl (op_q (q_assign rfl (by decide)) ?_)
    refine list_nil ?_
    refine hK2 _ ?_; clear hK2 K2
    refine codeT.imp (σ' := [(0, _), (1, _), (4, _)]) ?_ (imp_covers ⟨rfl, rfl, rfl, trivial⟩)
    refine code_ret ?_
    refine ends_ret (cs := []) rfl rfl rfl rfl trivial ?_
    first
      | (rw [decide_eq_false (fun e : GdP k fr => h1 e.1)]; done)
      | (congr 3; exact decide_eq_decide.mpr ⟨fun e => ⟨h1, e⟩, fun e => e.2⟩)
  simp only [Bool.false_eq_true, if_true, if_false, Decidable.not_not] at h1
  refine list_guard_n rfl rfl rfl rfl (by decide) rfl ?_
  refine list_guard_n rfl rfl rfl rfl (by decide) rfl ?_
  refine list_cons rfl (op_q (q_pick rfl rfl (by decide)) ?_)
  refine list_cons rfl (op_q (q_assign rfl (by decide)) ?_)
  refine list_nil ?_
  refine hK2 _ ?_; clear hK2 K2
  refine code_ret ?_
  refine ends_ret (cs := []) rfl rfl rfl rfl trivial ?_
  first
    | (rw [decide_eq_false (fun e : GdP k fr => h1 e.1)]; done)
    | (congr 3; exact decide_eq_decide.mpr ⟨fun e => ⟨h1, e⟩, fun e => e.2⟩)
set_option maxRecDepth 4000 in
theorem spec_IsFrame (k : Int) (fr : List (Int × Int)) (hf : fr.length ≤ 1048576) : PCalls Try.prog 11 [.int .i64 k, .sl fr.length (fl fr)] (· = [.val (.bool (decide (GdP k fr))), .val (.bool (decide (1 ≤ k ∧ k ≤ 6)))]) := by
  refine pcalls_of_code (n := 12) az Try.func11 (by kernel_rfl) rfl rfl (Nat.le_of_ble_eq_true rfl) (by intro t u h; simp [Try.f11] at h) ?_
  refine code_seq (fun K1 hK1 => ?_)
  refine code_region ?_
  refine list_cons rfl (op_q (q_assign rfl (by decide)) ?_)
  refine list_cons rfl (op_q (q_assign rfl (by decide)) ?_)
  refine list_nil ?_
  refine hK1 _ ?_; clear hK1 K1
  refine code_seq (fun K2 hK2 => ?_)
  refine code_seq (fun K3 hK3 => ?_)
  refine code_region ?_
  refine list_cons rfl (op_q (q_move rfl (by decide)) ?_)
  refine list_cons rfl (op_call _ (spec_l1In _ _ _) rfl rfl (by decide) (by decide) (by decide) rfl ?_)
  rintro _ rfl
  refine list_cons rfl (op_q (by first | exact q_notd rfl (by decide) | exact q_not rfl (by decide)) ?_)
  refine list_nil ?_
  refine hK3 _ ?_; clear hK3 K3
  refine codeT.imp (σ' := [(0, _), (1, _), (4, _), (5, _), (8, _)]) ?_ (imp_covers ⟨rfl, rfl, rfl, rfl, rfl, trivial⟩)
  refine code_cond_d rfl (fun h1 => ?_) (fun h1 => ?_)
  · skip
    (try simp only [Decidable.not_not] at h1)
    refine code_seq (fun K4 hK4 => ?_)
    refine code_region ?_
    refine list_cons rfl (op_q (q_assign rfl (by decide)) ?_)
    refine list_cons rfl (op_q (q_assign rfl (by decide)) ?_)
    refine list_nil ?_
    refine hK4 _ ?_; clear hK4 K4
    refine code_ret ?_
    refine then_r ?_; clear hK2 K2
    refine ends_ret (cs := []) rfl rfl rfl rfl trivial ?_
    first
      | (have e : ¬ (1 ≤ k ∧ k ≤ 6) := by assumption
         rw [decide_eq_false (fun g : GdP k fr => e g.1), decide_eq_false e]; done)
      | (have e : 1 ≤ k ∧ k ≤ 6 := by assumption
         rw [decide_eq_true e]; congr 3; exact decide_eq_decide.mpr ⟨fun g => ⟨e, g⟩, fun g => g.2⟩)
  (try simp only [Decidable.not_not] at h1)
  refine code_skip ?_
  refine hK2 _ ?_; clear hK2 K2
  refine code_seq (fun K5 hK5 => ?_)
  refine code_region ?_
  refine list_cons rfl (op_q (q_move rfl (by decide)) ?_)
  refine list_cons rfl (op_q (q_move rfl (by decide)) ?_)
  refine list_cons rfl (op_call _ (spec_l8Frame k fr (by assumption) hf) rfl rfl (by decide) (by decide) (by decide) rfl ?_)
  rintro _ rfl
  refine list_cons rfl (op_q (q_assign rfl (by decide)) ?_)
  refine list_cons rfl (op_q (q_assign rfl (by decide)) ?_)
  refine list_nil ?_
  refine hK5 _ ?_; clear hK5 K5
  refine codeT.imp (σ' := [(0, _), (1, _), (4, _), (5, _)]) ?_ (imp_covers ⟨rfl, rfl, rfl, rfl, trivial⟩)
  refine code_ret ?_
  refine ends_ret (cs := []) rfl rfl rfl rfl trivial ?_
  first
    | (have e : ¬ (1 ≤ k ∧ k ≤ 6) := by assumption
       rw [decide_eq_false (fun g : GdP k fr => e g.1), decide_eq_false e]; done)
    | (have e : 1 ≤ k ∧ k ≤ 6 := by assumption
       rw [decide_eq_true e]; congr 3; exact decide_eq_decide.mpr ⟨fun g => ⟨e, g⟩, fun g => g.2⟩)
set_option maxRecDepth 8000 in
set_option maxHeartbeats 2000000 in
theorem spec_l8Seen (k : Int) (fr : List (Int × Int)) (hg : GdP k fr) : PCalls Try.prog 45 [.int .i64 k, .sl fr.length (fl fr)] (· = [.own 0 3 1 (sen fr k.toNat).length ((sen fr k.toNat).map (.int .i64))]) := by
  refine pcalls_of_code (n := 44) az Try.func45 (by kernel_rfl) rfl rfl (Nat.le_of_ble_eq_true rfl) (by intro t u h; simp [Try.f45] at h) ?_
  have hk := hg.1
  have hF := hg.2
  have h12 := hF.1
  have hfl := fl_len fr
  refine code_seq (fun K1 hK1 => ?_)
  refine code_region ?_
  refine list_cons rfl (op_q (q_assign rfl (by decide)) ?_)
  refine list_nil ?_
  refine hK1 _ ?_; clear hK1 K1
  refine code_seq (fun K2 hK2 => ?_)
  refine code_region ?_
  refine list_cons rfl (op_q (q_move rfl (by decide)) ?_)
  refine list_cons rfl (op_makeI sl_27 rfl rfl (by omega) (by omega) (by decide) (by decide) rfl ?_)
  refine list_cons rfl (op_q (q_assign rfl (by decide)) ?_)
  refine list_nil ?_
  refine hK2 _ ?_; clear hK2 K2
  refine code_seq (fun K3 hK3 => ?_)
  refine code_seq (fun K4 hK4 => ?_)
  refine code_region ?_
  refine list_cons rfl (op_q (q_assign rfl (by decide)) ?_)
  refine list_nil ?_
  refine hK4 _ ?_; clear hK4 K4
  refine code_block ?_
  refine code_loop (X := PV × Nat × List PV × Int) (fun x => [(0, .val (.int .i64 k)), (1, .par 1 (.sl fr.length (fl fr))), (4, .val x.1), (5, .own 9 3 1 x.2.1 x.2.2.1), (6, .val (.int .i64 x.2.2.2))]) (fun x => 0 ≤ x.2.2.2 ∧ x.2.2.2 ≤ fr.length ∧ x.2.1 = k.toNat ∧ x.2.2.1 = (senK fr k.toNat x.2.2.2.toNat 0).map (.int .i64)) (fun x => (fr.length - x.2.2.2).toNat) (_, _, _, _) (imp_covers ⟨rfl, rfl, rfl, rfl, rfl, trivial⟩) ?_ ?_
  · (try dsimp only)
    exact ⟨by omega, by omega, by first | rfl | omega, (zeros_map1 (PV.int .i64) 0 k.toNat).trans (congrArg (List.map _) (senK_zero fr k.toNat))⟩
  · intro x hI
    obtain ⟨t4_p, out_n, out_c, i⟩ := x
    replace hI : 0 ≤ i ∧ i ≤ fr.length ∧ out_n = k.toNat ∧ out_c = (senK fr k.toNat i.toNat 0).map (.int .i64) := hI
    show codeT _ _ _ [(0, .val (.int .i64 k)), (1, .par 1 (.sl fr.length (fl fr))), (4, .val t4_p), (5, .own 9 3 1 out_n out_c), (6, .val (.int .i64 i))] _
    obtain ⟨i1, i2, rfl, rfl⟩ := hI
    refine code_seq (fun K5 hK5 => ?_)
    refine code_seq (fun K6 hK6 => ?_)
    refine code_region ?_
    refine list_cons rfl (op_q (q_move rfl (by decide)) ?_)
    refine list_cons rfl (op_q (q_move rfl (by decide)) ?_)
    refine list_cons rfl (op_q (q_len_sl Try.underlying24 rfl rfl (by decide)) ?_)
    refine list_cons rfl (op_q (q_lt rfl rfl (by decide)) ?_)
    refine list_nil ?_
    refine hK6 _ ?_; clear hK6 K6
    refine code_cond_d rfl (fun h1 => ?_) (fun h1 => ?_)
    · skip
      (try simp only [Decidable.not_not] at h1)
      refine code_skip ?_
      refine hK5 _ ?_; clear hK5 K5
      refine code_seq (fun K7 hK7 => ?_)
      refine code_block ?_
      refine code_seq (fun K8 hK8 => ?_)
      refine code_region ?_
      refine list_cons rfl (op_q (q_assign rfl (by decide)) ?_)
      refine list_nil ?_
      refine hK8 _ ?_; clear hK8 K8
      refine code_block ?_
      refine code_loop (X := PV × Nat × List PV × Int) (fun x => [(0, .val (.int .i64 k)), (1, .par 1 (.sl fr.length (fl fr))), (4, .val x.1), (5, .own 9 3 1 x.2.1 x.2.2.1), (6, .val (.int .i64 i)), (7, .val (.int .i64 x.2.2.2))]) (fun x => 0 ≤ x.2.2.2 ∧ x.2.2.2 ≤ k ∧ x.2.1 = k.toNat ∧ x.2.2.1 = (senK fr k.toNat i.toNat x.2.2.2.toNat).map (.int .i64)) (fun x => (k - x.2.2.2).toNat) (_, _, _, _) (imp_covers ⟨rfl, rfl, rfl, rfl, rfl, rfl, trivial⟩) ?_ ?_
      · (try dsimp only)
        exact ⟨by omega, by omega, rfl, rfl⟩
      · intro x hI
        obtain ⟨t4_p, out_n, out_c, x_⟩ := x
        replace hI : 0 ≤ x_ ∧ x_ ≤ k ∧ out_n = k.toNat ∧ out_c = (senK fr k.toNat i.toNat x_.toNat).map (.int .i64) := hI
        show codeT _ _ _ [(0, .val (.int .i64 k)), (1, .par 1 (.sl fr.length (fl fr))), (4, .val t4_p), (5, .own 9 3 1 out_n out_c), (6, .val (.int .i64 i)), (7, .val (.int .i64 x_))] _
        obtain ⟨j1, j2, rfl, rfl⟩ := hI
        have hb := hF.bd hk.2 (j := i.toNat) (by omega)
        have ho := orN_le hF hk.2 x_.toNat i.toNat (by omega)
        have ha := fun h : x_ < k => senK_at (fr := fr) (k := k.toNat) (i := i.toNat) (m := x_.toNat) (x := x_.toNat) (by omega)
        refine code_seq (fun K9 hK9 => ?_)
        refine code_seq (fun K10 hK10 => ?_)
        refine code_region ?_
        refine list_cons rfl (op_q (q_move rfl (by decide)) ?_)
        refine list_cons rfl (op_q (q_move rfl (by decide)) ?_)
        refine list_cons rfl (op_q (q_lt rfl rfl (by decide)) ?_)
        refine list_nil ?_
        refine hK10 _ ?_; clear hK10 K10
        refine code_cond_d rfl (fun h2 => ?_) (fun h2 => ?_)
        · skip
          (try simp only [Decidable.not_not] at h2)
          refine code_skip ?_
          refine hK9 _ ?_; clear hK9 K9
          refine code_seq (fun K11 hK11 => ?_)
          refine code_block ?_
          refine code_seq (fun K12 hK12 => ?_)
          refine code_region ?_
          refine list_cons rfl (op_q (q_move rfl (by decide)) ?_)
          refine list_cons rfl (op_q (q_move rfl (by decide)) ?_)
          refine list_cons rfl (op_q (q_indexAddr_rd sl_24 rfl (.inl ⟨_, rfl, rfl⟩) rfl (by omega) (by omega) (by decide)) ?_)
          refine list_cons rfl (op_q (q_fieldAddr fi_62_0 rfl rfl (by decide)) ?_)
          refine list_cons rfl (op_q (q_load_rd one_3 rfl (.inl ⟨_, (by first | rfl | exact congrArg (SV.rpar _) (fl_dp0 fr i.toNat (by omega)) | exact congrArg (SV.rpar _) (fl_dp2 (fs := fr) (k := i.toNat) (by omega)) | exact get_map1 (PV.int .i64) 0 (senK fr k.toNat i.toNat x_.toNat) (by rw [senK_len]; omega)), rfl⟩) (by decide)) ?_)
          refine list_cons rfl (op_q (q_move rfl (by decide)) ?_)
          refine list_cons rfl (op_q (by first | exact q_shrN rfl rfl (by decide) (by omega) (by omega) (by omega) | exact q_shrI rfl rfl (by decide) (by omega) (by omega) (by omega) | exact q_shr rfl rfl (by omega) (by decide)) ?_)
          refine list_cons rfl (op_q (by first | exact q_andI rfl rfl (by decide) (by omega) (by omega) (by omega) (by omega) | exact q_ib rfl rfl rfl (by decide)) ?_)
          refine list_cons rfl (op_q (q_eq rfl rfl (by decide)) ?_)
          refine list_nil ?_
          refine hK12 _ ?_; clear hK12 K12
          refine codeT.imp (σ' := [(0, _), (1, _), (4, _), (5, _), (6, _), (7, _), (29, _)]) ?_ (imp_covers ⟨rfl, rfl, rfl, rfl, rfl, rfl, rfl, trivial⟩)
          refine code_cond_d rfl (fun h3 => ?_) (fun h3 => ?_)
          · skip
            (try simp only [Decidable.not_not] at h3)
            refine any_start fun ob1_0 => ?_
            refine any_op (rd := [5]) ob1_0 rfl rfl rfl (anyT_quiet [(5, _)] ⟨rfl, trivial⟩ rfl (q_move rfl (by decide))) (fun ob1_1 => ?_)
            simp only [List.cons_append, List.nil_append] at ob1_1
            refine any_op (rd := [7]) ob1_1 rfl rfl rfl (anyT_quiet [(7, _)] ⟨rfl, trivial⟩ rfl (q_move rfl (by decide))) (fun ob1_2 => ?_)
            simp only [List.cons_append, List.nil_append] at ob1_2
            refine any_op (rd := [5]) ob1_2 rfl rfl rfl (anyT_quiet [(5, _)] ⟨rfl, trivial⟩ rfl (q_move rfl (by decide))) (fun ob1_3 => ?_)
            simp only [List.cons_append, List.nil_append] at ob1_3
            refine any_op (rd := [7]) ob1_3 rfl rfl rfl (anyT_quiet [(7, _)] ⟨rfl, trivial⟩ rfl (q_move rfl (by decide))) (fun ob1_4 => ?_)
            simp only [List.cons_append, List.nil_append] at ob1_4
            refine any_op (rd := [32, 33]) ob1_4 rfl rfl rfl (anyT_quiet [(32, _), (33, _)] ⟨rfl, rfl, trivial⟩ rfl (q_indexAddr_own sl_27 rfl rfl (by omega) (by omega) (by decide))) (fun ob1_5 => ?_)
            simp only [List.cons_append, List.nil_append] at ob1_5
            refine any_op (rd := [34, 5]) ob1_5 rfl rfl rfl (anyT_quiet [(34, _), (5, _)] ⟨rfl, rfl, trivial⟩ rfl (q_load one_3 5 rfl rfl rfl (by first | rfl | exact congrArg (SV.rpar _) (fl_dp0 fr i.toNat (by omega)) | exact congrArg (SV.rpar _) (fl_dp2 (fs := fr) (k := i.toNat) (by omega)) | exact get_map1 (PV.int .i64) 0 (senK fr k.toNat i.toNat x_.toNat) (by rw [senK_len]; omega)) (by decide))) (fun ob1_6 => ?_)
            simp only [List.cons_append, List.nil_append] at ob1_6
            refine any_op (rd := [1]) ob1_6 rfl rfl rfl (anyT_quiet [(1, _)] ⟨rfl, trivial⟩ rfl (q_move rfl (by decide))) (fun ob1_7 => ?_)
            simp only [List.cons_append, List.nil_append] at ob1_7
            refine any_op (rd := [6]) ob1_7 rfl rfl rfl (anyT_quiet [(6, _)] ⟨rfl, trivial⟩ rfl (q_move rfl (by decide))) (fun ob1_8 => ?_)
            simp only [List.cons_append, List.nil_append] at ob1_8
            refine any_op (rd := [36, 37]) ob1_8 rfl rfl rfl (anyT_quiet [(36, _), (37, _)] ⟨rfl, rfl, trivial⟩ rfl (q_indexAddr_rd sl_24 rfl (.inl ⟨_, rfl, rfl⟩) rfl (by omega) (by omega) (by decide))) (fun ob1_9 => ?_)
            simp only [List.cons_append, List.nil_append] at ob1_9
            refine any_op (rd := [38]) ob1_9 rfl rfl rfl (anyT_quiet [(38, _)] ⟨rfl, trivial⟩ rfl (q_fieldAddr fi_62_1 rfl rfl (by decide))) (fun ob1_10 => ?_)
            simp only [List.cons_append, List.nil_append] at ob1_10
            refine any_op (rd := [39]) ob1_10 rfl rfl rfl (anyT_quiet [(39, _)] ⟨rfl, trivial⟩ rfl (q_load_rd one_3 rfl (.inl ⟨_, (by first | rfl | exact congrArg (SV.rpar _) (fl_dp0 fr i.toNat (by omega)) | exact congrArg (SV.rpar _) (fl_dp2 (fs := fr) (k := i.toNat) (by omega)) | exact get_map1 (PV.int .i64) 0 (senK fr k.toNat i.toNat x_.toNat) (by rw [senK_len]; omega)), rfl⟩) (by decide))) (fun ob1_11 => ?_)
            simp only [List.cons_append, List.nil_append] at ob1_11
            refine any_op (rd := [35, 40]) ob1_11 rfl rfl rfl (anyT_quiet [(35, _), (40, _)] ⟨rfl, rfl, trivial⟩ rfl (by first | exact q_orI rfl rfl (by decide) (by omega) (by omega) (by omega) (by omega) | exact q_ib rfl rfl rfl (by decide))) (fun ob1_12 => ?_)
            simp only [List.cons_append, List.nil_append] at ob1_12
            refine any_end [[], [], [], [], [2, 3], [2, 3, 4], [], [], [6, 7], [6, 7, 8], [6, 7, 8, 9], [2, 3, 4, 5, 6, 7, 8, 9, 10], [0, 1, 2, 3, 4, 5, 6, 7, 8, 9, 10, 11], [0, 1, 2, 3, 4, 5, 6, 7, 8, 9, 10, 11, 12]] ob1_12 (by kernel_rfl) (Nat.le_of_ble_eq_true rfl) (by decide) (by decide) (by kernel_rfl) (by kernel_rfl) (by kernel_rfl) (by kernel_rfl) (by kernel_rfl) ?_
            clear ob1_0 ob1_1 ob1_2 ob1_3 ob1_4 ob1_5 ob1_6 ob1_7 ob1_8 ob1_9 ob1_10 ob1_11 ob1_12
            refine listT.imp (σ' := [(0, _), (1, _), (4, _), (5, _), (6, _), (7, _), (29, _), (30, _), (31, _), (32, _), (33, _), (34, _), (35, _), (36, _), (37, _), (38, _), (39, _), (40, _), (41, _)]) ?_ (imp_covers ⟨rfl, rfl, rfl, rfl, rfl, rfl, rfl, rfl, rfl, rfl, rfl, rfl, rfl, rfl, rfl, rfl, rfl, rfl, rfl, trivial⟩)
            refine list_cons rfl (op_q (q_indexAddr_own sl_27 rfl rfl (by omega) (by omega) (by decide)) ?_)
            refine list_cons rfl (op_store (one_3).2 5 [5, 30, 32] (by intro t ht; simp only [List.mem_cons, List.not_mem_nil, or_false] at ht; rcases ht with rfl | rfl | rfl <;> rfl) (.inl rfl) rfl rfl rfl rfl rfl rfl (by rw [List.length_map, senK_len]; simp; omega) (by decide) rfl ?_)
            refine list_nil ?_
            refine blk_n ?_
            refine hK11 _ ?_; clear hK11 K11
            refine codeT.imp (σ' := [(0, _), (1, _), (4, _), (5, _), (6, _), (7, _)]) ?_ (imp_covers ⟨rfl, rfl, rfl, rfl, rfl, rfl, trivial⟩)
            refine code_region ?_
            refine list_cons rfl (op_q (q_move rfl (by decide)) ?_)
            refine list_cons rfl (op_q (by first | exact q_addI rfl rfl (by decide) (by omega) (by omega) | exact q_ib rfl rfl rfl (by decide)) ?_)
            refine list_cons rfl (op_q (q_assign rfl (by decide)) ?_)
            refine list_nil ?_
            refine then_n ⟨(_, _, _, _), imp_covers ⟨rfl, rfl, rfl, rfl, rfl, rfl, trivial⟩, ?_, ?_⟩
            · (try dsimp only)
              first
                | exact ⟨by omega, by omega, rfl, by rw [show (x_ + 1).toNat = x_.toNat + 1 by omega, ← senK_no (show ¬ bt (fr.getD i.toNat (0, 0)).1 x_.toNat by assumption)]⟩
                | exact ⟨by omega, by omega, rfl, by rw [show (x_ + 1).toNat = x_.toNat + 1 by omega]; exact senK_yes (by omega) rfl (show bt (fr.getD i.toNat (0, 0)).1 x_.toNat by assumption) (by rw [ha (by assumption), if_neg (Nat.lt_irrefl _)]; exact ior_cast (by omega) hb.2.1 (by omega))⟩
            · (try dsimp only); omega
          (try simp only [Decidable.not_not] at h3)
          refine code_skip ?_
          refine blk_n ?_
          refine hK11 _ ?_; clear hK11 K11
          refine code_region ?_
          refine list_cons rfl (op_q (q_move rfl (by decide)) ?_)
          refine list_cons rfl (op_q (by first | exact q_addI rfl rfl (by decide) (by omega) (by omega) | exact q_ib rfl rfl rfl (by decide)) ?_)
          refine list_cons rfl (op_q (q_assign rfl (by decide)) ?_)
          refine list_nil ?_
          refine then_n ⟨(_, _, _, _), imp_covers ⟨rfl, rfl, rfl, rfl, rfl, rfl, trivial⟩, ?_, ?_⟩
          · (try dsimp only)
            first
              | exact ⟨by omega, by omega, rfl, by rw [show (x_ + 1).toNat = x_.toNat + 1 by omega, ← senK_no (show ¬ bt (fr.getD i.toNat (0, 0)).1 x_.toNat by assumption)]⟩
              | exact ⟨by omega, by omega, rfl, by rw [show (x_ + 1).toNat = x_.toNat + 1 by omega]; exact senK_yes (by omega) rfl (show bt (fr.getD i.toNat (0, 0)).1 x_.toNat by assumption) (by rw [ha (by assumption), if_neg (Nat.lt_irrefl _)]; exact ior_cast (by omega) hb.2.1 (by omega))⟩
          · (try dsimp only); omega
        (try simp only [Decidable.not_not] at h2)
        refine code_exit ?_
        refine then_x ?_; clear hK9 K9
        refine then_x ?_
        refine blk_hit ?_
        refine blk_n ?_
        refine hK7 _ ?_; clear hK7 K7
        refine code_region ?_
        refine list_cons rfl (op_q (q_move rfl (by decide)) ?_)
        refine list_cons rfl (op_q (by first | exact q_addI rfl rfl (by decide) (by omega) (by omega) | exact q_ib rfl rfl rfl (by decide)) ?_)
        refine list_cons rfl (op_q (q_assign rfl (by decide)) ?_)
        refine list_nil ?_
        refine then_n ⟨(_, _, _, _), imp_covers ⟨rfl, rfl, rfl, rfl, rfl, trivial⟩, ?_, ?_⟩
        · (try dsimp only)
          exact ⟨by omega, by omega, rfl, by rw [show x_.toNat = k.toNat by omega, senK_next, show (i + 1).toNat = i.toNat + 1 by omega]⟩
        · (try dsimp only); omega
    (try simp only [Decidable.not_not] at h1)
    refine code_exit ?_
    refine then_x ?_; clear hK5 K5
    refine then_x ?_
    refine blk_hit ?_
    refine hK3 _ ?_; clear hK3 K3
    refine code_seq (fun K13 hK13 => ?_)
    refine code_region ?_
    refine list_cons rfl (op_q (q_move rfl (by decide)) ?_)
    refine list_cons rfl (op_q (q_assign rfl (by decide)) ?_)
    refine list_nil ?_
    refine hK13 _ ?_; clear hK13 K13
    refine code_ret ?_
    refine ends_ret (cs := []) rfl rfl rfl rfl trivial ?_
    (rw [show i.toNat = fr.length by omega]; show [SV.own _ _ _ k.toNat (List.map _ (sen fr k.toNat))] = _; rw [show (sen fr k.toNat).length = k.toNat from senK_len _ _ _ _])
set_option maxRecDepth 4000 in
theorem spec_SeenOf (k : Int) (fr : List (Int × Int)) (hf : fr.length ≤ 1048576) : PCalls Try.prog 8 [.int .i64 k, .sl fr.length (fl fr)] (· = [.own 0 3 1 (if GdP k fr then sen fr k.toNat else []).length ((if GdP k fr then sen fr k.toNat else []).map (.int .i64)), .val (.bool (decide (GdP k fr)))]) := by
  refine pcalls_of_code (n := 14) az Try.func8 (by kernel_rfl) rfl rfl (Nat.le_of_ble_eq_true rfl) (by intro t u h; simp [Try.f8] at h) ?_
  refine code_seq (fun K1 hK1 => ?_)
  refine code_region ?_
  refine list_cons rfl (op_q (q_assign rfl (by decide)) ?_)
  refine list_cons rfl (op_q (q_assign rfl (by decide)) ?_)
  refine list_nil ?_
  refine hK1 _ ?_; clear hK1 K1
  refine code_seq (fun K2 hK2 => ?_)
  refine code_seq (fun K3 hK3 => ?_)
  refine code_region ?_
  refine list_cons rfl (op_q (q_move rfl (by decide)) ?_)
  refine list_cons rfl (op_q (q_move rfl (by decide)) ?_)
  refine list_cons rfl (op_call _ (spec_l8Good _ _ (by first | omega | (simp; omega))) rfl rfl (by decide) (by decide) (by decide) rfl ?_)
  rintro _ rfl
  refine list_cons rfl (op_q (by first | exact q_notd rfl (by decide) | exact q_not rfl (by decide)) ?_)
  refine list_nil ?_
  refine hK3 _ ?_; clear hK3 K3
  refine codeT.imp (σ' := [(0, _), (1, _), (4, _), (5, _), (9, _)]) ?_ (imp_covers ⟨rfl, rfl, rfl, rfl, rfl, trivial⟩)
  refine code_cond_d rfl (fun h1 => ?_) (fun h1 => ?_)
  · skip
    (try simp only [Decidable.not_not] at h1)
    refine code_seq (fun K4 hK4 => ?_)
    refine code_region ?_
    refine list_cons rfl (op_buildSlice sl_27 (parts := []) rfl rfl rfl (by decide) (by decide) (by decide) rfl ?_)
    refine list_cons rfl (op_q (q_assign rfl (by decide)) ?_)
    refine list_cons rfl (op_q (q_assign rfl (by decide)) ?_)
    refine list_nil ?_
    refine hK4 _ ?_; clear hK4 K4
    refine code_ret ?_
    refine then_r ?_; clear hK2 K2
    refine ends_ret (cs := []) rfl rfl rfl rfl trivial ?_
    first | (simp only [if_neg h1, decide_eq_false h1]; rfl) | (simp only [if_pos h1, decide_eq_true h1]; done)
  (try simp only [Decidable.not_not] at h1)
  refine code_skip ?_
  refine hK2 _ ?_; clear hK2 K2
  refine code_seq (fun K5 hK5 => ?_)
  refine code_region ?_
  refine list_cons rfl (op_q (q_move rfl (by decide)) ?_)
  refine list_cons rfl (op_q (q_move rfl (by decide)) ?_)
  refine list_cons rfl (op_call _ (spec_l8Seen k fr h1) rfl rfl (by decide) (by decide) (by decide) rfl ?_)
  rintro _ rfl
  refine list_cons rfl (op_q (q_assign rfl (by decide)) ?_)
  refine list_cons rfl (op_q (q_assign rfl (by decide)) ?_)
  refine list_nil ?_
  refine hK5 _ ?_; clear hK5 K5
  refine codeT.imp (σ' := [(0, _), (1, _), (4, _), (5, _)]) ?_ (imp_covers ⟨rfl, rfl, rfl, rfl, trivial⟩)
  refine code_ret ?_
  refine ends_ret (cs := []) rfl rfl rfl rfl trivial ?_
  first | (simp only [if_neg h1, decide_eq_false h1]; rfl) | (simp only [if_pos h1, decide_eq_true h1]; done)
set_option maxRecDepth 8000 in
set_option maxHeartbeats 2000000 in
theorem spec_PlainFrame (l : List Int) (hl : l.length ≤ 1048576) : PCalls Try.prog 22 [.sl l.length (l.map (.int .i64))] (· = [.own 0 62 2 (if PlnP l then plnK l l.length else []).length (fl (if PlnP l then plnK l l.length else [])), .val (.bool (decide (PlnP l)))]) := by
  refine pcalls_of_code (n := 38) az Try.func22 (by kernel_rfl) rfl rfl (Nat.le_of_ble_eq_true rfl) (by intro t u h; simp [Try.f22] at h) ?_
  refine code_seq (fun K1 hK1 => ?_)
  refine code_region ?_
  refine list_cons rfl (op_q (q_assign rfl (by decide)) ?_)
  refine list_cons rfl (op_q (q_assign rfl (by decide)) ?_)
  refine list_nil ?_
  refine hK1 _ ?_; clear hK1 K1
  refine code_seq (fun K2 hK2 => ?_)
  refine code_region ?_
  refine list_cons rfl (op_buildSlice sl_24 (parts := []) rfl rfl rfl (by decide) (by decide) (by decide) rfl ?_)
  refine list_cons rfl (op_q (q_assign rfl (by decide)) ?_)
  refine list_nil ?_
  refine hK2 _ ?_; clear hK2 K2
  refine code_seq (fun K3 hK3 => ?_)
  refine code_seq (fun K4 hK4 => ?_)
  refine code_region ?_
  refine list_cons rfl (op_q (q_move rfl (by decide)) ?_)
  refine list_cons rfl (op_call _ (spec_l2Row _ (by first | omega | (simp; omega))) rfl rfl (by decide) (by decide) (by decide) rfl ?_)
  rintro _ rfl
  refine list_cons rfl (op_q (by first | exact q_notd rfl (by decide) | exact q_not rfl (by decide)) ?_)
  refine list_cons rfl (op_q (q_move rfl (by decide)) ?_)
  refine list_guard_d rfl rfl rfl rfl (by decide) rfl (by decide) (fun h1 => ?_) (fun h1 => ?_)
  · simp only [Bool.false_eq_true, if_true, if_false, Decidable.not_not] at h1
    (try simp only [Decidable.not_not] at h1)
    refine id (op_q (q_move rfl (by decide)) ?_)
    refine list_guard_y rfl rfl rfl rfl (by decide) rfl ?_
    refine id (op_q (q_len_sl Try.underlying27 rfl rfl (by decide)) ?_)
    refine list_guard_y rfl rfl rfl rfl (by decide) rfl ?_
    refine id (op_q (q_eq rfl rfl (by decide)) ?_)
    refine list_cons rfl (op_q (q_pick rfl rfl (by decide)) ?_)
    refine list_nil ?_
    refine hK4 _ ?_; clear hK4 K4
    refine codeT.imp (σ' := [(0, _), (2, _), (3, _), (4, _), (14, _)]) ?_ (imp_covers ⟨rfl, rfl, rfl, rfl, rfl, trivial⟩)
    refine code_cond_d rfl (fun h2 => ?_) (fun h2 => ?_)
    · skip
      (try simp only [Decidable.not_not] at h2)
      refine code_seq (fun K5 hK5 => ?_)
      refine code_region ?_
      refine list_cons rfl (op_q (q_move rfl (by decide)) ?_)
      refine list_cons rfl (op_q (q_assign rfl (by decide)) ?_)
      refine list_cons rfl (op_q (q_assign rfl (by decide)) ?_)
      refine list_nil ?_
      refine hK5 _ ?_; clear hK5 K5
      refine code_ret ?_
      refine then_r ?_; clear hK3 K3
      refine ends_ret (cs := []) rfl rfl rfl rfl trivial ?_
      first
        | (rw [show i.toNat = l.length by omega] at hL
           subst hL
           simp only [if_pos hP, decide_eq_true hP]; done)
        | (have e : ¬ PlnP l := fun e => by have := e.2; first | exact absurd e.1 (by assumption) | omega
           simp only [if_neg e, decide_eq_false e]; rfl)
    (try simp only [Decidable.not_not] at h2)
    refine code_skip ?_
    refine hK3 _ ?_; clear hK3 K3
    refine code_seq (fun K6 hK6 => ?_)
    refine code_seq (fun K7 hK7 => ?_)
    refine code_region ?_
    refine list_cons rfl (op_q (q_assign rfl (by decide)) ?_)
    refine list_nil ?_
    refine hK7 _ ?_; clear hK7 K7
    refine code_block ?_
    refine code_loop (X := PV × Bool × Nat × List PV × Int) (fun x => [(0, .par 0 (.sl l.length (l.map (.int .i64)))), (2, .val x.1), (3, .val (.bool x.2.1)), (4, .own 6 62 2 x.2.2.1 x.2.2.2.1), (5, .val (.int .i64 x.2.2.2.2))]) (fun x => PlnP l ∧ 0 ≤ x.2.2.2.2 ∧ x.2.2.2.2 ≤ l.length ∧ ∃ L : List (Int × Int), x.2.2.1 = L.length ∧ x.2.2.2.1 = fl L ∧ L = plnK l x.2.2.2.2.toNat) (fun x => (l.length - x.2.2.2.2).toNat) (_, _, _, _, _) (imp_covers ⟨rfl, rfl, rfl, rfl, rfl, trivial⟩) ?_ ?_
    · (try dsimp only)
      exact ⟨⟨by assumption, by omega⟩, by omega, by omega, [], rfl, rfl, rfl⟩
    · intro x hI
      obtain ⟨t2_p, t3, out_n, out_c, i⟩ := x
      replace hI : PlnP l ∧ 0 ≤ i ∧ i ≤ l.length ∧ ∃ L : List (Int × Int), out_n = L.length ∧ out_c = fl L ∧ L = plnK l i.toNat := hI
      show codeT _ _ _ [(0, .par 0 (.sl l.length (l.map (.int .i64)))), (2, .val t2_p), (3, .val (.bool t3)), (4, .own 6 62 2 out_n out_c), (5, .val (.int .i64 i))] _
      obtain ⟨hP, i1, i2, L, rfl, rfl, hL⟩ := hI
      have h6 := hP.1.1
      have hLl : L.length ≤ 6 := by have := plnK_len l i.toNat; rw [← hL] at this; omega
      refine code_seq (fun K8 hK8 => ?_)
      refine code_seq (fun K9 hK9 => ?_)
      refine code_region ?_
      refine list_cons rfl (op_q (q_move rfl (by decide)) ?_)
      refine list_cons rfl (op_q (q_move rfl (by decide)) ?_)
      refine list_cons rfl (op_q (q_len_sl Try.underlying27 rfl rfl (by decide)) ?_)
      refine list_cons rfl (op_q (q_lt rfl rfl (by decide)) ?_)
      refine list_nil ?_
      refine hK9 _ ?_; clear hK9 K9
      refine code_cond_d rfl (fun h3 => ?_) (fun h3 => ?_)
      · skip
        (try simp only [Decidable.not_not] at h3)
        refine code_skip ?_
        refine hK8 _ ?_; clear hK8 K8
        refine code_seq (fun K10 hK10 => ?_)
        refine code_block ?_
        refine code_seq (fun K11 hK11 => ?_)
        refine code_region ?_
        refine list_cons rfl (op_q (q_move rfl (by decide)) ?_)
        refine list_cons rfl (op_q (q_move rfl (by decide)) ?_)
        refine list_cons rfl (op_q (q_indexAddr_rd sl_27 rfl (.inl ⟨_, rfl, rfl⟩) rfl (by omega) (by omega) (by decide)) ?_)
        refine list_cons rfl (op_q (q_load_rd one_3 rfl (.inl ⟨_, (by first | rfl | exact congrArg (SV.rpar _) (drop_map1 _ 0 _ (by first | omega | (simp; omega)))), rfl⟩) (by decide)) ?_)
        refine list_cons rfl (op_q (q_ne rfl rfl (by decide)) ?_)
        refine list_nil ?_
        refine hK11 _ ?_; clear hK11 K11
        refine codeT.imp (σ' := [(0, _), (2, _), (3, _), (4, _), (5, _), (26, _)]) ?_ (imp_covers ⟨rfl, rfl, rfl, rfl, rfl, rfl, trivial⟩)
        refine code_cond_d rfl (fun h4 => ?_) (fun h4 => ?_)
        · skip
          (try simp only [Decidable.not_not] at h4)
          refine any_start fun ob2_0 => ?_
          refine any_op (rd := [4]) ob2_0 rfl rfl rfl (anyT_quiet [(4, _)] ⟨rfl, trivial⟩ rfl (q_move rfl (by decide))) (fun ob2_1 => ?_)
          refine any_op (rd := [5]) ob2_1 rfl rfl rfl (anyT_quiet [(5, _)] ⟨rfl, trivial⟩ rfl (q_move rfl (by decide))) (fun ob2_2 => ?_)
          refine any_op (rd := [28]) ob2_2 rfl rfl rfl (anyT_quiet [(28, _)] ⟨rfl, trivial⟩ rfl (by first | exact q_shl1 rfl rfl (by decide) (by omega) (by omega) | exact q_shlI rfl rfl (by decide) (by omega) (by omega) (by omega) | exact q_shl rfl rfl (by omega) (by decide))) (fun ob2_3 => ?_)
          refine any_op (rd := [0]) ob2_3 rfl rfl rfl (anyT_quiet [(0, _)] ⟨rfl, trivial⟩ rfl (q_move rfl (by decide))) (fun ob2_4 => ?_)
          refine any_op (rd := [5]) ob2_4 rfl rfl rfl (anyT_quiet [(5, _)] ⟨rfl, trivial⟩ rfl (q_move rfl (by decide))) (fun ob2_5 => ?_)
          refine any_op (rd := [30, 31]) ob2_5 rfl rfl rfl (anyT_quiet [(30, _), (31, _)] ⟨rfl, rfl, trivial⟩ rfl (q_indexAddr_rd sl_27 rfl (.inl ⟨_, rfl, rfl⟩) rfl (by omega) (by omega) (by decide))) (fun ob2_6 => ?_)
          refine any_op (rd := [32]) ob2_6 rfl rfl rfl (anyT_quiet [(32, _)] ⟨rfl, trivial⟩ rfl (q_load_rd one_3 rfl (.inl ⟨_, (by first | rfl | exact congrArg (SV.rpar _) (drop_map1 _ 0 _ (by first | omega | (simp; omega)))), rfl⟩) (by decide))) (fun ob2_7 => ?_)
          refine any_op (rd := [29, 33]) ob2_7 rfl rfl rfl (anyT_quiet [(29, _), (33, _)] ⟨rfl, rfl, trivial⟩ rfl (q_build bt_62 (parts := [(0, .tmp 29), (1, .tmp 33)]) rfl rfl (by decide))) (fun ob2_8 => ?_)
          refine any_op (rd := [34]) ob2_8 rfl rfl rfl (fun σ hag hfr => by have e34 : σ.at 34 = some _ := (hag 34 (by decide)).trans rfl; exact op_buildSlice sl_24 (parts := [(0, .tmp 34)]) (evp_cons (by first | rfl | assumption) rfl rfl evp_nil) rfl rfl (by decide) (by decide) (by decide) (fr1000 hfr (by decide)) rfl) (fun ob2_9 => ?_)
          refine any_end [[], [], [1], [], [], [3, 4], [3, 4, 5], [1, 2, 3, 4, 5, 6], [1, 2, 3, 4, 5, 6, 7], [0, 1, 2, 3, 4, 5, 6, 7, 8], [0, 1, 2, 3, 4, 5, 6, 7, 8, 9]] ob2_9 (by kernel_rfl) (Nat.le_of_ble_eq_true rfl) (by decide) (by decide) (by kernel_rfl) (by kernel_rfl) (by kernel_rfl) (by kernel_rfl) (by kernel_rfl) ?_
          clear ob2_0 ob2_1 ob2_2 ob2_3 ob2_4 ob2_5 ob2_6 ob2_7 ob2_8 ob2_9
          refine listT.imp (σ' := [(0, _), (2, _), (3, _), (4, _), (5, _), (26, _), (27, _), (28, _), (29, _), (30, _), (31, _), (32, _), (33, _), (34, _), (35, _)]) ?_ (imp_covers ⟨rfl, rfl, rfl, rfl, rfl, rfl, rfl, rfl, rfl, rfl, rfl, rfl, rfl, rfl, rfl, trivial⟩)
          refine list_cons rfl (op_append_gen sl_24 (l := 6) (.inl rfl) rfl rfl (l2 := none) (.inl ⟨rfl, (by first | rfl | exact flat_map _ (fun _ => rfl) _)⟩) (by first | rfl | (simp [PV.cells, putAt, zeros]; done)) (by omega) (by decide) (by decide) (by decide) ?_)
          refine list_cons rfl (op_q (q_assign rfl (by decide)) ?_)
          refine list_nil ?_
          refine blk_n ?_
          refine hK10 _ ?_; clear hK10 K10
          refine codeT.imp (σ' := [(0, _), (2, _), (3, _), (4, _), (5, _)]) ?_ (imp_covers ⟨rfl, rfl, rfl, rfl, rfl, trivial⟩)
          refine code_region ?_
          refine list_cons rfl (op_q (q_move rfl (by decide)) ?_)
          refine list_cons rfl (op_q (by first | exact q_addI rfl rfl (by decide) (by omega) (by omega) | exact q_ib rfl rfl rfl (by decide)) ?_)
          refine list_cons rfl (op_q (q_assign rfl (by decide)) ?_)
          refine list_nil ?_
          refine then_n ⟨(_, _, _, _, _), imp_covers ⟨rfl, rfl, rfl, rfl, rfl, trivial⟩, ?_, ?_⟩
          · (try dsimp only)
            first
              | (have hz : l.getD i.toNat 0 ≠ 0 := (by assumption)
                 exact ⟨hP, by omega, by omega, L ++ [(((p2 i.toNat : Nat) : Int), l.getD i.toNat 0)], by simp, by simp [fl]; rfl, by rw [show (i + 1).toNat = i.toNat + 1 by omega, plnK, if_pos hz, hL]⟩)
              | exact ⟨hP, by omega, by omega, L, rfl, rfl, by rw [show (i + 1).toNat = i.toNat + 1 by omega, plnK, if_neg (by simpa using h4), hL]⟩
          · (try dsimp only); omega
        (try simp only [Decidable.not_not] at h4)
        refine code_skip ?_
        refine blk_n ?_
        refine hK10 _ ?_; clear hK10 K10
        refine code_region ?_
        refine list_cons rfl (op_q (q_move rfl (by decide)) ?_)
        refine list_cons rfl (op_q (by first | exact q_addI rfl rfl (by decide) (by omega) (by omega) | exact q_ib rfl rfl rfl (by decide)) ?_)
        refine list_cons rfl (op_q (q_assign rfl (by decide)) ?_)
        refine list_nil ?_
        refine then_n ⟨(_, _, _, _, _), imp_covers ⟨rfl, rfl, rfl, rfl, rfl, trivial⟩, ?_, ?_⟩
        · (try dsimp only)
          first
            | (have hz : l.getD i.toNat 0 ≠ 0 := (by assumption)
               exact ⟨hP, by omega, by omega, L ++ [(((p2 i.toNat : Nat) : Int), l.getD i.toNat 0)], by simp, by simp [fl]; rfl, by rw [show (i + 1).toNat = i.toNat + 1 by omega, plnK, if_pos hz, hL]⟩)
            | exact ⟨hP, by omega, by omega, L, rfl, rfl, by rw [show (i + 1).toNat = i.toNat + 1 by omega, plnK, if_neg (by simpa using h4), hL]⟩
        · (try dsimp only); omega
      (try simp only [Decidable.not_not] at h3)
      refine code_exit ?_
      refine then_x ?_; clear hK8 K8
      refine then_x ?_
      refine blk_hit ?_
      refine hK6 _ ?_; clear hK6 K6
      refine code_seq (fun K12 hK12 => ?_)
      refine code_region ?_
      refine list_cons rfl (op_q (q_move rfl (by decide)) ?_)
      refine list_cons rfl (op_q (q_assign rfl (by decide)) ?_)
      refine list_cons rfl (op_q (q_assign rfl (by decide)) ?_)
      refine list_nil ?_
      refine hK12 _ ?_; clear hK12 K12
      refine code_ret ?_
      refine ends_ret (cs := []) rfl rfl rfl rfl trivial ?_
      first
        | (rw [show i.toNat = l.length by omega] at hL
           subst hL
           simp only [if_pos hP, decide_eq_true hP]; done)
        | (have e : ¬ PlnP l := fun e => by have := e.2; first | exact absurd e.1 (by assumption) | omega
           simp only [if_neg e, decide_eq_false e]; rfl)
  simp only [Bool.false_eq_true, if_true, if_false, Decidable.not_not] at h1
  (try simp only [Decidable.not_not] at h1)
  refine list_guard_n rfl rfl rfl rfl (by decide) rfl ?_
  refine list_guard_n rfl rfl rfl rfl (by decide) rfl ?_
  refine list_cons rfl (op_q (q_pick rfl rfl (by decide)) ?_)
  refine list_nil ?_
  refine hK4 _ ?_; clear hK4 K4
  refine code_cond_t rfl ?_
  refine code_seq (fun K13 hK13 => ?_)
  refine code_region ?_
  refine list_cons rfl (op_q (q_move rfl (by decide)) ?_)
  refine list_cons rfl (op_q (q_assign rfl (by decide)) ?_)
  refine list_cons rfl (op_q (q_assign rfl (by decide)) ?_)
  refine list_nil ?_
  refine hK13 _ ?_; clear hK13 K13
  refine codeT.imp (σ' := [(0, _), (2, _), (3, _), (4, _)]) ?_ (imp_covers ⟨rfl, rfl, rfl, rfl, trivial⟩)
  refine code_ret ?_
  refine then_r ?_; clear hK3 K3
  refine ends_ret (cs := []) rfl rfl rfl rfl trivial ?_
  first
    | (rw [show i.toNat = l.length by omega] at hL
       subst hL
       simp only [if_pos hP, decide_eq_true hP]; done)
    | (have e : ¬ PlnP l := fun e => by have := e.2; first | exact absurd e.1 (by assumption) | omega
       simp only [if_neg e, decide_eq_false e]; rfl)
set_option maxRecDepth 8000 in
set_option maxHeartbeats 2000000 in
theorem spec_l8Full (l : List Int) (cells : Int) (hl : RowP l) (hc : 0 ≤ cells ∧ cells ≤ 63) : PCalls Try.prog 67 [.sl l.length (l.map (.int .i64)), .int .i64 cells] (· = [.val (.int .i64 (((fulN l cells l.length : Nat) : Int)))]) := by
  refine pcalls_of_code (n := 25) az Try.func67 (by kernel_rfl) rfl rfl (Nat.le_of_ble_eq_true rfl) (by intro t u h; simp [Try.f67] at h) ?_
  have h6 := hl.1
  refine code_seq (fun K1 hK1 => ?_)
  refine code_region ?_
  refine list_cons rfl (op_q (q_assign rfl (by decide)) ?_)
  refine list_nil ?_
  refine hK1 _ ?_; clear hK1 K1
  refine code_seq (fun K2 hK2 => ?_)
  refine code_region ?_
  refine list_cons rfl (op_q (q_assign rfl (by decide)) ?_)
  refine list_nil ?_
  refine hK2 _ ?_; clear hK2 K2
  refine code_seq (fun K3 hK3 => ?_)
  refine code_seq (fun K4 hK4 => ?_)
  refine code_region ?_
  refine list_cons rfl (op_q (q_assign rfl (by decide)) ?_)
  refine list_nil ?_
  refine hK4 _ ?_; clear hK4 K4
  refine code_block ?_
  refine code_loop (X := Int × Int × Int) (fun x => [(0, .par 0 (.sl l.length (l.map (.int .i64)))), (1, .val (.int .i64 cells)), (4, .val (.int .i64 x.1)), (5, .val (.int .i64 x.2.1)), (6, .val (.int .i64 x.2.2))]) (fun x => 0 ≤ x.2.2 ∧ x.2.2 ≤ l.length ∧ x.2.1 = ((fulN l cells x.2.2.toNat : Nat) : Int)) (fun x => (l.length - x.2.2).toNat) (_, _, _) (imp_covers ⟨rfl, rfl, rfl, rfl, rfl, trivial⟩) ?_ ?_
  · (try dsimp only)
    exact ⟨by omega, by omega, rfl⟩
  · intro x hI
    obtain ⟨t4, out, i⟩ := x
    replace hI : 0 ≤ i ∧ i ≤ l.length ∧ out = ((fulN l cells i.toNat : Nat) : Int) := hI
    show codeT _ _ _ [(0, .par 0 (.sl l.length (l.map (.int .i64)))), (1, .val (.int .i64 cells)), (4, .val (.int .i64 t4)), (5, .val (.int .i64 out)), (6, .val (.int .i64 i))] _
    obtain ⟨i1, i2, rfl⟩ := hI
    have ho := fulN_le l cells i.toNat
    have hg := fun h : i.toNat < l.length => hl.at h
    refine code_seq (fun K5 hK5 => ?_)
    refine code_seq (fun K6 hK6 => ?_)
    refine code_region ?_
    refine list_cons rfl (op_q (q_move rfl (by decide)) ?_)
    refine list_cons rfl (op_q (q_move rfl (by decide)) ?_)
    refine list_cons rfl (op_q (q_len_sl Try.underlying27 rfl rfl (by decide)) ?_)
    refine list_cons rfl (op_q (q_lt rfl rfl (by decide)) ?_)
    refine list_nil ?_
    refine hK6 _ ?_; clear hK6 K6
    refine code_cond_d rfl (fun h1 => ?_) (fun h1 => ?_)
    · skip
      (try simp only [Decidable.not_not] at h1)
      refine code_skip ?_
      refine hK5 _ ?_; clear hK5 K5
      refine code_seq (fun K7 hK7 => ?_)
      refine code_block ?_
      refine code_seq (fun K8 hK8 => ?_)
      refine code_region ?_
      refine list_cons rfl (op_q (q_move rfl (by decide)) ?_)
      refine list_cons rfl (op_q (q_move rfl (by decide)) ?_)
      refine list_cons rfl (op_q (by first | exact q_shrN rfl rfl (by decide) (by omega) (by omega) (by omega) | exact q_shrI rfl rfl (by decide) (by omega) (by omega) (by omega) | exact q_shr rfl rfl (by omega) (by decide)) ?_)
      refine list_cons rfl (op_q (by first | exact q_andI rfl rfl (by decide) (by omega) (by omega) (by omega) (by omega) | exact q_ib rfl rfl rfl (by decide)) ?_)
      refine list_cons rfl (op_q (q_eq rfl rfl (by decide)) ?_)
      refine list_nil ?_
      refine hK8 _ ?_; clear hK8 K8
      refine codeT.imp (σ' := [(0, _), (1, _), (4, _), (5, _), (6, _), (17, _)]) ?_ (imp_covers ⟨rfl, rfl, rfl, rfl, rfl, rfl, trivial⟩)
      refine code_cond_d rfl (fun h2 => ?_) (fun h2 => ?_)
      · skip
        (try simp only [Decidable.not_not] at h2)
        refine code_region ?_
        refine list_cons rfl (op_q (q_move rfl (by decide)) ?_)
        refine list_cons rfl (op_q (q_move rfl (by decide)) ?_)
        refine list_cons rfl (op_q (q_move rfl (by decide)) ?_)
        refine list_cons rfl (op_q (q_indexAddr_rd sl_27 rfl (.inl ⟨_, rfl, rfl⟩) rfl (by omega) (by omega) (by decide)) ?_)
        refine list_cons rfl (op_q (q_load_rd one_3 rfl (.inl ⟨_, (by first | rfl | exact congrArg (SV.rpar _) (drop_map1 _ 0 _ (by first | omega | (simp; omega)))), rfl⟩) (by decide)) ?_)
        refine list_cons rfl (op_q (by first | exact q_andI rfl rfl (by decide) (by omega) (by omega) (by omega) (by omega) | exact q_ib rfl rfl rfl (by decide)) ?_)
        refine list_cons rfl (op_q (q_assign rfl (by decide)) ?_)
        refine list_nil ?_
        refine blk_n ?_
        refine hK7 _ ?_; clear hK7 K7
        refine codeT.imp (σ' := [(0, _), (1, _), (4, _), (5, _), (6, _)]) ?_ (imp_covers ⟨rfl, rfl, rfl, rfl, rfl, trivial⟩)
        refine code_region ?_
        refine list_cons rfl (op_q (q_move rfl (by decide)) ?_)
        refine list_cons rfl (op_q (by first | exact q_addI rfl rfl (by decide) (by omega) (by omega) | exact q_ib rfl rfl rfl (by decide)) ?_)
        refine list_cons rfl (op_q (q_assign rfl (by decide)) ?_)
        refine list_nil ?_
        refine then_n ⟨(_, _, _), imp_covers ⟨rfl, rfl, rfl, rfl, rfl, trivial⟩, ?_, ?_⟩
        · (try dsimp only)
          first
            | exact ⟨by omega, by omega, by rw [show (i + 1).toNat = i.toNat + 1 by omega, fulN, if_pos (show bt cells i.toNat by assumption), Int.toNat_natCast]⟩
            | exact ⟨by omega, by omega, by rw [show (i + 1).toNat = i.toNat + 1 by omega, fulN, if_neg (show ¬ bt cells i.toNat by assumption)]⟩
        · (try dsimp only); omega
      (try simp only [Decidable.not_not] at h2)
      refine code_skip ?_
      refine blk_n ?_
      refine hK7 _ ?_; clear hK7 K7
      refine code_region ?_
      refine list_cons rfl (op_q (q_move rfl (by decide)) ?_)
      refine list_cons rfl (op_q (by first | exact q_addI rfl rfl (by decide) (by omega) (by omega) | exact q_ib rfl rfl rfl (by decide)) ?_)
      refine list_cons rfl (op_q (q_assign rfl (by decide)) ?_)
      refine list_nil ?_
      refine then_n ⟨(_, _, _), imp_covers ⟨rfl, rfl, rfl, rfl, rfl, trivial⟩, ?_, ?_⟩
      · (try dsimp only)
        first
          | exact ⟨by omega, by omega, by rw [show (i + 1).toNat = i.toNat + 1 by omega, fulN, if_pos (show bt cells i.toNat by assumption), Int.toNat_natCast]⟩
          | exact ⟨by omega, by omega, by rw [show (i + 1).toNat = i.toNat + 1 by omega, fulN, if_neg (show ¬ bt cells i.toNat by assumption)]⟩
      · (try dsimp only); omega
    (try simp only [Decidable.not_not] at h1)
    refine code_exit ?_
    refine then_x ?_; clear hK5 K5
    refine then_x ?_
    refine blk_hit ?_
    refine hK3 _ ?_; clear hK3 K3
    refine code_seq (fun K9 hK9 => ?_)
    refine code_region ?_
    refine list_cons rfl (op_q (q_move rfl (by decide)) ?_)
    refine list_cons rfl (op_q (q_assign rfl (by decide)) ?_)
    refine list_nil ?_
    refine hK9 _ ?_; clear hK9 K9
    refine code_ret ?_
    refine ends_ret (cs := []) rfl rfl rfl rfl trivial ?_
    first | (rw [show i.toNat = l.length by omega])
set_option maxRecDepth 8000 in
set_option maxHeartbeats 2000000 in
theorem spec_FullBars (l : List Int) (cells : Int) (hl : l.length ≤ 1048576) : PCalls Try.prog 28 [.sl l.length (l.map (.int .i64)), .int .i64 cells] (· = [.val (.int .i64 (if FbP l cells then ((fulN l cells l.length : Nat) : Int) else 0)), .val (.bool (decide (FbP l cells)))]) := by
  refine pcalls_of_code (n := 26) az Try.func28 (by kernel_rfl) rfl rfl (Nat.le_of_ble_eq_true rfl) (by intro t u h; simp [Try.f28] at h) ?_
  refine code_seq (fun K1 hK1 => ?_)
  refine code_region ?_
  refine list_cons rfl (op_q (q_assign rfl (by decide)) ?_)
  refine list_cons rfl (op_q (q_assign rfl (by decide)) ?_)
  refine list_nil ?_
  refine hK1 _ ?_; clear hK1 K1
  refine code_seq (fun K2 hK2 => ?_)
  refine code_seq (fun K3 hK3 => ?_)
  refine code_region ?_
  refine list_cons rfl (op_q (q_move rfl (by decide)) ?_)
  refine list_cons rfl (op_call _ (spec_l2Row _ (by first | omega | (simp; omega))) rfl rfl (by decide) (by decide) (by decide) rfl ?_)
  rintro _ rfl
  refine list_cons rfl (op_q (by first | exact q_notd rfl (by decide) | exact q_not rfl (by decide)) ?_)
  refine list_cons rfl (op_q (q_move rfl (by decide)) ?_)
  refine list_guard_d rfl rfl rfl rfl (by decide) rfl (by decide) (fun h1 => ?_) (fun h1 => ?_)
  · simp only [Bool.false_eq_true, if_true, if_false, Decidable.not_not] at h1
    (try simp only [Decidable.not_not] at h1); (try have hR := (h1 : RowP l); try have h6 := hR.1; try have hp := p2_le6 (k := (l.length : Int)) (by omega))
    refine id (op_q (q_move rfl (by decide)) ?_)
    refine list_guard_y rfl rfl rfl rfl (by decide) rfl ?_
    refine id (op_q (q_len_sl Try.underlying27 rfl rfl (by decide)) ?_)
    refine list_guard_y rfl rfl rfl rfl (by decide) rfl ?_
    refine id (op_q (q_eq rfl rfl (by decide)) ?_)
    refine list_cons rfl (op_q (q_pick rfl rfl (by decide)) ?_)
    refine list_cons rfl (op_q (q_move rfl (by decide)) ?_)
    refine list_guard_d rfl rfl rfl rfl (by decide) rfl (by decide) (fun h2 => ?_) (fun h2 => ?_)
    · simp only [Bool.false_eq_true, if_true, if_false, Decidable.not_not] at h2
      (try simp only [Decidable.not_not] at h2); (try have hR := (h2 : RowP l); try have h6 := hR.1; try have hp := p2_le6 (k := (l.length : Int)) (by omega))
      refine id (op_q (q_move rfl (by decide)) ?_)
      refine list_guard_y rfl rfl rfl rfl (by decide) rfl ?_
      refine id (op_q (q_move rfl (by decide)) ?_)
      refine list_guard_y rfl rfl rfl rfl (by decide) rfl ?_
      refine id (op_q (q_len_sl Try.underlying27 rfl rfl (by decide)) ?_)
      refine list_guard_y rfl rfl rfl rfl (by decide) rfl ?_
      refine id (op_q (by first | exact q_shl1 rfl rfl (by decide) (by omega) (by omega) | exact q_shlI rfl rfl (by decide) (by omega) (by omega) (by omega) | exact q_shl rfl rfl (by omega) (by decide)) ?_)
      refine list_guard_y rfl rfl rfl rfl (by decide) rfl ?_
      refine id (op_q (by first | exact q_subI rfl rfl (by decide) (by omega) (by omega) | exact q_ib rfl rfl rfl (by decide)) ?_)
      refine list_guard_y rfl rfl rfl rfl (by decide) rfl ?_
      refine id (op_call _ (spec_l1In _ _ _) rfl rfl (by decide) (by decide) (by decide) rfl ?_)
      rintro _ rfl
      refine list_guard_y rfl rfl rfl rfl (by decide) rfl ?_
      refine id (op_q (by first | exact q_notd rfl (by decide) | exact q_not rfl (by decide)) ?_)
      refine list_cons rfl (op_q (q_pick rfl rfl (by decide)) ?_)
      refine list_nil ?_
      refine hK3 _ ?_; clear hK3 K3
      refine codeT.imp (σ' := [(0, _), (1, _), (4, _), (5, _), (22, _)]) ?_ (imp_covers ⟨rfl, rfl, rfl, rfl, rfl, trivial⟩)
      refine code_cond_d rfl (fun h3 => ?_) (fun h3 => ?_)
      · skip
        (try simp only [Decidable.not_not] at h3); (try have hR := (h3 : RowP l); try have h6 := hR.1; try have hp := p2_le6 (k := (l.length : Int)) (by omega))
        refine code_seq (fun K4 hK4 => ?_)
        refine code_region ?_
        refine list_cons rfl (op_q (q_assign rfl (by decide)) ?_)
        refine list_cons rfl (op_q (q_assign rfl (by decide)) ?_)
        refine list_nil ?_
        refine hK4 _ ?_; clear hK4 K4
        refine code_ret ?_
        refine then_r ?_; clear hK2 K2
        refine ends_ret (cs := []) rfl rfl rfl rfl trivial ?_
        first
          | (have e : FbP l cells := ⟨⟨by assumption, by omega⟩, by omega, by omega⟩
             simp only [if_pos e, decide_eq_true e]; done)
          | (have e : ¬ FbP l cells := fun e => by have e1 := e.1.2; have e2 := e.2; first | exact absurd e.1.1 (by assumption) | omega
             simp only [if_neg e, decide_eq_false e]; done)
      (try simp only [Decidable.not_not] at h3); (try have hR := (h3 : RowP l); try have h6 := hR.1; try have hp := p2_le6 (k := (l.length : Int)) (by omega))
      refine code_skip ?_
      refine hK2 _ ?_; clear hK2 K2
      refine code_seq (fun K5 hK5 => ?_)
      refine code_region ?_
      refine list_cons rfl (op_q (q_move rfl (by decide)) ?_)
      refine list_cons rfl (op_q (q_move rfl (by decide)) ?_)
      refine list_cons rfl (op_call _ (spec_l8Full l cells hR (by omega)) rfl rfl (by decide) (by decide) (by decide) rfl ?_)
      rintro _ rfl
      refine list_cons rfl (op_q (q_assign rfl (by decide)) ?_)
      refine list_cons rfl (op_q (q_assign rfl (by decide)) ?_)
      refine list_nil ?_
      refine hK5 _ ?_; clear hK5 K5
      refine codeT.imp (σ' := [(0, _), (1, _), (4, _), (5, _)]) ?_ (imp_covers ⟨rfl, rfl, rfl, rfl, trivial⟩)
      refine code_ret ?_
      refine ends_ret (cs := []) rfl rfl rfl rfl trivial ?_
      first
        | (have e : FbP l cells := ⟨⟨by assumption, by omega⟩, by omega, by omega⟩
           simp only [if_pos e, decide_eq_true e]; done)
        | (have e : ¬ FbP l cells := fun e => by have e1 := e.1.2; have e2 := e.2; first | exact absurd e.1.1 (by assumption) | omega
           simp only [if_neg e, decide_eq_false e]; done)
    simp only [Bool.false_eq_true, if_true, if_false, Decidable.not_not] at h2
    (try simp only [Decidable.not_not] at h2); (try have hR := (h2 : RowP l); try have h6 := hR.1; try have hp := p2_le6 (k := (l.length : Int)) (by omega))
    refine list_guard_n rfl rfl rfl rfl (by decide) rfl ?_
    refine list_guard_n rfl rfl rfl rfl (by decide) rfl ?_
    refine list_guard_n rfl rfl rfl rfl (by decide) rfl ?_
    refine list_guard_n rfl rfl rfl rfl (by decide) rfl ?_
    refine list_guard_n rfl rfl rfl rfl (by decide) rfl ?_
    refine list_guard_n rfl rfl rfl rfl (by decide) rfl ?_
    refine list_cons rfl (op_q (q_pick rfl rfl (by decide)) ?_)
    refine list_nil ?_
    refine hK3 _ ?_; clear hK3 K3
    refine codeT.imp (σ' := [(0, _), (1, _), (4, _), (5, _), (22, _)]) ?_ (imp_covers ⟨rfl, rfl, rfl, rfl, rfl, trivial⟩)
    refine code_cond_t rfl ?_
    refine code_seq (fun K6 hK6 => ?_)
    refine code_region ?_
    refine list_cons rfl (op_q (q_assign rfl (by decide)) ?_)
    refine list_cons rfl (op_q (q_assign rfl (by decide)) ?_)
    refine list_nil ?_
    refine hK6 _ ?_; clear hK6 K6
    refine code_ret ?_
    refine then_r ?_; clear hK2 K2
    refine ends_ret (cs := []) rfl rfl rfl rfl trivial ?_
    first
      | (have e : FbP l cells := ⟨⟨by assumption, by omega⟩, by omega, by omega⟩
         simp only [if_pos e, decide_eq_true e]; done)
      | (have e : ¬ FbP l cells := fun e => by have e1 := e.1.2; have e2 := e.2; first | exact absurd e.1.1 (by assumption) | omega
         simp only [if_neg e, decide_eq_false e]; done)
  simp only [Bool.false_eq_true, if_true, if_false, Decidable.not_not] at h1
  (try simp only [Decidable.not_not] at h1); (try have hR := (h1 : RowP l); try have h6 := hR.1; try have hp := p2_le6 (k := (l.length : Int)) (by omega))
  refine list_guard_n rfl rfl rfl rfl (by decide) rfl ?_
  refine list_guard_n rfl rfl rfl rfl (by decide) rfl ?_
  refine list_cons rfl (op_q (q_pick rfl rfl (by decide)) ?_)
  refine list_cons rfl (op_q (q_move rfl (by decide)) ?_)
  refine list_guard_n rfl rfl rfl rfl (by decide) rfl ?_
  refine list_guard_n rfl rfl rfl rfl (by decide) rfl ?_
  refine list_guard_n rfl rfl rfl rfl (by decide) rfl ?_
  refine list_guard_n rfl rfl rfl rfl (by decide) rfl ?_
  refine list_guard_n rfl rfl rfl rfl (by decide) rfl ?_
  refine list_guard_n rfl rfl rfl rfl (by decide) rfl ?_
  refine list_guard_n rfl rfl rfl rfl (by decide) rfl ?_
  refine list_cons rfl (op_q (q_pick rfl rfl (by decide)) ?_)
  refine list_nil ?_
  refine hK3 _ ?_; clear hK3 K3
  refine code_cond_t rfl ?_
  refine code_seq (fun K7 hK7 => ?_)
  refine code_region ?_
  refine list_cons rfl (op_q (q_assign rfl (by decide)) ?_)
  refine list_cons rfl (op_q (q_assign rfl (by decide)) ?_)
  refine list_nil ?_
  refine hK7 _ ?_; clear hK7 K7
  refine codeT.imp (σ' := [(0, _), (1, _), (4, _), (5, _)]) ?_ (imp_covers ⟨rfl, rfl, rfl, rfl, trivial⟩)
  refine code_ret ?_
  refine then_r ?_; clear hK2 K2
  refine ends_ret (cs := []) rfl rfl rfl rfl trivial ?_
  first
    | (have e : FbP l cells := ⟨⟨by assumption, by omega⟩, by omega, by omega⟩
       simp only [if_pos e, decide_eq_true e]; done)
    | (have e : ¬ FbP l cells := fun e => by have e1 := e.1.2; have e2 := e.2; first | exact absurd e.1.1 (by assumption) | omega
       simp only [if_neg e, decide_eq_false e]; done)
set_option maxRecDepth 8000 in
set_option maxHeartbeats 2000000 in
theorem spec_l8Next (fr : List (Int × Int)) (i : Int) (h0 : 0 ≤ i) (h1 : i < fr.length) (hf : fr.length ≤ 12) : PCalls Try.prog 56 [.sl fr.length (fl fr), .int .i64 i] (· = [.val (.agg [.int .i64 (fr.getD ((i.toNat + 1) % fr.length) (0, 0)).1, .int .i64 (fr.getD ((i.toNat + 1) % fr.length) (0, 0)).2])]) := by
  refine pcalls_of_code (n := 13) az Try.func56 (by kernel_rfl) rfl rfl (Nat.le_of_ble_eq_true rfl) (by intro t u h; simp [Try.f56] at h; obtain ⟨_, rfl⟩ := h <;> first | exact resTy_agg agg_62 (by decide)) ?_
  have hfl := fl_len fr
  have hff := fl_flat fr
  have hp : (0 : Int) < fr.length := by omega
  have b0 := Int.emod_nonneg (i + 1) (show (fr.length : Int) ≠ 0 by omega)
  have b1 := Int.emod_lt_of_pos (i + 1) hp
  have hmt : ((i + 1) % (fr.length : Int)).toNat = (i.toNat + 1) % fr.length := by rw [show i + 1 = ((i.toNat + 1 : Nat) : Int) by omega, ← Int.natCast_emod, Int.toNat_natCast]
  have hm2 := Nat.mod_lt (i.toNat + 1) (show 0 < fr.length by omega)
  refine code_seq (fun K1 hK1 => ?_)
  refine code_region ?_
  refine list_cons rfl (op_alloc zt_62 (by decide) (by decide) rfl ?_)
  refine list_nil ?_
  refine hK1 _ ?_; clear hK1 K1
  refine code_seq (fun K2 hK2 => ?_)
  refine code_region ?_
  refine list_cons rfl (op_q (q_move rfl (by decide)) ?_)
  refine list_cons rfl (op_q (q_move rfl (by decide)) ?_)
  refine list_cons rfl (op_q (by first | exact q_addI rfl rfl (by decide) (by omega) (by omega) | exact q_ib rfl rfl rfl (by decide)) ?_)
  refine list_cons rfl (op_q (q_move rfl (by decide)) ?_)
  refine list_cons rfl (op_q (q_len_sl Try.underlying24 rfl rfl (by decide)) ?_)
  refine list_cons rfl (op_q (by first | exact q_remI rfl rfl (by decide) (by omega) (by omega) | exact q_rem rfl rfl (by omega) (by decide)) ?_)
  refine list_cons rfl (op_q (q_indexAddr_rd sl_24 rfl (.inl ⟨_, rfl, rfl⟩) rfl (by omega) (by omega) (by decide)) ?_)
  refine list_cons rfl (op_q (q_load_rd_aggE agg_62 rfl (.inl ⟨_, rfl⟩) (by first | decide | omega | exact Nat.le_refl _ | (simp; done) | (simp; omega)) (Eq.trans (congrArg (fun m => ((fl fr).drop (m * 2)).take 2) hmt) (fl_at fr ((i.toNat + 1) % fr.length) hm2)) rfl (by decide)) ?_)
  refine list_cons rfl (op_store (agg_62).2 4 [4] (by intro t ht; simp only [List.mem_cons, List.not_mem_nil, or_false] at ht; subst ht; rfl) (.inr ⟨rfl, _, rfl⟩) rfl rfl rfl rfl (by first | rfl | exact flat_part (flat_map _ (fun _ => rfl) _) _ _ | exact flat_map _ (fun _ => rfl) _) (by first | rfl | (simp [PV.cells]; done)) (by first | decide | omega | exact Nat.le_refl _ | (simp; done) | (simp; omega)) (by decide) rfl ?_)
  refine list_nil ?_
  refine hK2 _ ?_; clear hK2 K2
  refine codeT.imp (σ' := [(0, _), (1, _), (4, _)]) ?_ (imp_covers ⟨rfl, rfl, rfl, trivial⟩)
  refine code_ret ?_
  refine ends_ret (cs := []) rfl rfl rfl rfl trivial ?_
  first | rfl
set_option maxRecDepth 8000 in
set_option maxHeartbeats 2000000 in
theorem spec_WithBlanks (k : Int) (fr : List (Int × Int)) (hf : fr.length ≤ 1048576) : PCalls Try.prog 18 [.int .i64 k, .sl fr.length (fl fr)] (· = [.own 0 62 2 (if BlkP k fr then blk fr else []).length (fl (if BlkP k fr then blk fr else [])), .val (.bool (decide (BlkP k fr)))]) := by
  refine pcalls_of_code (n := 37) az Try.func18 (by kernel_rfl) rfl rfl (Nat.le_of_ble_eq_true rfl) (by intro t u h; simp [Try.f18] at h) ?_
  have hfl := fl_len fr
  have hff := fl_flat fr
  refine code_seq (fun K1 hK1 => ?_)
  refine code_region ?_
  refine list_cons rfl (op_q (q_assign rfl (by decide)) ?_)
  refine list_cons rfl (op_q (q_assign rfl (by decide)) ?_)
  refine list_nil ?_
  refine hK1 _ ?_; clear hK1 K1
  refine code_seq (fun K2 hK2 => ?_)
  refine code_region ?_
  refine list_cons rfl (op_buildSlice sl_24 (parts := []) rfl rfl rfl (by decide) (by decide) (by decide) rfl ?_)
  refine list_cons rfl (op_q (q_assign rfl (by decide)) ?_)
  refine list_nil ?_
  refine hK2 _ ?_; clear hK2 K2
  refine code_seq (fun K3 hK3 => ?_)
  refine code_seq (fun K4 hK4 => ?_)
  refine code_region ?_
  refine list_cons rfl (op_q (q_move rfl (by decide)) ?_)
  refine list_cons rfl (op_q (q_move rfl (by decide)) ?_)
  refine list_cons rfl (op_call _ (spec_l8Good _ _ (by first | omega | (simp; omega))) rfl rfl (by decide) (by decide) (by decide) rfl ?_)
  rintro _ rfl
  refine list_cons rfl (op_q (by first | exact q_notd rfl (by decide) | exact q_not rfl (by decide)) ?_)
  refine list_cons rfl (op_q (q_move rfl (by decide)) ?_)
  refine list_guard_d rfl rfl rfl rfl (by decide) rfl (by decide) (fun h1 => ?_) (fun h1 => ?_)
  · simp only [Bool.false_eq_true, if_true, if_false, Decidable.not_not] at h1
    (try simp only [Decidable.not_not] at h1)
    refine id (op_q (q_move rfl (by decide)) ?_)
    refine list_guard_y rfl rfl rfl rfl (by decide) rfl ?_
    refine id (op_q (q_len_sl Try.underlying24 rfl rfl (by decide)) ?_)
    refine list_guard_y rfl rfl rfl rfl (by decide) rfl ?_
    refine id (op_q (by first | exact q_mulI rfl rfl (by decide) (by omega) (by omega) | exact q_ib rfl rfl rfl (by decide)) ?_)
    refine list_guard_y rfl rfl rfl rfl (by decide) rfl ?_
    refine id (op_q (q_gt rfl rfl (by decide)) ?_)
    refine list_cons rfl (op_q (q_pick rfl rfl (by decide)) ?_)
    refine list_nil ?_
    refine hK4 _ ?_; clear hK4 K4
    refine codeT.imp (σ' := [(0, _), (1, _), (4, _), (5, _), (6, _), (18, _)]) ?_ (imp_covers ⟨rfl, rfl, rfl, rfl, rfl, rfl, trivial⟩)
    refine code_cond_d rfl (fun h2 => ?_) (fun h2 => ?_)
    · skip
      (try simp only [Decidable.not_not] at h2)
      refine code_seq (fun K5 hK5 => ?_)
      refine code_region ?_
      refine list_cons rfl (op_q (q_move rfl (by decide)) ?_)
      refine list_cons rfl (op_q (q_assign rfl (by decide)) ?_)
      refine list_cons rfl (op_q (q_assign rfl (by decide)) ?_)
      refine list_nil ?_
      refine hK5 _ ?_; clear hK5 K5
      refine code_ret ?_
      refine then_r ?_; clear hK3 K3
      refine ends_ret (cs := []) rfl rfl rfl rfl trivial ?_
      first
        | (rw [show i.toNat = fr.length by omega, List.take_length] at hL
           subst hL
           simp only [if_pos hP, decide_eq_true hP]; done)
        | (have e : ¬ BlkP k fr := fun e => by have := e.2; first | exact absurd e.1 (by assumption) | omega
           simp only [if_neg e, decide_eq_false e]; rfl)
    (try simp only [Decidable.not_not] at h2)
    refine code_skip ?_
    refine hK3 _ ?_; clear hK3 K3
    refine code_seq (fun K6 hK6 => ?_)
    refine code_seq (fun K7 hK7 => ?_)
    refine code_region ?_
    refine list_cons rfl (op_q (q_assign rfl (by decide)) ?_)
    refine list_nil ?_
    refine hK7 _ ?_; clear hK7 K7
    refine code_block ?_
    refine code_loop (X := PV × Bool × Nat × List PV × Int) (fun x => [(0, .val (.int .i64 k)), (1, .par 1 (.sl fr.length (fl fr))), (4, .val x.1), (5, .val (.bool x.2.1)), (6, .own 8 62 2 x.2.2.1 x.2.2.2.1), (7, .val (.int .i64 x.2.2.2.2))]) (fun x => BlkP k fr ∧ 0 ≤ x.2.2.2.2 ∧ x.2.2.2.2 ≤ fr.length ∧ ∃ L : List (Int × Int), x.2.2.1 = L.length ∧ x.2.2.2.1 = fl L ∧ L = blk (fr.take x.2.2.2.2.toNat)) (fun x => (fr.length - x.2.2.2.2).toNat) (_, _, _, _, _) (imp_covers ⟨rfl, rfl, rfl, rfl, rfl, rfl, trivial⟩) ?_ ?_
    · (try dsimp only)
      exact ⟨⟨by assumption, by omega⟩, by omega, by omega, [], rfl, rfl, rfl⟩
    · intro x hI
      obtain ⟨t4_p, t5, out_n, out_c, i⟩ := x
      replace hI : BlkP k fr ∧ 0 ≤ i ∧ i ≤ fr.length ∧ ∃ L : List (Int × Int), out_n = L.length ∧ out_c = fl L ∧ L = blk (fr.take i.toNat) := hI
      show codeT _ _ _ [(0, .val (.int .i64 k)), (1, .par 1 (.sl fr.length (fl fr))), (4, .val t4_p), (5, .val (.bool t5)), (6, .own 8 62 2 out_n out_c), (7, .val (.int .i64 i))] _
      obtain ⟨hP, i1, i2, L, rfl, rfl, hL⟩ := hI
      have h6 := hP.2
      have hLl : L.length ≤ 12 := by rw [hL, blk_len, List.length_take]; omega
      refine code_seq (fun K8 hK8 => ?_)
      refine code_seq (fun K9 hK9 => ?_)
      refine code_region ?_
      refine list_cons rfl (op_q (q_move rfl (by decide)) ?_)
      refine list_cons rfl (op_q (q_move rfl (by decide)) ?_)
      refine list_cons rfl (op_q (q_len_sl Try.underlying24 rfl rfl (by decide)) ?_)
      refine list_cons rfl (op_q (q_lt rfl rfl (by decide)) ?_)
      refine list_nil ?_
      refine hK9 _ ?_; clear hK9 K9
      refine code_cond_d rfl (fun h3 => ?_) (fun h3 => ?_)
      · skip
        (try simp only [Decidable.not_not] at h3)
        refine code_skip ?_
        refine hK8 _ ?_; clear hK8 K8
        refine code_seq (fun K10 hK10 => ?_)
        refine code_block ?_
        refine code_region ?_
        refine list_cons rfl (op_q (q_move rfl (by decide)) ?_)
        refine list_cons rfl (op_q (q_move rfl (by decide)) ?_)
        refine list_cons rfl (op_q (q_move rfl (by decide)) ?_)
        refine list_cons rfl (op_q (q_indexAddr_rd sl_24 rfl (.inl ⟨_, rfl, rfl⟩) rfl (by omega) (by omega) (by decide)) ?_)
        refine list_cons rfl (op_q (q_load_rd_aggE agg_62 rfl (.inl ⟨_, rfl⟩) (by first | decide | omega | exact Nat.le_refl _ | (simp; done) | (simp; omega)) (fl_at fr i.toNat (by omega)) rfl (by decide)) ?_)
        refine list_cons rfl (op_buildSlice sl_24 (parts := [(0, .tmp 30)]) rfl rfl rfl (by decide) (by decide) (by decide) rfl ?_)
        refine list_cons rfl (op_append_gen sl_24 (l := 8) (.inl rfl) rfl rfl (l2 := none) (.inl ⟨rfl, (by first | rfl | exact flat_map _ (fun _ => rfl) _)⟩) (by first | rfl | (simp [PV.cells, putAt, zeros]; done)) (by omega) (by decide) (by decide) (by decide) ?_)
        refine list_cons rfl (op_q (q_build bt_62 (parts := []) rfl rfl (by decide)) ?_)
        refine list_cons rfl (op_buildSlice sl_24 (parts := [(0, .tmp 33)]) rfl rfl rfl (by decide) (by decide) (by decide) rfl ?_)
        refine list_cons rfl (op_append_gen sl_24 (l := 8) (.inl rfl) rfl rfl (l2 := none) (.inl ⟨rfl, (by first | rfl | exact flat_map _ (fun _ => rfl) _)⟩) (by first | rfl | (simp [PV.cells, putAt, zeros]; done)) (by omega) (by decide) (by decide) (by decide) ?_)
        refine list_cons rfl (op_q (q_assign rfl (by decide)) ?_)
        refine list_nil ?_
        refine blk_n ?_
        refine hK10 _ ?_; clear hK10 K10
        refine codeT.imp (σ' := [(0, _), (1, _), (4, _), (5, _), (6, _), (7, _)]) ?_ (imp_covers ⟨rfl, rfl, rfl, rfl, rfl, rfl, trivial⟩)
        refine code_region ?_
        refine list_cons rfl (op_q (q_move rfl (by decide)) ?_)
        refine list_cons rfl (op_q (by first | exact q_addI rfl rfl (by decide) (by omega) (by omega) | exact q_ib rfl rfl rfl (by decide)) ?_)
        refine list_cons rfl (op_q (q_assign rfl (by decide)) ?_)
        refine list_nil ?_
        refine then_n ⟨(_, _, _, _, _), imp_covers ⟨rfl, rfl, rfl, rfl, rfl, rfl, trivial⟩, ?_, ?_⟩
        · (try dsimp only)
          first
            | exact ⟨hP, by omega, by omega, L ++ [fr.getD i.toNat (0, 0), (0, 0)], by simp, by simp [fl]; rfl, by rw [show (i + 1).toNat = i.toNat + 1 by omega, blk_snoc (by omega), hL]⟩
        · (try dsimp only); omega
      (try simp only [Decidable.not_not] at h3)
      refine code_exit ?_
      refine then_x ?_; clear hK8 K8
      refine then_x ?_
      refine blk_hit ?_
      refine hK6 _ ?_; clear hK6 K6
      refine code_seq (fun K11 hK11 => ?_)
      refine code_region ?_
      refine list_cons rfl (op_q (q_move rfl (by decide)) ?_)
      refine list_cons rfl (op_q (q_assign rfl (by decide)) ?_)
      refine list_cons rfl (op_q (q_assign rfl (by decide)) ?_)
      refine list_nil ?_
      refine hK11 _ ?_; clear hK11 K11
      refine code_ret ?_
      refine ends_ret (cs := []) rfl rfl rfl rfl trivial ?_
      first
        | (rw [show i.toNat = fr.length by omega, List.take_length] at hL
           subst hL
           simp only [if_pos hP, decide_eq_true hP]; done)
        | (have e : ¬ BlkP k fr := fun e => by have := e.2; first | exact absurd e.1 (by assumption) | omega
           simp only [if_neg e, decide_eq_false e]; rfl)
  simp only [Bool.false_eq_true, if_true, if_false, Decidable.not_not] at h1
  (try simp only [Decidable.not_not] at h1)
  refine list_guard_n rfl rfl rfl rfl (by decide) rfl ?_
  refine list_guard_n rfl rfl rfl rfl (by decide) rfl ?_
  refine list_guard_n rfl rfl rfl rfl (by decide) rfl ?_
  refine list_cons rfl (op_q (q_pick rfl rfl (by decide)) ?_)
  refine list_nil ?_
  refine hK4 _ ?_; clear hK4 K4
  refine code_cond_t rfl ?_
  refine code_seq (fun K12 hK12 => ?_)
  refine code_region ?_
  refine list_cons rfl (op_q (q_move rfl (by decide)) ?_)
  refine list_cons rfl (op_q (q_assign rfl (by decide)) ?_)
  refine list_cons rfl (op_q (q_assign rfl (by decide)) ?_)
  refine list_nil ?_
  refine hK12 _ ?_; clear hK12 K12
  refine codeT.imp (σ' := [(0, _), (1, _), (4, _), (5, _), (6, _)]) ?_ (imp_covers ⟨rfl, rfl, rfl, rfl, rfl, trivial⟩)
  refine code_ret ?_
  refine then_r ?_; clear hK3 K3
  refine ends_ret (cs := []) rfl rfl rfl rfl trivial ?_
  first
    | (rw [show i.toNat = fr.length by omega, List.take_length] at hL
       subst hL
       simp only [if_pos hP, decide_eq_true hP]; done)
    | (have e : ¬ BlkP k fr := fun e => by have := e.2; first | exact absurd e.1 (by assumption) | omega
       simp only [if_neg e, decide_eq_false e]; rfl)
set_option maxRecDepth 8000 in
set_option maxHeartbeats 2000000 in
theorem spec_GhostsOf (k : Int) (fr : List (Int × Int)) (hf : fr.length ≤ 1048576) : PCalls Try.prog 16 [.int .i64 k, .sl fr.length (fl fr)] (· = [.own 0 3 1 (if GdP k fr then ghL fr k.toNat else []).length ((if GdP k fr then ghL fr k.toNat else []).map (.int .i64)), .val (.bool (decide (GdP k fr)))]) := by
  refine pcalls_of_code (n := 58) az Try.func16 (by kernel_rfl) rfl rfl (Nat.le_of_ble_eq_true rfl) (by intro t u h; simp [Try.f16] at h) ?_
  refine code_seq (fun K1 hK1 => ?_)
  refine code_region ?_
  refine list_cons rfl (op_q (q_assign rfl (by decide)) ?_)
  refine list_cons rfl (op_q (q_assign rfl (by decide)) ?_)
  refine list_nil ?_
  refine hK1 _ ?_; clear hK1 K1
  refine code_seq (fun K2 hK2 => ?_)
  refine code_seq (fun K3 hK3 => ?_)
  refine code_region ?_
  refine list_cons rfl (op_q (q_move rfl (by decide)) ?_)
  refine list_cons rfl (op_q (q_move rfl (by decide)) ?_)
  refine list_cons rfl (op_call _ (spec_l8Good _ _ (by first | omega | (simp; omega))) rfl rfl (by decide) (by decide) (by decide) rfl ?_)
  rintro _ rfl
  refine list_cons rfl (op_q (by first | exact q_notd rfl (by decide) | exact q_not rfl (by decide)) ?_)
  refine list_nil ?_
  refine hK3 _ ?_; clear hK3 K3
  refine codeT.imp (σ' := [(0, _), (1, _), (4, _), (5, _), (13, _)]) ?_ (imp_covers ⟨rfl, rfl, rfl, rfl, rfl, trivial⟩)
  refine code_cond_d rfl (fun h1 => ?_) (fun h1 => ?_)
  · skip
    (try simp only [Decidable.not_not] at h1); (try have hg := (h1 : GdP k fr); try have hk := hg.1; try have hF := hg.2; try have h12 := hF.1; try have hfl := fl_len fr)
    refine code_seq (fun K4 hK4 => ?_)
    refine code_region ?_
    refine list_cons rfl (op_buildSlice sl_27 (parts := []) rfl rfl rfl (by decide) (by decide) (by decide) rfl ?_)
    refine list_cons rfl (op_q (q_assign rfl (by decide)) ?_)
    refine list_cons rfl (op_q (q_assign rfl (by decide)) ?_)
    refine list_nil ?_
    refine hK4 _ ?_; clear hK4 K4
    refine code_ret ?_
    refine then_r ?_; clear hK2 K2
    refine ends_ret (cs := []) rfl rfl rfl rfl trivial ?_
    first
      | (rw [show i.toNat = fr.length by omega]; simp only [if_pos hg, decide_eq_true hg]; show [SV.own _ _ _ k.toNat (List.map _ (ghL fr k.toNat)), _] = _; rw [show (ghL fr k.toNat).length = k.toNat from gK_len _ _ _ _]; done)
      | (have e : ¬ GdP k fr := by assumption
         simp only [if_neg e, decide_eq_false e]; rfl)
  (try simp only [Decidable.not_not] at h1); (try have hg := (h1 : GdP k fr); try have hk := hg.1; try have hF := hg.2; try have h12 := hF.1; try have hfl := fl_len fr)
  refine code_skip ?_
  refine hK2 _ ?_; clear hK2 K2
  refine code_seq (fun K5 hK5 => ?_)
  refine any_start fun ob3_0 => ?_
  refine any_op (rd := [0]) ob3_0 rfl rfl rfl (anyT_quiet [(0, _)] ⟨rfl, trivial⟩ rfl (q_move rfl (by decide))) (fun ob3_1 => ?_)
  refine any_op (rd := [15]) ob3_1 rfl rfl rfl (fun σ hag hfr => by have e15 : σ.at 15 = some _ := (hag 15 (by decide)).trans rfl; exact op_makeI sl_27 (by first | rfl | assumption) (by first | rfl | assumption) (by omega) (by omega) (by decide) (by decide) (fr1000 hfr (by decide)) rfl) (fun ob3_2 => ?_)
  refine any_op (rd := [0]) ob3_2 rfl rfl rfl (anyT_quiet [(0, _)] ⟨rfl, trivial⟩ rfl (q_move rfl (by decide))) (fun ob3_3 => ?_)
  refine any_op (rd := [1]) ob3_3 rfl rfl rfl (anyT_quiet [(1, _)] ⟨rfl, trivial⟩ rfl (q_move rfl (by decide))) (fun ob3_4 => ?_)
  refine any_op (rd := [17, 18]) ob3_4 rfl rfl rfl (fun σ hag hfr => by have e17 : σ.at 17 = some _ := (hag 17 (by decide)).trans rfl; have e18 : σ.at 18 = some _ := (hag 18 (by decide)).trans rfl; exact op_call _ (spec_l8Seen k fr hg) (evs_cons e17 (evs_cons e18 evs_nil)) rfl (by decide) (by decide) (by decide) hfr (fun rs hR => by subst hR; rfl)) (fun ob3_5 => ?_)
  refine any_end [[], [0], [], [], [2, 3], [0, 1, 2, 3, 4], [0, 1, 2, 3, 4, 5]] ob3_5 (by kernel_rfl) (Nat.le_of_ble_eq_true rfl) (by decide) (by decide) (by kernel_rfl) (by kernel_rfl) (by kernel_rfl) (by kernel_rfl) (by kernel_rfl) ?_
  clear ob3_0 ob3_1 ob3_2 ob3_3 ob3_4 ob3_5
  refine listT.imp (σ' := [(0, _), (1, _), (4, _), (5, _), (13, _), (15, _), (16, _), (17, _), (18, _), (19, _)]) ?_ (imp_covers ⟨rfl, rfl, rfl, rfl, rfl, rfl, rfl, rfl, rfl, rfl, trivial⟩)
  refine list_cons rfl (op_q (q_assign rfl (by decide)) ?_)
  refine list_cons rfl (op_q (q_assign rfl (by decide)) ?_)
  refine list_nil ?_
  refine hK5 _ ?_; clear hK5 K5
  refine codeT.imp (σ' := [(0, _), (1, _), (4, _), (5, _), (6, _), (7, _)]) ?_ (imp_covers ⟨rfl, rfl, rfl, rfl, rfl, rfl, trivial⟩)
  refine code_seq (fun K6 hK6 => ?_)
  refine code_seq (fun K7 hK7 => ?_)
  refine code_region ?_
  refine list_cons rfl (op_q (q_assign rfl (by decide)) ?_)
  refine list_nil ?_
  refine hK7 _ ?_; clear hK7 K7
  refine code_block ?_
  refine code_loop (X := PV × Bool × Nat × List PV × Int) (fun x => [(0, .val (.int .i64 k)), (1, .par 1 (.sl fr.length (fl fr))), (4, .val x.1), (5, .val (.bool x.2.1)), (6, .own 16 3 1 x.2.2.1 x.2.2.2.1), (7, .own 19 3 1 (sen fr k.toNat).length ((sen fr k.toNat).map (.int .i64))), (8, .val (.int .i64 x.2.2.2.2))]) (fun x => GdP k fr ∧ 0 ≤ x.2.2.2.2 ∧ x.2.2.2.2 ≤ fr.length ∧ x.2.2.1 = k.toNat ∧ x.2.2.2.1 = (gK (ghO fr) k.toNat x.2.2.2.2.toNat 0).map (.int .i64)) (fun x => (fr.length - x.2.2.2.2).toNat) (_, _, _, _, _) (imp_covers ⟨rfl, rfl, rfl, rfl, rfl, rfl, rfl, trivial⟩) ?_ ?_
  · (try dsimp only)
    exact ⟨hg, by omega, by omega, by first | rfl | omega, (zeros_map1 (PV.int .i64) 0 k.toNat).trans (congrArg (List.map _) (gK_zero (fun _ => rfl) k.toNat))⟩
  · intro x hI
    obtain ⟨t4_p, t5, out_n, out_c, i⟩ := x
    replace hI : GdP k fr ∧ 0 ≤ i ∧ i ≤ fr.length ∧ out_n = k.toNat ∧ out_c = (gK (ghO fr) k.toNat i.toNat 0).map (.int .i64) := hI
    show codeT _ _ _ [(0, .val (.int .i64 k)), (1, .par 1 (.sl fr.length (fl fr))), (4, .val t4_p), (5, .val (.bool t5)), (6, .own 16 3 1 out_n out_c), (7, .own 19 3 1 (sen fr k.toNat).length ((sen fr k.toNat).map (.int .i64))), (8, .val (.int .i64 i))] _
    obtain ⟨hg, i1, i2, rfl, rfl⟩ := hI
    have hk := hg.1
    have hF := hg.2
    have h12 := hF.1
    have hfl := fl_len fr
    refine code_seq (fun K8 hK8 => ?_)
    refine code_seq (fun K9 hK9 => ?_)
    refine code_region ?_
    refine list_cons rfl (op_q (q_move rfl (by decide)) ?_)
    refine list_cons rfl (op_q (q_move rfl (by decide)) ?_)
    refine list_cons rfl (op_q (q_len_sl Try.underlying24 rfl rfl (by decide)) ?_)
    refine list_cons rfl (op_q (q_lt rfl rfl (by decide)) ?_)
    refine list_nil ?_
    refine hK9 _ ?_; clear hK9 K9
    refine code_cond_d rfl (fun h2 => ?_) (fun h2 => ?_)
    · skip
      (try simp only [Decidable.not_not] at h2); (try have hg := (h2 : GdP k fr); try have hk := hg.1; try have hF := hg.2; try have h12 := hF.1; try have hfl := fl_len fr)
      refine code_skip ?_
      refine hK8 _ ?_; clear hK8 K8
      refine code_seq (fun K10 hK10 => ?_)
      refine code_block ?_
      refine code_seq (fun K11 hK11 => ?_)
      refine code_region ?_
      refine list_cons rfl (op_q (q_assign rfl (by decide)) ?_)
      refine list_nil ?_
      refine hK11 _ ?_; clear hK11 K11
      refine code_block ?_
      refine code_loop (X := PV × Bool × Nat × List PV × Int) (fun x => [(0, .val (.int .i64 k)), (1, .par 1 (.sl fr.length (fl fr))), (4, .val x.1), (5, .val (.bool x.2.1)), (6, .own 16 3 1 x.2.2.1 x.2.2.2.1), (7, .own 19 3 1 (sen fr k.toNat).length ((sen fr k.toNat).map (.int .i64))), (8, .val (.int .i64 i)), (9, .val (.int .i64 x.2.2.2.2))]) (fun x => 0 ≤ x.2.2.2.2 ∧ x.2.2.2.2 ≤ k ∧ x.2.2.1 = k.toNat ∧ x.2.2.2.1 = (gK (ghO fr) k.toNat i.toNat x.2.2.2.2.toNat).map (.int .i64)) (fun x => (k - x.2.2.2.2).toNat) (_, _, _, _, _) (imp_covers ⟨rfl, rfl, rfl, rfl, rfl, rfl, rfl, rfl, trivial⟩) ?_ ?_
      · (try dsimp only)
        exact ⟨by omega, by omega, rfl, rfl⟩
      · intro x hI
        obtain ⟨t4_p, t5, out_n, out_c, x_⟩ := x
        replace hI : 0 ≤ x_ ∧ x_ ≤ k ∧ out_n = k.toNat ∧ out_c = (gK (ghO fr) k.toNat i.toNat x_.toNat).map (.int .i64) := hI
        show codeT _ _ _ [(0, .val (.int .i64 k)), (1, .par 1 (.sl fr.length (fl fr))), (4, .val t4_p), (5, .val (.bool t5)), (6, .own 16 3 1 out_n out_c), (7, .own 19 3 1 (sen fr k.toNat).length ((sen fr k.toNat).map (.int .i64))), (8, .val (.int .i64 i)), (9, .val (.int .i64 x_))] _
        obtain ⟨j1, j2, rfl, rfl⟩ := hI
        have hsl : (sen fr k.toNat).length = k.toNat := senK_len _ _ _ _
        have hb := hF.bd hk.2 (j := i.toNat) (by omega)
        have hc := hF.bd hk.2 (j := (i.toNat + 1) % fr.length) (Nat.mod_lt _ (by omega))
        have ho := ghO_le hF hk.2 x_.toNat i.toNat (by omega)
        have hs := orN_le hF hk.2 x_.toNat fr.length (by omega)
        have ha := fun h : x_ < k => gK_at (o := ghO fr) (k := k.toNat) (i := i.toNat) (m := x_.toNat) (x := x_.toNat) (by omega)
        have hz := fun h : x_ < k => senK_at (fr := fr) (k := k.toNat) (i := fr.length) (m := 0) (x := x_.toNat) (by omega)
        refine code_seq (fun K12 hK12 => ?_)
        refine code_seq (fun K13 hK13 => ?_)
        refine code_region ?_
        refine list_cons rfl (op_q (q_move rfl (by decide)) ?_)
        refine list_cons rfl (op_q (q_move rfl (by decide)) ?_)
        refine list_cons rfl (op_q (q_lt rfl rfl (by decide)) ?_)
        refine list_nil ?_
        refine hK13 _ ?_; clear hK13 K13
        refine code_cond_d rfl (fun h3 => ?_) (fun h3 => ?_)
        · skip
          (try simp only [Decidable.not_not] at h3); (try have hg := (h3 : GdP k fr); try have hk := hg.1; try have hF := hg.2; try have h12 := hF.1; try have hfl := fl_len fr)
          refine code_skip ?_
          refine hK12 _ ?_; clear hK12 K12
          refine code_seq (fun K14 hK14 => ?_)
          refine code_block ?_
          refine code_seq (fun K15 hK15 => ?_)
          refine code_region ?_
          refine list_cons rfl (op_q (q_move rfl (by decide)) ?_)
          refine list_cons rfl (op_q (q_move rfl (by decide)) ?_)
          refine list_cons rfl (op_call _ (spec_l8Next fr i (by omega) (by omega) (by omega)) rfl rfl (by decide) (by decide) (by decide) rfl ?_)
          rintro _ rfl
          refine list_cons rfl (op_q (q_field Try.underlying62 rfl rfl one_3 rfl rfl (by decide)) ?_)
          refine list_cons rfl (op_q (q_move rfl (by decide)) ?_)
          refine list_cons rfl (op_q (by first | exact q_shrN rfl rfl (by decide) (by omega) (by omega) (by omega) | exact q_shrI rfl rfl (by decide) (by omega) (by omega) (by omega) | exact q_shr rfl rfl (by omega) (by decide)) ?_)
          refine list_cons rfl (op_q (by first | exact q_andI rfl rfl (by decide) (by omega) (by omega) (by omega) (by omega) | exact q_ib rfl rfl rfl (by decide)) ?_)
          refine list_cons rfl (op_q (q_eq rfl rfl (by decide)) ?_)
          refine list_nil ?_
          refine hK15 _ ?_; clear hK15 K15
          refine codeT.imp (σ' := [(0, _), (1, _), (4, _), (5, _), (6, _), (7, _), (8, _), (9, _), (38, _)]) ?_ (imp_covers ⟨rfl, rfl, rfl, rfl, rfl, rfl, rfl, rfl, rfl, trivial⟩)
          refine code_cond_d rfl (fun h4 => ?_) (fun h4 => ?_)
          · skip
            (try simp only [Decidable.not_not] at h4); (try have hg := (h4 : GdP k fr); try have hk := hg.1; try have hF := hg.2; try have h12 := hF.1; try have hfl := fl_len fr)
            refine any_start fun ob4_0 => ?_
            refine any_op (rd := [6]) ob4_0 rfl rfl rfl (anyT_quiet [(6, _)] ⟨rfl, trivial⟩ rfl (q_move rfl (by decide))) (fun ob4_1 => ?_)
            simp only [List.cons_append, List.nil_append] at ob4_1
            refine any_op (rd := [9]) ob4_1 rfl rfl rfl (anyT_quiet [(9, _)] ⟨rfl, trivial⟩ rfl (q_move rfl (by decide))) (fun ob4_2 => ?_)
            simp only [List.cons_append, List.nil_append] at ob4_2
            refine any_op (rd := [6]) ob4_2 rfl rfl rfl (anyT_quiet [(6, _)] ⟨rfl, trivial⟩ rfl (q_move rfl (by decide))) (fun ob4_3 => ?_)
            simp only [List.cons_append, List.nil_append] at ob4_3
            refine any_op (rd := [9]) ob4_3 rfl rfl rfl (anyT_quiet [(9, _)] ⟨rfl, trivial⟩ rfl (q_move rfl (by decide))) (fun ob4_4 => ?_)
            simp only [List.cons_append, List.nil_append] at ob4_4
            refine any_op (rd := [41, 42]) ob4_4 rfl rfl rfl (anyT_quiet [(41, _), (42, _)] ⟨rfl, rfl, trivial⟩ rfl (q_indexAddr_own sl_27 rfl rfl (by omega) (by omega) (by decide))) (fun ob4_5 => ?_)
            simp only [List.cons_append, List.nil_append] at ob4_5
            refine any_op (rd := [43, 6]) ob4_5 rfl rfl rfl (anyT_quiet [(43, _), (6, _)] ⟨rfl, rfl, trivial⟩ rfl (q_load one_3 6 rfl rfl rfl (by first | rfl | exact congrArg (SV.rpar _) (fl_dp0 fr i.toNat (by omega)) | exact congrArg (SV.rpar _) (fl_dp2 (fs := fr) (k := i.toNat) (by omega)) | exact get_map1 (PV.int .i64) 0 (gK (ghO fr) k.toNat i.toNat x_.toNat) (by rw [gK_len]; omega) | exact get_map1 (PV.int .i64) 0 (sen fr k.toNat) (by show _ < (senK _ _ _ _).length; rw [senK_len]; omega)) (by decide))) (fun ob4_6 => ?_)
            simp only [List.cons_append, List.nil_append] at ob4_6
            refine any_op (rd := [1]) ob4_6 rfl rfl rfl (anyT_quiet [(1, _)] ⟨rfl, trivial⟩ rfl (q_move rfl (by decide))) (fun ob4_7 => ?_)
            simp only [List.cons_append, List.nil_append] at ob4_7
            refine any_op (rd := [8]) ob4_7 rfl rfl rfl (anyT_quiet [(8, _)] ⟨rfl, trivial⟩ rfl (q_move rfl (by decide))) (fun ob4_8 => ?_)
            simp only [List.cons_append, List.nil_append] at ob4_8
            refine any_op (rd := [45, 46]) ob4_8 rfl rfl rfl (anyT_quiet [(45, _), (46, _)] ⟨rfl, rfl, trivial⟩ rfl (q_indexAddr_rd sl_24 rfl (.inl ⟨_, rfl, rfl⟩) rfl (by omega) (by omega) (by decide))) (fun ob4_9 => ?_)
            simp only [List.cons_append, List.nil_append] at ob4_9
            refine any_op (rd := [47]) ob4_9 rfl rfl rfl (anyT_quiet [(47, _)] ⟨rfl, trivial⟩ rfl (q_fieldAddr fi_62_1 rfl rfl (by decide))) (fun ob4_10 => ?_)
            simp only [List.cons_append, List.nil_append] at ob4_10
            refine any_op (rd := [48]) ob4_10 rfl rfl rfl (anyT_quiet [(48, _)] ⟨rfl, trivial⟩ rfl (q_load_rd one_3 rfl (.inl ⟨_, (by first | rfl | exact congrArg (SV.rpar _) (fl_dp0 fr i.toNat (by omega)) | exact congrArg (SV.rpar _) (fl_dp2 (fs := fr) (k := i.toNat) (by omega)) | exact get_map1 (PV.int .i64) 0 (gK (ghO fr) k.toNat i.toNat x_.toNat) (by rw [gK_len]; omega) | exact get_map1 (PV.int .i64) 0 (sen fr k.toNat) (by show _ < (senK _ _ _ _).length; rw [senK_len]; omega)), rfl⟩) (by decide))) (fun ob4_11 => ?_)
            simp only [List.cons_append, List.nil_append] at ob4_11
            refine any_op (rd := [7]) ob4_11 rfl rfl rfl (anyT_quiet [(7, _)] ⟨rfl, trivial⟩ rfl (q_move rfl (by decide))) (fun ob4_12 => ?_)
            simp only [List.cons_append, List.nil_append] at ob4_12
            refine any_op (rd := [9]) ob4_12 rfl rfl rfl (anyT_quiet [(9, _)] ⟨rfl, trivial⟩ rfl (q_move rfl (by decide))) (fun ob4_13 => ?_)
            simp only [List.cons_append, List.nil_append] at ob4_13
            refine any_op (rd := [50, 51]) ob4_13 rfl rfl rfl (anyT_quiet [(50, _), (51, _)] ⟨rfl, rfl, trivial⟩ rfl (q_indexAddr_own sl_27 rfl rfl (by omega) (by omega) (by decide))) (fun ob4_14 => ?_)
            simp only [List.cons_append, List.nil_append] at ob4_14
            refine any_op (rd := [52, 7]) ob4_14 rfl rfl rfl (anyT_quiet [(52, _), (7, _)] ⟨rfl, rfl, trivial⟩ rfl (q_load one_3 7 rfl rfl rfl (by first | rfl | exact congrArg (SV.rpar _) (fl_dp0 fr i.toNat (by omega)) | exact congrArg (SV.rpar _) (fl_dp2 (fs := fr) (k := i.toNat) (by omega)) | exact get_map1 (PV.int .i64) 0 (gK (ghO fr) k.toNat i.toNat x_.toNat) (by rw [gK_len]; omega) | exact get_map1 (PV.int .i64) 0 (sen fr k.toNat) (by show _ < (senK _ _ _ _).length; rw [senK_len]; omega)) (by decide))) (fun ob4_15 => ?_)
            simp only [List.cons_append, List.nil_append] at ob4_15
            refine any_op (rd := [49, 53]) ob4_15 rfl rfl rfl (anyT_quiet [(49, _), (53, _)] ⟨rfl, rfl, trivial⟩ rfl (by first | exact q_andNotI rfl rfl (by decide) (by omega) (by omega) (by omega) (by omega) | exact q_ib rfl rfl rfl (by decide))) (fun ob4_16 => ?_)
            simp only [List.cons_append, List.nil_append] at ob4_16
            refine any_op (rd := [44, 54]) ob4_16 rfl rfl rfl (anyT_quiet [(44, _), (54, _)] ⟨rfl, rfl, trivial⟩ rfl (by first | exact q_orI rfl rfl (by decide) (by omega) (by omega) (by omega) (by omega) | exact q_ib rfl rfl rfl (by decide))) (fun ob4_17 => ?_)
            simp only [List.cons_append, List.nil_append] at ob4_17
            refine any_end [[], [], [], [], [2, 3], [2, 3, 4], [], [], [6, 7], [6, 7, 8], [6, 7, 8, 9], [], [], [11, 12], [11, 12, 13], [6, 7, 8, 9, 10, 11, 12, 13, 14], [2, 3, 4, 5, 6, 7, 8, 9, 10, 11, 12, 13, 14, 15], [0, 1, 2, 3, 4, 5, 6, 7, 8, 9, 10, 11, 12, 13, 14, 15, 16], [0, 1, 2, 3, 4, 5, 6, 7, 8, 9, 10, 11, 12, 13, 14, 15, 16, 17]] ob4_17 (by kernel_rfl) (Nat.le_of_ble_eq_true rfl) (by decide) (by decide) (by kernel_rfl) (by kernel_rfl) (by kernel_rfl) (by kernel_rfl) (by kernel_rfl) ?_
            clear ob4_0 ob4_1 ob4_2 ob4_3 ob4_4 ob4_5 ob4_6 ob4_7 ob4_8 ob4_9 ob4_10 ob4_11 ob4_12 ob4_13 ob4_14 ob4_15 ob4_16 ob4_17
            refine listT.imp (σ' := [(0, _), (1, _), (4, _), (5, _), (6, _), (7, _), (8, _), (9, _), (38, _), (39, _), (40, _), (41, _), (42, _), (43, _), (44, _), (45, _), (46, _), (47, _), (48, _), (49, _), (50, _), (51, _), (52, _), (53, _), (54, _), (55, _)]) ?_ (imp_covers ⟨rfl, rfl, rfl, rfl, rfl, rfl, rfl, rfl, rfl, rfl, rfl, rfl, rfl, rfl, rfl, rfl, rfl, rfl, rfl, rfl, rfl, rfl, rfl, rfl, rfl, rfl, trivial⟩)
            refine list_cons rfl (op_q (q_indexAddr_own sl_27 rfl rfl (by omega) (by omega) (by decide)) ?_)
            refine list_cons rfl (op_store (one_3).2 6 [6, 39, 41] (by intro t ht; simp only [List.mem_cons, List.not_mem_nil, or_false] at ht; rcases ht with rfl | rfl | rfl <;> rfl) (.inl rfl) rfl rfl rfl rfl rfl rfl (by rw [List.length_map, gK_len]; simp; omega) (by decide) rfl ?_)
            refine list_nil ?_
            refine blk_n ?_
            refine hK14 _ ?_; clear hK14 K14
            refine codeT.imp (σ' := [(0, _), (1, _), (4, _), (5, _), (6, _), (7, _), (8, _), (9, _)]) ?_ (imp_covers ⟨rfl, rfl, rfl, rfl, rfl, rfl, rfl, rfl, trivial⟩)
            refine code_region ?_
            refine list_cons rfl (op_q (q_move rfl (by decide)) ?_)
            refine list_cons rfl (op_q (by first | exact q_addI rfl rfl (by decide) (by omega) (by omega) | exact q_ib rfl rfl rfl (by decide)) ?_)
            refine list_cons rfl (op_q (q_assign rfl (by decide)) ?_)
            refine list_nil ?_
            refine then_n ⟨(_, _, _, _, _), imp_covers ⟨rfl, rfl, rfl, rfl, rfl, rfl, rfl, rfl, trivial⟩, ?_, ?_⟩
            · (try dsimp only)
              first
                | exact ⟨by omega, by omega, rfl, by rw [show (x_ + 1).toNat = x_.toNat + 1 by omega, ← gK_no (show ghO fr x_.toNat (i.toNat + 1) = ghO fr x_.toNat i.toNat by rw [ghO, if_neg (show ¬ bt (fr.getD ((i.toNat + 1) % fr.length) (0, 0)).1 x_.toNat by assumption)])]⟩
                | exact ⟨by omega, by omega, rfl, by rw [show (x_ + 1).toNat = x_.toNat + 1 by omega]; exact gK_yes (by omega) rfl (by rw [ha (by assumption), if_neg (Nat.lt_irrefl _), show (sen fr k.toNat).getD x_.toNat 0 = _ from hz (by assumption), if_neg (Nat.not_lt_zero _), ghO, if_pos (show bt (fr.getD ((i.toNat + 1) % fr.length) (0, 0)).1 x_.toNat by assumption)]; exact gh_val (by omega) hb.2.1 (by omega) (by omega))⟩
            · (try dsimp only); omega
          (try simp only [Decidable.not_not] at h4); (try have hg := (h4 : GdP k fr); try have hk := hg.1; try have hF := hg.2; try have h12 := hF.1; try have hfl := fl_len fr)
          refine code_skip ?_
          refine blk_n ?_
          refine hK14 _ ?_; clear hK14 K14
          refine code_region ?_
          refine list_cons rfl (op_q (q_move rfl (by decide)) ?_)
          refine list_cons rfl (op_q (by first | exact q_addI rfl rfl (by decide) (by omega) (by omega) | exact q_ib rfl rfl rfl (by decide)) ?_)
          refine list_cons rfl (op_q (q_assign rfl (by decide)) ?_)
          refine list_nil ?_
          refine then_n ⟨(_, _, _, _, _), imp_covers ⟨rfl, rfl, rfl, rfl, rfl, rfl, rfl, rfl, trivial⟩, ?_, ?_⟩
          · (try dsimp only)
            first
              | exact ⟨by omega, by omega, rfl, by rw [show (x_ + 1).toNat = x_.toNat + 1 by omega, ← gK_no (show ghO fr x_.toNat (i.toNat + 1) = ghO fr x_.toNat i.toNat by rw [ghO, if_neg (show ¬ bt (fr.getD ((i.toNat + 1) % fr.length) (0, 0)).1 x_.toNat by assumption)])]⟩
              | exact ⟨by omega, by omega, rfl, by rw [show (x_ + 1).toNat = x_.toNat + 1 by omega]; exact gK_yes (by omega) rfl (by rw [ha (by assumption), if_neg (Nat.lt_irrefl _), show (sen fr k.toNat).getD x_.toNat 0 = _ from hz (by assumption), if_neg (Nat.not_lt_zero _), ghO, if_pos (show bt (fr.getD ((i.toNat + 1) % fr.length) (0, 0)).1 x_.toNat by assumption)]; exact gh_val (by omega) hb.2.1 (by omega) (by omega))⟩
          · (try dsimp only); omega
        (try simp only [Decidable.not_not] at h3); (try have hg := (h3 : GdP k fr); try have hk := hg.1; try have hF := hg.2; try have h12 := hF.1; try have hfl := fl_len fr)
        refine code_exit ?_
        refine then_x ?_; clear hK12 K12
        refine then_x ?_
        refine blk_hit ?_
        refine blk_n ?_
        refine hK10 _ ?_; clear hK10 K10
        refine code_region ?_
        refine list_cons rfl (op_q (q_move rfl (by decide)) ?_)
        refine list_cons rfl (op_q (by first | exact q_addI rfl rfl (by decide) (by omega) (by omega) | exact q_ib rfl rfl rfl (by decide)) ?_)
        refine list_cons rfl (op_q (q_assign rfl (by decide)) ?_)
        refine list_nil ?_
        refine then_n ⟨(_, _, _, _, _), imp_covers ⟨rfl, rfl, rfl, rfl, rfl, rfl, rfl, trivial⟩, ?_, ?_⟩
        · (try dsimp only)
          exact ⟨hg, by omega, by omega, rfl, by rw [show x_.toNat = k.toNat by omega, gK_next, show (i + 1).toNat = i.toNat + 1 by omega]⟩
        · (try dsimp only); omega
    (try simp only [Decidable.not_not] at h2); (try have hg := (h2 : GdP k fr); try have hk := hg.1; try have hF := hg.2; try have h12 := hF.1; try have hfl := fl_len fr)
    refine code_exit ?_
    refine then_x ?_; clear hK8 K8
    refine then_x ?_
    refine blk_hit ?_
    refine hK6 _ ?_; clear hK6 K6
    refine code_seq (fun K16 hK16 => ?_)
    refine code_region ?_
    refine list_cons rfl (op_q (q_move rfl (by decide)) ?_)
    refine list_cons rfl (op_q (q_assign rfl (by decide)) ?_)
    refine list_cons rfl (op_q (q_assign rfl (by decide)) ?_)
    refine list_nil ?_
    refine hK16 _ ?_; clear hK16 K16
    refine code_ret ?_
    refine ends_ret (cs := []) rfl rfl rfl rfl trivial ?_
    first
      | (rw [show i.toNat = fr.length by omega]; simp only [if_pos hg, decide_eq_true hg]; show [SV.own _ _ _ k.toNat (List.map _ (ghL fr k.toNat)), _] = _; rw [show (ghL fr k.toNat).length = k.toNat from gK_len _ _ _ _]; done)
      | (have e : ¬ GdP k fr := by assumption
         simp only [if_neg e, decide_eq_false e]; rfl)
set_option maxRecDepth 8000 in
set_option maxHeartbeats 4000000 in
theorem spec_l8Duty (k : Int) (fr : List (Int × Int)) (hg : GdP k fr) : PCalls Try.prog 54 [.int .i64 k, .sl fr.length (fl fr)] (· = [.own 0 47 7 k.toNat ((duL fr k.toNat).map (.int .i64))]) := by
  refine pcalls_of_code (n := 56) az Try.func54 (by kernel_rfl) rfl rfl (Nat.le_of_ble_eq_true rfl) (by intro t u h; simp [Try.f54] at h) ?_
  have hk := hg.1
  have hF := hg.2
  have h12 := hF.1
  have hfl := fl_len fr
  refine code_seq (fun K1 hK1 => ?_)
  refine code_region ?_
  refine list_cons rfl (op_q (q_assign rfl (by decide)) ?_)
  refine list_nil ?_
  refine hK1 _ ?_; clear hK1 K1
  refine code_seq (fun K2 hK2 => ?_)
  refine code_region ?_
  refine list_cons rfl (op_q (q_move rfl (by decide)) ?_)
  refine list_cons rfl (op_makeI sl_33 rfl rfl (by omega) (by omega) (by decide) (by decide) rfl ?_)
  refine list_cons rfl (op_q (q_assign rfl (by decide)) ?_)
  refine list_nil ?_
  refine hK2 _ ?_; clear hK2 K2
  refine code_seq (fun K3 hK3 => ?_)
  refine code_seq (fun K4 hK4 => ?_)
  refine code_region ?_
  refine list_cons rfl (op_q (q_assign rfl (by decide)) ?_)
  refine list_nil ?_
  refine hK4 _ ?_; clear hK4 K4
  refine code_block ?_
  refine code_loop (X := PV × Nat × List PV × Int) (fun x => [(0, .val (.int .i64 k)), (1, .par 1 (.sl fr.length (fl fr))), (4, .val x.1), (5, .own 10 47 7 x.2.1 x.2.2.1), (6, .val (.int .i64 x.2.2.2))]) (fun x => 0 ≤ x.2.2.2 ∧ x.2.2.2 ≤ fr.length ∧ x.2.1 = k.toNat ∧ x.2.2.1 = (gK (duO fr) (k.toNat * 7) x.2.2.2.toNat 0).map (.int .i64)) (fun x => (fr.length - x.2.2.2).toNat) (_, _, _, _) (imp_covers ⟨rfl, rfl, rfl, rfl, rfl, trivial⟩) ?_ ?_
  · (try dsimp only)
    exact ⟨by omega, by omega, by first | rfl | omega, (zers7 k.toNat).trans (congrArg (List.map _) (gK_zero (fun _ => rfl) (k.toNat * 7)))⟩
  · intro x hI
    obtain ⟨t4_p, out_n, out_c, i⟩ := x
    replace hI : 0 ≤ i ∧ i ≤ fr.length ∧ out_n = k.toNat ∧ out_c = (gK (duO fr) (k.toNat * 7) i.toNat 0).map (.int .i64) := hI
    show codeT _ _ _ [(0, .val (.int .i64 k)), (1, .par 1 (.sl fr.length (fl fr))), (4, .val t4_p), (5, .own 10 47 7 out_n out_c), (6, .val (.int .i64 i))] _
    obtain ⟨i1, i2, rfl, rfl⟩ := hI
    refine code_seq (fun K5 hK5 => ?_)
    refine code_seq (fun K6 hK6 => ?_)
    refine code_region ?_
    refine list_cons rfl (op_q (q_move rfl (by decide)) ?_)
    refine list_cons rfl (op_q (q_move rfl (by decide)) ?_)
    refine list_cons rfl (op_q (q_len_sl Try.underlying24 rfl rfl (by decide)) ?_)
    refine list_cons rfl (op_q (q_lt rfl rfl (by decide)) ?_)
    refine list_nil ?_
    refine hK6 _ ?_; clear hK6 K6
    refine code_cond_d rfl (fun h1 => ?_) (fun h1 => ?_)
    · skip
      (try simp only [Decidable.not_not] at h1)
      refine code_skip ?_
      refine hK5 _ ?_; clear hK5 K5
      refine code_seq (fun K7 hK7 => ?_)
      refine code_block ?_
      refine code_seq (fun K8 hK8 => ?_)
      refine code_region ?_
      refine list_cons rfl (op_q (q_assign rfl (by decide)) ?_)
      refine list_nil ?_
      refine hK8 _ ?_; clear hK8 K8
      refine code_block ?_
      refine code_loop (X := PV × Nat × List PV × Int) (fun x => [(0, .val (.int .i64 k)), (1, .par 1 (.sl fr.length (fl fr))), (4, .val x.1), (5, .own 10 47 7 x.2.1 x.2.2.1), (6, .val (.int .i64 i)), (7, .val (.int .i64 x.2.2.2))]) (fun x => 0 ≤ x.2.2.2 ∧ x.2.2.2 ≤ k ∧ x.2.1 = k.toNat ∧ x.2.2.1 = (gK (duO fr) (k.toNat * 7) i.toNat (x.2.2.2.toNat * 7)).map (.int .i64)) (fun x => (k - x.2.2.2).toNat) (_, _, _, _) (imp_covers ⟨rfl, rfl, rfl, rfl, rfl, rfl, trivial⟩) ?_ ?_
      · (try dsimp only)
        exact ⟨by omega, by omega, rfl, rfl⟩
      · intro x hI
        obtain ⟨t4_p, out_n, out_c, x_⟩ := x
        replace hI : 0 ≤ x_ ∧ x_ ≤ k ∧ out_n = k.toNat ∧ out_c = (gK (duO fr) (k.toNat * 7) i.toNat (x_.toNat * 7)).map (.int .i64) := hI
        show codeT _ _ _ [(0, .val (.int .i64 k)), (1, .par 1 (.sl fr.length (fl fr))), (4, .val t4_p), (5, .own 10 47 7 out_n out_c), (6, .val (.int .i64 i)), (7, .val (.int .i64 x_))] _
        obtain ⟨j1, j2, rfl, rfl⟩ := hI
        refine code_seq (fun K9 hK9 => ?_)
        refine code_seq (fun K10 hK10 => ?_)
        refine code_region ?_
        refine list_cons rfl (op_q (q_move rfl (by decide)) ?_)
        refine list_cons rfl (op_q (q_move rfl (by decide)) ?_)
        refine list_cons rfl (op_q (q_lt rfl rfl (by decide)) ?_)
        refine list_nil ?_
        refine hK10 _ ?_; clear hK10 K10
        refine code_cond_d rfl (fun h2 => ?_) (fun h2 => ?_)
        · skip
          (try simp only [Decidable.not_not] at h2)
          refine code_skip ?_
          refine hK9 _ ?_; clear hK9 K9
          refine code_seq (fun K11 hK11 => ?_)
          refine code_block ?_
          refine code_seq (fun K12 hK12 => ?_)
          refine code_region ?_
          refine list_cons rfl (op_q (q_assign rfl (by decide)) ?_)
          refine list_nil ?_
          refine hK12 _ ?_; clear hK12 K12
          refine code_block ?_
          refine code_loop (X := PV × Nat × List PV × Int) (fun x => [(0, .val (.int .i64 k)), (1, .par 1 (.sl fr.length (fl fr))), (4, .val x.1), (5, .own 10 47 7 x.2.1 x.2.2.1), (6, .val (.int .i64 i)), (7, .val (.int .i64 x_)), (8, .val (.int .i64 x.2.2.2))]) (fun x => 0 ≤ x.2.2.2 ∧ x.2.2.2 ≤ 7 ∧ x.2.1 = k.toNat ∧ x.2.2.1 = (gK (duO fr) (k.toNat * 7) i.toNat (x_.toNat * 7 + x.2.2.2.toNat)).map (.int .i64)) (fun x => (7 - x.2.2.2).toNat) (_, _, _, _) (imp_covers ⟨rfl, rfl, rfl, rfl, rfl, rfl, rfl, trivial⟩) ?_ ?_
          · (try dsimp only)
            exact ⟨by omega, by omega, rfl, rfl⟩
          · intro x hI
            obtain ⟨t4_p, out_n, out_c, bar⟩ := x
            replace hI : 0 ≤ bar ∧ bar ≤ 7 ∧ out_n = k.toNat ∧ out_c = (gK (duO fr) (k.toNat * 7) i.toNat (x_.toNat * 7 + bar.toNat)).map (.int .i64) := hI
            show codeT _ _ _ [(0, .val (.int .i64 k)), (1, .par 1 (.sl fr.length (fl fr))), (4, .val t4_p), (5, .own 10 47 7 out_n out_c), (6, .val (.int .i64 i)), (7, .val (.int .i64 x_)), (8, .val (.int .i64 bar))] _
            obtain ⟨l1, l2, rfl, rfl⟩ := hI
            have hb := hF.bd hk.2 (j := i.toNat) (by omega)
            have ho := duO_le fr (x_.toNat * 7 + bar.toNat) i.toNat
            have ha := fun h : x_.toNat * 7 + bar.toNat < k.toNat * 7 => gK_at (o := duO fr) (k := k.toNat * 7) (i := i.toNat) (m := x_.toNat * 7 + bar.toNat) h
            refine code_seq (fun K13 hK13 => ?_)
            refine code_seq (fun K14 hK14 => ?_)
            refine code_region ?_
            refine list_cons rfl (op_q (q_move rfl (by decide)) ?_)
            refine list_cons rfl (op_q (q_lt rfl rfl (by decide)) ?_)
            refine list_nil ?_
            refine hK14 _ ?_; clear hK14 K14
            refine code_cond_d rfl (fun h3 => ?_) (fun h3 => ?_)
            · skip
              (try simp only [Decidable.not_not] at h3)
              refine code_skip ?_
              refine hK13 _ ?_; clear hK13 K13
              refine code_seq (fun K15 hK15 => ?_)
              refine code_block ?_
              refine any_start fun ob5_0 => ?_
              refine any_op (rd := [5]) ob5_0 rfl rfl rfl (anyT_quiet [(5, _)] ⟨rfl, trivial⟩ rfl (q_move rfl (by decide))) (fun ob5_1 => ?_)
              simp only [List.cons_append, List.nil_append] at ob5_1
              refine any_op (rd := [7]) ob5_1 rfl rfl rfl (anyT_quiet [(7, _)] ⟨rfl, trivial⟩ rfl (q_move rfl (by decide))) (fun ob5_2 => ?_)
              simp only [List.cons_append, List.nil_append] at ob5_2
              refine any_op (rd := [8]) ob5_2 rfl rfl rfl (anyT_quiet [(8, _)] ⟨rfl, trivial⟩ rfl (q_move rfl (by decide))) (fun ob5_3 => ?_)
              simp only [List.cons_append, List.nil_append] at ob5_3
              refine any_op (rd := [5]) ob5_3 rfl rfl rfl (anyT_quiet [(5, _)] ⟨rfl, trivial⟩ rfl (q_move rfl (by decide))) (fun ob5_4 => ?_)
              simp only [List.cons_append, List.nil_append] at ob5_4
              refine any_op (rd := [7]) ob5_4 rfl rfl rfl (anyT_quiet [(7, _)] ⟨rfl, trivial⟩ rfl (q_move rfl (by decide))) (fun ob5_5 => ?_)
              simp only [List.cons_append, List.nil_append] at ob5_5
              refine any_op (rd := [8]) ob5_5 rfl rfl rfl (anyT_quiet [(8, _)] ⟨rfl, trivial⟩ rfl (q_move rfl (by decide))) (fun ob5_6 => ?_)
              simp only [List.cons_append, List.nil_append] at ob5_6
              refine any_op (rd := [29, 30]) ob5_6 rfl rfl rfl (anyT_quiet [(29, _), (30, _)] ⟨rfl, rfl, trivial⟩ rfl (q_indexAddr_own sl_33 rfl rfl (by omega) (by omega) (by decide))) (fun ob5_7 => ?_)
              simp only [List.cons_append, List.nil_append] at ob5_7
              refine any_op (rd := [31, 32]) ob5_7 rfl rfl rfl (anyT_quiet [(31, _), (32, _)] ⟨rfl, rfl, trivial⟩ rfl (q_indexAddr_arr arr_47 rfl rfl rfl (by omega) (by omega) (by decide))) (fun ob5_8 => ?_)
              simp only [List.cons_append, List.nil_append] at ob5_8
              refine any_op (rd := [33, 5]) ob5_8 rfl rfl rfl (anyT_quiet [(33, _), (5, _)] ⟨rfl, rfl, trivial⟩ rfl (q_load one_3 5 rfl rfl rfl (by first | rfl | exact congrArg (SV.rpar _) (fl_dp0 fr i.toNat (by omega)) | exact congrArg (SV.rpar _) (fl_dp2 (fs := fr) (k := i.toNat) (by omega)) | exact gK_ld (by omega)) (by decide))) (fun ob5_9 => ?_)
              simp only [List.cons_append, List.nil_append] at ob5_9
              refine any_op (rd := [1]) ob5_9 rfl rfl rfl (anyT_quiet [(1, _)] ⟨rfl, trivial⟩ rfl (q_move rfl (by decide))) (fun ob5_10 => ?_)
              simp only [List.cons_append, List.nil_append] at ob5_10
              refine any_op (rd := [6]) ob5_10 rfl rfl rfl (anyT_quiet [(6, _)] ⟨rfl, trivial⟩ rfl (q_move rfl (by decide))) (fun ob5_11 => ?_)
              simp only [List.cons_append, List.nil_append] at ob5_11
              refine any_op (rd := [35, 36]) ob5_11 rfl rfl rfl (anyT_quiet [(35, _), (36, _)] ⟨rfl, rfl, trivial⟩ rfl (q_indexAddr_rd sl_24 rfl (.inl ⟨_, rfl, rfl⟩) rfl (by omega) (by omega) (by decide))) (fun ob5_12 => ?_)
              simp only [List.cons_append, List.nil_append] at ob5_12
              refine any_op (rd := [37]) ob5_12 rfl rfl rfl (anyT_quiet [(37, _)] ⟨rfl, trivial⟩ rfl (q_fieldAddr fi_62_0 rfl rfl (by decide))) (fun ob5_13 => ?_)
              simp only [List.cons_append, List.nil_append] at ob5_13
              refine any_op (rd := [38]) ob5_13 rfl rfl rfl (anyT_quiet [(38, _)] ⟨rfl, trivial⟩ rfl (q_load_rd one_3 rfl (.inl ⟨_, (by first | rfl | exact congrArg (SV.rpar _) (fl_dp0 fr i.toNat (by omega)) | exact congrArg (SV.rpar _) (fl_dp2 (fs := fr) (k := i.toNat) (by omega)) | exact gK_ld (by omega)), rfl⟩) (by decide))) (fun ob5_14 => ?_)
              simp only [List.cons_append, List.nil_append] at ob5_14
              refine any_op (rd := [7]) ob5_14 rfl rfl rfl (anyT_quiet [(7, _)] ⟨rfl, trivial⟩ rfl (q_move rfl (by decide))) (fun ob5_15 => ?_)
              simp only [List.cons_append, List.nil_append] at ob5_15
              refine any_op (rd := [39, 40]) ob5_15 rfl rfl rfl (anyT_quiet [(39, _), (40, _)] ⟨rfl, rfl, trivial⟩ rfl (by first | exact q_shrN rfl rfl (by decide) (by omega) (by omega) (by omega) | exact q_shrI rfl rfl (by decide) (by omega) (by omega) (by omega) | exact q_shr rfl rfl (by omega) (by decide))) (fun ob5_16 => ?_)
              simp only [List.cons_append, List.nil_append] at ob5_16
              refine any_op (rd := [41]) ob5_16 rfl rfl rfl (anyT_quiet [(41, _)] ⟨rfl, trivial⟩ rfl (by first | exact q_andI rfl rfl (by decide) (by omega) (by omega) (by omega) (by omega) | exact q_ib rfl rfl rfl (by decide))) (fun ob5_17 => ?_)
              simp only [List.cons_append, List.nil_append] at ob5_17
              refine any_op (rd := [1]) ob5_17 rfl rfl rfl (anyT_quiet [(1, _)] ⟨rfl, trivial⟩ rfl (q_move rfl (by decide))) (fun ob5_18 => ?_)
              simp only [List.cons_append, List.nil_append] at ob5_18
              refine any_op (rd := [6]) ob5_18 rfl rfl rfl (anyT_quiet [(6, _)] ⟨rfl, trivial⟩ rfl (q_move rfl (by decide))) (fun ob5_19 => ?_)
              simp only [List.cons_append, List.nil_append] at ob5_19
              refine any_op (rd := [43, 44]) ob5_19 rfl rfl rfl (anyT_quiet [(43, _), (44, _)] ⟨rfl, rfl, trivial⟩ rfl (q_indexAddr_rd sl_24 rfl (.inl ⟨_, rfl, rfl⟩) rfl (by omega) (by omega) (by decide))) (fun ob5_20 => ?_)
              simp only [List.cons_append, List.nil_append] at ob5_20
              refine any_op (rd := [45]) ob5_20 rfl rfl rfl (anyT_quiet [(45, _)] ⟨rfl, trivial⟩ rfl (q_fieldAddr fi_62_1 rfl rfl (by decide))) (fun ob5_21 => ?_)
              simp only [List.cons_append, List.nil_append] at ob5_21
              refine any_op (rd := [46]) ob5_21 rfl rfl rfl (anyT_quiet [(46, _)] ⟨rfl, trivial⟩ rfl (q_load_rd one_3 rfl (.inl ⟨_, (by first | rfl | exact congrArg (SV.rpar _) (fl_dp0 fr i.toNat (by omega)) | exact congrArg (SV.rpar _) (fl_dp2 (fs := fr) (k := i.toNat) (by omega)) | exact gK_ld (by omega)), rfl⟩) (by decide))) (fun ob5_22 => ?_)
              simp only [List.cons_append, List.nil_append] at ob5_22
              refine any_op (rd := [8]) ob5_22 rfl rfl rfl (anyT_quiet [(8, _)] ⟨rfl, trivial⟩ rfl (q_move rfl (by decide))) (fun ob5_23 => ?_)
              simp only [List.cons_append, List.nil_append] at ob5_23
              refine any_op (rd := [47, 48]) ob5_23 rfl rfl rfl (anyT_quiet [(47, _), (48, _)] ⟨rfl, rfl, trivial⟩ rfl (by first | exact q_shrN rfl rfl (by decide) (by omega) (by omega) (by omega) | exact q_shrI rfl rfl (by decide) (by omega) (by omega) (by omega) | exact q_shr rfl rfl (by omega) (by decide))) (fun ob5_24 => ?_)
              simp only [List.cons_append, List.nil_append] at ob5_24
              refine any_op (rd := [49]) ob5_24 rfl rfl rfl (anyT_quiet [(49, _)] ⟨rfl, trivial⟩ rfl (by first | exact q_andI rfl rfl (by decide) (by omega) (by omega) (by omega) (by omega) | exact q_ib rfl rfl rfl (by decide))) (fun ob5_25 => ?_)
              simp only [List.cons_append, List.nil_append] at ob5_25
              refine any_op (rd := [42, 50]) ob5_25 rfl rfl rfl (anyT_quiet [(42, _), (50, _)] ⟨rfl, rfl, trivial⟩ rfl (by first | exact q_mulI rfl rfl (by decide) (by omega) (by omega) | exact q_ib rfl rfl rfl (by decide))) (fun ob5_26 => ?_)
              simp only [List.cons_append, List.nil_append] at ob5_26
              refine any_op (rd := [34, 51]) ob5_26 rfl rfl rfl (anyT_quiet [(34, _), (51, _)] ⟨rfl, rfl, trivial⟩ rfl (by first | exact q_addI rfl rfl (by decide) (by omega) (by omega) | exact q_ib rfl rfl rfl (by decide))) (fun ob5_27 => ?_)
              simp only [List.cons_append, List.nil_append] at ob5_27
              refine any_op (rd := [26, 27]) ob5_27 rfl rfl rfl (anyT_quiet [(26, _), (27, _)] ⟨rfl, rfl, trivial⟩ rfl (q_indexAddr_own sl_33 rfl rfl (by omega) (by omega) (by decide))) (fun ob5_28 => ?_)
              simp only [List.cons_append, List.nil_append] at ob5_28
              refine any_end [[], [], [], [], [], [], [3, 4], [3, 4, 5, 6], [3, 4, 5, 6, 7], [], [], [9, 10], [9, 10, 11], [9, 10, 11, 12], [], [9, 10, 11, 12, 13, 14], [9, 10, 11, 12, 13, 14, 15], [], [], [17, 18], [17, 18, 19], [17, 18, 19, 20], [], [17, 18, 19, 20, 21, 22], [17, 18, 19, 20, 21, 22, 23], [9, 10, 11, 12, 13, 14, 15, 16, 17, 18, 19, 20, 21, 22, 23, 24], [3, 4, 5, 6, 7, 8, 9, 10, 11, 12, 13, 14, 15, 16, 17, 18, 19, 20, 21, 22, 23, 24, 25], [0, 1], [0, 1, 2, 3, 4, 5, 6, 7, 8, 9, 10, 11, 12, 13, 14, 15, 16, 17, 18, 19, 20, 21, 22, 23, 24, 25, 26, 27], [0, 1, 2, 3, 4, 5, 6, 7, 8, 9, 10, 11, 12, 13, 14, 15, 16, 17, 18, 19, 20, 21, 22, 23, 24, 25, 26, 27, 28]] ob5_28 (by kernel_rfl) (Nat.le_of_ble_eq_true rfl) (by decide) (by decide) (by kernel_rfl) (by kernel_rfl) (by kernel_rfl) (by kernel_rfl) (by kernel_rfl) ?_
              clear ob5_0 ob5_1 ob5_2 ob5_3 ob5_4 ob5_5 ob5_6 ob5_7 ob5_8 ob5_9 ob5_10 ob5_11 ob5_12 ob5_13 ob5_14 ob5_15 ob5_16 ob5_17 ob5_18 ob5_19 ob5_20 ob5_21 ob5_22 ob5_23 ob5_24 ob5_25 ob5_26 ob5_27 ob5_28
              refine listT.imp (σ' := ((0, _) :: (1, _) :: (4, _) :: (5, _) :: (6, _) :: (7, _) :: (8, _) :: (22, _) :: (23, _) :: (26, _) :: (27, _) :: (28, _) :: (29, _) :: (30, _) :: (31, _) :: (32, _) :: (33, _) :: (34, _) :: (35, _) :: (36, _) :: (37, _) :: (38, _) :: (39, _) :: (40, _) :: (41, _) :: (42, _) :: (43, _) :: (44, _) :: (45, _) :: (46, _) :: (47, _) :: (48, _) :: (49, _) :: (50, _) :: (51, _) :: (52, _) :: (53, _) :: [])) ?_ (imp_covers ⟨rfl, rfl, rfl, rfl, rfl, rfl, rfl, rfl, rfl, rfl, rfl, rfl, rfl, rfl, rfl, rfl, rfl, rfl, rfl, rfl, rfl, rfl, rfl, rfl, rfl, rfl, rfl, rfl, rfl, rfl, rfl, rfl, rfl, rfl, rfl, rfl, rfl, trivial⟩)
              refine list_cons rfl (op_q (q_indexAddr_arr arr_47 rfl rfl rfl (by omega) (by omega) (by decide)) ?_)
              refine list_cons rfl (op_store (one_3).2 5 [5, 26, 29] (by intro t ht; simp only [List.mem_cons, List.not_mem_nil, or_false] at ht; rcases ht with rfl | rfl | rfl <;> rfl) (.inl rfl) rfl rfl rfl rfl rfl rfl (by first | omega | (simp only [gK_len, List.length_map]; omega)) (by decide) rfl ?_)
              refine list_nil ?_
              refine blk_n ?_
              refine hK15 _ ?_; clear hK15 K15
              refine codeT.imp (σ' := [(0, _), (1, _), (4, _), (5, _), (6, _), (7, _), (8, _)]) ?_ (imp_covers ⟨rfl, rfl, rfl, rfl, rfl, rfl, rfl, trivial⟩)
              refine code_region ?_
              refine list_cons rfl (op_q (q_move rfl (by decide)) ?_)
              refine list_cons rfl (op_q (by first | exact q_addI rfl rfl (by decide) (by omega) (by omega) | exact q_ib rfl rfl rfl (by decide)) ?_)
              refine list_cons rfl (op_q (q_assign rfl (by decide)) ?_)
              refine list_nil ?_
              refine then_n ⟨(_, _, _, _), imp_covers ⟨rfl, rfl, rfl, rfl, rfl, rfl, rfl, trivial⟩, ?_, ?_⟩
              · (try dsimp only)
                refine ⟨by omega, by omega, rfl, ?_⟩
                rw [show x_.toNat * 7 + (bar + 1).toNat = x_.toNat * 7 + bar.toNat + 1 by omega]
                exact gK_put (by omega) (by omega) (by rw [ha (by omega), if_neg (Nat.lt_irrefl _), duO, duS_at fr i.toNat (by omega)]; exact du_val (by omega) (Nat.le_trans (Nat.div_le_self _ _) (by omega)) (Nat.le_trans (Nat.div_le_self _ _) (by omega)))
              · (try dsimp only); omega
            (try simp only [Decidable.not_not] at h3)
            refine code_exit ?_
            refine then_x ?_; clear hK13 K13
            refine then_x ?_
            refine blk_hit ?_
            refine blk_n ?_
            refine hK11 _ ?_; clear hK11 K11
            refine code_region ?_
            refine list_cons rfl (op_q (q_move rfl (by decide)) ?_)
            refine list_cons rfl (op_q (by first | exact q_addI rfl rfl (by decide) (by omega) (by omega) | exact q_ib rfl rfl rfl (by decide)) ?_)
            refine list_cons rfl (op_q (q_assign rfl (by decide)) ?_)
            refine list_nil ?_
            refine then_n ⟨(_, _, _, _), imp_covers ⟨rfl, rfl, rfl, rfl, rfl, rfl, trivial⟩, ?_, ?_⟩
            · (try dsimp only)
              exact ⟨by omega, by omega, rfl, by rw [show (x_ + 1).toNat * 7 = x_.toNat * 7 + bar.toNat by omega]⟩
            · (try dsimp only); omega
        (try simp only [Decidable.not_not] at h2)
        refine code_exit ?_
        refine then_x ?_; clear hK9 K9
        refine then_x ?_
        refine blk_hit ?_
        refine blk_n ?_
        refine hK7 _ ?_; clear hK7 K7
        refine code_region ?_
        refine list_cons rfl (op_q (q_move rfl (by decide)) ?_)
        refine list_cons rfl (op_q (by first | exact q_addI rfl rfl (by decide) (by omega) (by omega) | exact q_ib rfl rfl rfl (by decide)) ?_)
        refine list_cons rfl (op_q (q_assign rfl (by decide)) ?_)
        refine list_nil ?_
        refine then_n ⟨(_, _, _, _), imp_covers ⟨rfl, rfl, rfl, rfl, rfl, trivial⟩, ?_, ?_⟩
        · (try dsimp only)
          exact ⟨by omega, by omega, rfl, by rw [show x_.toNat * 7 = k.toNat * 7 by omega, gK_next, show (i + 1).toNat = i.toNat + 1 by omega]⟩
        · (try dsimp only); omega
    (try simp only [Decidable.not_not] at h1)
    refine code_exit ?_
    refine then_x ?_; clear hK5 K5
    refine then_x ?_
    refine blk_hit ?_
    refine hK3 _ ?_; clear hK3 K3
    refine code_seq (fun K16 hK16 => ?_)
    refine code_region ?_
    refine list_cons rfl (op_q (q_move rfl (by decide)) ?_)
    refine list_cons rfl (op_q (q_assign rfl (by decide)) ?_)
    refine list_nil ?_
    refine hK16 _ ?_; clear hK16 K16
    refine code_ret ?_
    refine ends_ret (cs := []) rfl rfl rfl rfl trivial ?_
    (rw [show i.toNat = fr.length by omega]; rfl)
set_option maxRecDepth 4000 in
theorem spec_DutyOf (k : Int) (fr : List (Int × Int)) (hf : fr.length ≤ 1048576) : PCalls Try.prog 13 [.int .i64 k, .sl fr.length (fl fr)] (· = [.own 0 47 7 (if GdP k fr then k.toNat else 0) ((if GdP k fr then duL fr k.toNat else []).map (.int .i64)), .val (.bool (decide (GdP k fr)))]) := by
  refine pcalls_of_code (n := 14) az Try.func13 (by kernel_rfl) rfl rfl (Nat.le_of_ble_eq_true rfl) (by intro t u h; simp [Try.f13] at h) ?_
  refine code_seq (fun K1 hK1 => ?_)
  refine code_region ?_
  refine list_cons rfl (op_q (q_assign rfl (by decide)) ?_)
  refine list_cons rfl (op_q (q_assign rfl (by decide)) ?_)
  refine list_nil ?_
  refine hK1 _ ?_; clear hK1 K1
  refine code_seq (fun K2 hK2 => ?_)
  refine code_seq (fun K3 hK3 => ?_)
  refine code_region ?_
  refine list_cons rfl (op_q (q_move rfl (by decide)) ?_)
  refine list_cons rfl (op_q (q_move rfl (by decide)) ?_)
  refine list_cons rfl (op_call _ (spec_l8Good _ _ (by first | omega | (simp; omega))) rfl rfl (by decide) (by decide) (by decide) rfl ?_)
  rintro _ rfl
  refine list_cons rfl (op_q (by first | exact q_notd rfl (by decide) | exact q_not rfl (by decide)) ?_)
  refine list_nil ?_
  refine hK3 _ ?_; clear hK3 K3
  refine codeT.imp (σ' := [(0, _), (1, _), (4, _), (5, _), (9, _)]) ?_ (imp_covers ⟨rfl, rfl, rfl, rfl, rfl, trivial⟩)
  refine code_cond_d rfl (fun h1 => ?_) (fun h1 => ?_)
  · skip
    (try simp only [Decidable.not_not] at h1)
    refine code_seq (fun K4 hK4 => ?_)
    refine code_region ?_
    refine list_cons rfl (op_buildSlice sl_33 (parts := []) rfl rfl rfl (by decide) (by decide) (by decide) rfl ?_)
    refine list_cons rfl (op_q (q_assign rfl (by decide)) ?_)
    refine list_cons rfl (op_q (q_assign rfl (by decide)) ?_)
    refine list_nil ?_
    refine hK4 _ ?_; clear hK4 K4
    refine code_ret ?_
    refine then_r ?_; clear hK2 K2
    refine ends_ret (cs := []) rfl rfl rfl rfl trivial ?_
    first | (simp only [if_neg h1, decide_eq_false h1]; rfl) | (simp only [if_pos h1, decide_eq_true h1]; done)
  (try simp only [Decidable.not_not] at h1)
  refine code_skip ?_
  refine hK2 _ ?_; clear hK2 K2
  refine code_seq (fun K5 hK5 => ?_)
  refine code_region ?_
  refine list_cons rfl (op_q (q_move rfl (by decide)) ?_)
  refine list_cons rfl (op_q (q_move rfl (by decide)) ?_)
  refine list_cons rfl (op_call _ (spec_l8Duty k fr h1) rfl rfl (by decide) (by decide) (by decide) rfl ?_)
  rintro _ rfl
  refine list_cons rfl (op_q (q_assign rfl (by decide)) ?_)
  refine list_cons rfl (op_q (q_assign rfl (by decide)) ?_)
  refine list_nil ?_
  refine hK5 _ ?_; clear hK5 K5
  refine codeT.imp (σ' := [(0, _), (1, _), (4, _), (5, _)]) ?_ (imp_covers ⟨rfl, rfl, rfl, rfl, trivial⟩)
  refine code_ret ?_
  refine ends_ret (cs := []) rfl rfl rfl rfl trivial ?_
  first | (simp only [if_neg h1, decide_eq_false h1]; rfl) | (simp only [if_pos h1, decide_eq_true h1]; done)
def an (a b : Int) : Int := ((a.toNat ^^^ (a.toNat &&& b.toNat) : Nat) : Int)
def flF (l : List Int) (c : Int) : Int := ((fulN l c l.length : Nat) : Int)
theorem flF_bd (l : List Int) (c : Int) : 0 ≤ flF l c ∧ flF l c ≤ 127 := by
  have := fulN_le l c l.length
  unfold flF; omega
theorem an_le (a b : Int) (h : 0 ≤ a ∧ a ≤ 127) : 0 ≤ an a b ∧ an a b ≤ 127 := by
  have h1 : a.toNat &&& b.toNat ≤ a.toNat := Nat.and_le_left
  have h2 := @Nat.xor_lt_two_pow a.toNat (a.toNat &&& b.toNat) 7 (by omega) (by omega)
  unfold an; omega
def lfK (l left : List Int) (c : Int) (m : Nat) : List Int := (List.range left.length).map fun x => if x < m ∧ bt c x then an (left.getD x 0) (flF l c) else left.getD x 0
theorem lfK_len (l left : List Int) (c : Int) (m : Nat) : (lfK l left c m).length = left.length := by simp [lfK]
theorem lfK_at {l left : List Int} {c : Int} {m x : Nat} (h : x < left.length) : (lfK l left c m).getD x 0 = if x < m ∧ bt c x then an (left.getD x 0) (flF l c) else left.getD x 0 := rng_at h
theorem lfK_bd {l left : List Int} {c : Int} {m : Nat} (hb : ∀ j, j < left.length → 0 ≤ left.getD j 0 ∧ left.getD j 0 ≤ 127) : ∀ j, j < (lfK l left c m).length → 0 ≤ (lfK l left c m).getD j 0 ∧ (lfK l left c m).getD j 0 ≤ 127 := fun j hj => by
  rw [lfK_len] at hj
  rw [lfK_at hj]
  have := hb j hj
  split
  · exact an_le _ _ this
  · exact this
theorem lfK_0 (l left : List Int) (c : Int) : left = lfK l left c 0 := by
  apply List.ext_getElem (by rw [lfK_len])
  intro j h1 h2
  simp [lfK, List.getD_eq_getElem?_getD, h1]
theorem lfK_no {l left : List Int} {c : Int} {m : Nat} (hb : ¬ bt c m) : lfK l left c m = lfK l left c (m + 1) := by
  unfold lfK
  apply List.map_congr_left
  intro x hx
  by_cases e : x < m
  · have e2 : x < m + 1 := by omega
    simp only [e, e2]
  · by_cases e2 : x = m
    · subst e2; rw [if_neg (fun z => hb z.2), if_neg (fun z => hb z.2)]
    · rw [if_neg (fun z => e z.1), if_neg (fun z => absurd z.1 (by omega))]
theorem lfK_put {l left : List Int} {c : Int} {m o : Nat} {v : Int} (h : m < left.length) (ho : o = m) (hb : bt c m) (hv : v = an ((lfK l left c m).getD m 0) (flF l c)) : putAt ((lfK l left c m).map (PV.int .i64)) (o * 1) [PV.int .i64 v] = (lfK l left c (m + 1)).map (PV.int .i64) := by
  subst ho
  rw [put_map1 (PV.int .i64) _ (by rw [lfK_len]; exact h)]
  congr 1
  rw [lfK_at h, if_neg (fun z => absurd z.1 (Nat.lt_irrefl _))] at hv
  have := rng_set (f := fun x => if x < o ∧ bt c x then an (left.getD x 0) (flF l c) else left.getD x 0) (g := fun x => if x < o + 1 ∧ bt c x then an (left.getD x 0) (flF l c) else left.getD x 0) h (fun j hj hne => by
    have e2 : j < o + 1 ↔ j < o := by omega
    simp only [e2])
  rw [if_pos (show o < o + 1 ∧ bt c o from ⟨by omega, hb⟩)] at this
  rw [hv]; unfold lfK; exact this
def AllZ (l : List Int) : Prop := ∀ j, j < l.length → l.getD j 0 = 0
instance (l : List Int) : Decidable (AllZ l) := by unfold AllZ; infer_instance
def fsI : List Int → Nat
  | [] => 0
  | x :: l => if x = 0 then fsI l + 1 else 0
theorem fsI_eq : ∀ {l : List Int} {i : Nat}, i < l.length → (∀ j, j < i → l.getD j 0 = 0) → l.getD i 0 ≠ 0 → fsI l = i
  | [], i, h, _, _ => absurd h (by simp)
  | x :: l, 0, _, _, h => by
    have h : x ≠ 0 := h
    rw [fsI, if_neg h]
  | x :: l, i + 1, h, h1, h2 => by
    have h3 : x = 0 := h1 0 (by omega)
    rw [fsI, if_pos h3, fsI_eq (i := i) (by simpa using h) (fun j hj => h1 (j + 1) (by omega)) h2]
def lbI (v : Nat) : Nat := if v % 2 = 1 then 0 else if v / 2 % 2 = 1 then 1 else if v / 4 % 2 = 1 then 2 else if v / 8 % 2 = 1 then 3 else if v / 16 % 2 = 1 then 4 else if v / 32 % 2 = 1 then 5 else 6
theorem bt_bit7 {v : Int} (h0 : 0 ≤ v) (h1 : v ≤ 127) (x : Nat) : bt v x ↔ v.toNat / 2 ^ x % 2 = 1 := by
  unfold bt
  have h : shN v.toNat x ≤ 127 := by
    unfold shN
    have := Nat.div_le_self v.toNat (p2 x); omega
  have e : iand .i64 ((shN v.toNat x : Nat) : Int) 1 = ((shN v.toNat x &&& 1 : Nat) : Int) := iand_nat _ 1 (by omega) (by omega)
  rw [e, Nat.and_one_is_mod]
  unfold shN p2; omega
theorem btz {v : Int} (h0 : 0 ≤ v) (h1 : v ≤ 127) {x : Nat} : iand .i64 ((shN v.toNat x : Nat) : Int) 1 = 0 ↔ ¬ bt v x := by
  have h : shN v.toNat x ≤ 127 := by
    unfold shN
    have := Nat.div_le_self v.toNat (p2 x); omega
  have e : iand .i64 ((shN v.toNat x : Nat) : Int) 1 = ((shN v.toNat x &&& 1 : Nat) : Int) := iand_nat _ 1 (by omega) (by omega)
  unfold bt
  rw [e, Nat.and_one_is_mod]; omega
theorem lbI_eq {v : Int} (h0 : 0 ≤ v) (h1 : v ≤ 127) {b : Nat} (hb : b < 7) (hz : ∀ j, j < b → ¬ bt v j) (hy : bt v b) : lbI v.toNat = b := by
  have hz' := fun j hj => mt (bt_bit7 h0 h1 j).2 (hz j hj)
  have hy' := (bt_bit7 h0 h1 b).1 hy
  unfold lbI
  rcases (show b = 0 ∨ b = 1 ∨ b = 2 ∨ b = 3 ∨ b = 4 ∨ b = 5 ∨ b = 6 by omega) with rfl | rfl | rfl | rfl | rfl | rfl | rfl
  all_goals
    (try have z0 := hz' 0 (by omega)); (try have z1 := hz' 1 (by omega)); (try have z2 := hz' 2 (by omega)); (try have z3 := hz' 3 (by omega)); (try have z4 := hz' 4 (by omega)); (try have z5 := hz' 5 (by omega))
    simp only [Nat.reducePow, Nat.div_one] at *
    simp_all
theorem bit_ex {v : Int} (h0 : 0 ≤ v) (h1 : v ≤ 127) (hz : ∀ j, j < 7 → ¬ bt v j) : v = 0 := by
  have hz' := fun j hj => mt (bt_bit7 h0 h1 j).2 (hz j hj)
  have z0 := hz' 0 (by omega); have z1 := hz' 1 (by omega); have z2 := hz' 2 (by omega); have z3 := hz' 3 (by omega); have z4 := hz' 4 (by omega); have z5 := hz' 5 (by omega); have z6 := hz' 6 (by omega)
  simp only [Nat.reducePow] at *
  omega
def Whl (l : List Int) (c : Int) (b : Int) : Prop := ∀ i, i < l.length → ¬ bt c i → (((l.getD i 0).toNat &&& b.toNat : Nat) : Int) ≠ b
instance (l : List Int) (c b : Int) : Decidable (Whl l c b) := by unfold Whl; infer_instance
def Cnd (l left : List Int) (c : Nat) : Prop := 1 ≤ c ∧ bt (c : Int) (fsI left) ∧ bt (flF l c) (lbI (left.getD (fsI left) 0).toNat) ∧ Whl l c (flF l c)
instance (l left : List Int) (c : Nat) : Decidable (Cnd l left c) := by unfold Cnd; infer_instance
def Cov (l : List Int) : Nat → List Int → Prop
  | 0, left => AllZ left
  | n + 1, left => AllZ left ∨ ∃ c : Nat, c < p2 l.length ∧ Cnd l left c ∧ Cov l n (lfK l left c left.length)
theorem cov_z {l left : List Int} (h : AllZ left) : ∀ n, Cov l n left
  | 0 => h
  | n + 1 => .inl h
theorem cov_iff {l left : List Int} {n : Nat} (h : 0 < n) : Cov l n left ↔ AllZ left ∨ ∃ c : Nat, c < p2 l.length ∧ Cnd l left c ∧ Cov l (n - 1) (lfK l left c left.length) := by
  obtain ⟨m, rfl⟩ : ∃ m, n = m + 1 := ⟨n - 1, by omega⟩
  exact Iff.rfl
instance covDec (l : List Int) : ∀ (n : Nat) (left : List Int), Decidable (Cov l n left)
  | 0, left => inferInstanceAs (Decidable (AllZ left))
  | n + 1, left => by
    have := covDec l n
    unfold Cov; infer_instance
def nzC : List Int → Nat
  | [] => 0
  | x :: l => if x = 0 then nzC l else nzC l + 1
theorem nzC_len : ∀ l : List Int, nzC l ≤ l.length
  | [] => Nat.le_refl _
  | x :: l => by
    have := nzC_len l
    unfold nzC
    rw [List.length_cons]
    split <;> omega
theorem nzC_z : ∀ {l : List Int}, nzC l = 0 → AllZ l
  | [], _ => fun j hj => absurd hj (by simp)
  | x :: l, h => by
    unfold nzC at h
    split at h
    · rename_i hx
      intro j hj
      cases j with
      | zero => exact hx
      | succ j => exact nzC_z h j (by simpa using hj)
    · omega
theorem nzC_lt : ∀ {a b : List Int}, a.length = b.length → (∀ j, j < a.length → b.getD j 0 = 0 → a.getD j 0 = 0) → ∀ {i : Nat}, i < a.length → b.getD i 0 ≠ 0 → a.getD i 0 = 0 → nzC a < nzC b
  | [], _, _, _, i, hi, _, _ => absurd hi (by simp)
  | _ :: _, [], h, _, _, _, _, _ => by simp at h
  | x :: a, y :: b, h, hz, i, hi, h1, h2 => by
    have hle : ∀ {a b : List Int}, a.length = b.length → (∀ j, j < a.length → b.getD j 0 = 0 → a.getD j 0 = 0) → nzC a ≤ nzC b := by
      intro a
      induction a with
      | nil => intro b _ _; exact Nat.zero_le _
      | cons x a ih =>
        intro b h hz
        cases b with
        | nil => simp at h
        | cons y b =>
          have h3 := ih (b := b) (by simpa using h) (fun j hj hb => hz (j + 1) (by simpa using hj) hb)
          have h4 := hz 0 (by simp)
          have h4 : y = 0 → x = 0 := h4
          unfold nzC
          by_cases hy : y = 0
          · rw [if_pos hy, if_pos (h4 hy)]; exact h3
          · rw [if_neg hy]; split <;> omega
    have h4 : y = 0 → x = 0 := hz 0 (by simp)
    have hzt : ∀ j, j < a.length → b.getD j 0 = 0 → a.getD j 0 = 0 := fun j hj hb => hz (j + 1) (by simpa using hj) hb
    have hlt : a.length = b.length := by simpa using h
    unfold nzC
    cases i with
    | zero =>
      have h1 : y ≠ 0 := h1
      have h2 : x = 0 := h2
      have := hle hlt hzt
      rw [if_pos h2, if_neg h1]; omega
    | succ i =>
      have ih := nzC_lt hlt hzt (i := i) (by simpa using hi) h1 h2
      by_cases hy : y = 0
      · rw [if_pos hy, if_pos (h4 hy)]; exact ih
      · rw [if_neg hy]; split <;> omega
def Sub (l left : List Int) : Prop := ∀ j, j < left.length → (left.getD j 0).toNat &&& (l.getD j 0).toNat = (left.getD j 0).toNat
def csN (l : List Int) (b : Nat) : Nat → Nat
  | 0 => 0
  | i + 1 => if (l.getD i 0).toNat &&& b = b then csN l b i + p2 i else csN l b i
theorem csN_lt (l : List Int) (b : Nat) : ∀ i, csN l b i < p2 i
  | 0 => by simp [csN, p2]
  | i + 1 => by
    have := csN_lt l b i
    have e : p2 (i + 1) = 2 * p2 i := by unfold p2; rw [Nat.pow_succ]; omega
    unfold csN; split <;> omega
theorem csN_bt (l : List Int) (b : Nat) : ∀ i, i ≤ 6 → ∀ x, bt ((csN l b i : Nat) : Int) x ↔ x < i ∧ (l.getD x 0).toNat &&& b = b
  | 0, _, x => by
    constructor
    · intro h
      have := (bt_bit7 (v := ((csN l b 0 : Nat) : Int)) (by omega) (by simp [csN]) x).1 h
      simp [csN] at this
    · intro h; exact absurd h.1 (by omega)
  | i + 1, h6, x => by
    have ih := csN_bt l b i (by omega) x
    have hl := csN_lt l b i
    have hl2 := csN_lt l b (i + 1)
    have hp : p2 i ≤ 32 := Nat.pow_le_pow_right (show 0 < 2 by omega) (show i ≤ 5 by omega)
    have e : p2 (i + 1) = 2 * p2 i := by unfold p2; rw [Nat.pow_succ]; omega
    have b1 := bt_bit7 (v := ((csN l b i : Nat) : Int)) (by omega) (by omega) x
    have b2 := bt_bit7 (v := ((csN l b (i + 1) : Nat) : Int)) (by omega) (by omega) x
    rw [Int.toNat_natCast] at b1 b2
    rw [b2]
    rw [b1] at ih
    unfold csN
    by_cases hb : (l.getD i 0).toNat &&& b = b
    · rw [if_pos hb]
      rcases Nat.lt_trichotomy x i with k | k | k
      · have e2 : (csN l b i + p2 i) / 2 ^ x % 2 = csN l b i / 2 ^ x % 2 := by
          have : p2 i = 2 ^ x * (2 * 2 ^ (i - x - 1)) := by
            unfold p2
            rw [← Nat.mul_assoc, Nat.mul_comm _ 2, Nat.mul_assoc, ← Nat.pow_add]
            rw [show 2 * 2 ^ (x + (i - x - 1)) = 2 ^ (x + (i - x - 1) + 1) by rw [Nat.pow_succ]; omega]
            congr 1; omega
          rw [this, Nat.add_mul_div_left _ _ (Nat.pow_pos (by omega)), Nat.add_mul_mod_self_left]
        rw [e2, ih]
        exact ⟨fun z => ⟨by omega, z.2⟩, fun z => ⟨k, z.2⟩⟩
      · subst k
        have e2 : (csN l b x + p2 x) / 2 ^ x = 1 := by
          unfold p2 at hl ⊢
          rw [Nat.add_div_right _ (Nat.pow_pos (by omega)), Nat.div_eq_of_lt hl]
        rw [e2]
        exact ⟨fun _ => ⟨by omega, hb⟩, fun _ => rfl⟩
      · have e2 : (csN l b i + p2 i) / 2 ^ x = 0 := by
          apply Nat.div_eq_of_lt
          have h7 : 2 ^ (i + 1) ≤ 2 ^ x := Nat.pow_le_pow_right (by omega) (by omega)
          unfold p2 at *
          omega
        rw [e2]
        exact ⟨fun z => absurd z (by omega), fun z => absurd z.1 (by omega)⟩
    · rw [if_neg hb, ih]
      constructor
      · exact fun z => ⟨by omega, z.2⟩
      · intro z
        have : x ≠ i := fun e => by subst e; exact hb z.2
        exact ⟨by omega, z.2⟩
theorem and_abs {a b c : Nat} (h1 : a &&& c = c) (h2 : b &&& c = c) : (a &&& b) &&& c = c := by rw [Nat.and_assoc, h2, h1]
theorem fulN_sup {l : List Int} {c : Int} {b : Nat} (hb : b ≤ 127) : ∀ i, (∀ x, x < i → bt c x → (l.getD x 0).toNat &&& b = b) → fulN l c i &&& b = b
  | 0, _ => by
    have key : ∀ b : Fin 128, 127 &&& b.val = b.val := by decide +kernel
    exact key ⟨b, by omega⟩
  | i + 1, h => by
    have ih := fulN_sup hb i fun x hx => h x (by omega)
    unfold fulN
    split
    · rename_i hc
      exact and_abs ih (h i (by omega) hc)
    · exact ih
theorem fulN_sub {l : List Int} {c : Int} : ∀ {i x : Nat}, x < i → bt c x → fulN l c i &&& (l.getD x 0).toNat = fulN l c i
  | 0, _, h, _ => absurd h (by omega)
  | i + 1, x, h, hb => by
    unfold fulN
    by_cases e : x = i
    · subst e; rw [if_pos hb, Nat.and_assoc, Nat.and_self]
    · have ih := fulN_sub (l := l) (i := i) (x := x) (by omega) hb
      split
      · rw [Nat.and_assoc, Nat.and_comm (l.getD i 0).toNat, ← Nat.and_assoc, ih]
      · exact ih
theorem and_anti {a b : Nat} (h1 : a &&& b = a) (h2 : b &&& a = b) : a = b := by rw [← h1, Nat.and_comm, h2]
theorem bt_and {a b : Int} (ha : 0 ≤ a ∧ a ≤ 127) (hb : 0 ≤ b ∧ b ≤ 127) (h : a.toNat &&& b.toNat = a.toNat) {x : Nat} (hx : x < 7) (hbt : bt a x) : bt b x := by
  have key : ∀ a b : Fin 128, ∀ x : Fin 7, a.val &&& b.val = a.val → a.val / 2 ^ x.val % 2 = 1 → b.val / 2 ^ x.val % 2 = 1 := by decide +kernel
  exact (bt_bit7 hb.1 hb.2 x).2 (key ⟨a.toNat, by omega⟩ ⟨b.toNat, by omega⟩ ⟨x, hx⟩ h ((bt_bit7 ha.1 ha.2 x).1 hbt))
theorem lb_bt {v : Int} (h0 : 0 < v) (h1 : v ≤ 127) : lbI v.toNat < 7 ∧ bt v (lbI v.toNat) := by
  have key : ∀ v : Fin 128, v.val ≠ 0 → lbI v.val < 7 ∧ v.val / 2 ^ lbI v.val % 2 = 1 := by decide +kernel
  have h := key ⟨v.toNat, by omega⟩ (by show v.toNat ≠ 0; omega)
  exact ⟨h.1, (bt_bit7 (by omega) h1 _).2 h.2⟩
theorem fs_ok : ∀ {l : List Int}, ¬ AllZ l → fsI l < l.length ∧ l.getD (fsI l) 0 ≠ 0 ∧ ∀ j, j < fsI l → l.getD j 0 = 0
  | [], h => absurd (fun j hj => absurd hj (by simp)) h
  | x :: l, h => by
    by_cases hx : x = 0
    · have ih := fs_ok (l := l) fun z => h fun j hj => by
        cases j with
        | zero => exact hx
        | succ j => exact z j (by simpa using hj)
      have e : fsI (x :: l) = fsI l + 1 := by rw [fsI, if_pos hx]
      rw [e]
      exact ⟨by simp only [List.length_cons]; omega, ih.2.1, fun j hj => by
        cases j with
        | zero => exact hx
        | succ j => exact ih.2.2 j (by omega)⟩
    · have e : fsI (x :: l) = 0 := by rw [fsI, if_neg hx]
      rw [e]
      exact ⟨by simp, hx, fun j hj => absurd hj (by omega)⟩
theorem an_sub {a b c : Int} (ha : 0 ≤ a ∧ a ≤ 127) (hb : 0 ≤ b ∧ b ≤ 127) (h : a.toNat &&& b.toNat = a.toNat) : (an a c).toNat &&& b.toNat = (an a c).toNat := by
  unfold an
  rw [Int.toNat_natCast]
  apply Nat.eq_of_testBit_eq
  intro i
  have := congrArg (fun z => z.testBit i) h
  simp only [Nat.testBit_and, Nat.testBit_xor] at this ⊢
  cases h1 : a.toNat.testBit i <;> cases h2 : b.toNat.testBit i <;> simp_all
theorem an_z {a c : Int} (h : a.toNat &&& c.toNat = a.toNat) : an a c = 0 := by
  unfold an; rw [h, Nat.xor_self]; rfl
theorem an_0 {c : Int} : an 0 c = 0 := by
  unfold an; simp
theorem cov_ex {l : List Int} (hl : RowP l) : ∀ (n : Nat) (left : List Int), left.length = l.length → (∀ j, j < left.length → 0 ≤ left.getD j 0 ∧ left.getD j 0 ≤ 127) → Sub l left → nzC left ≤ n → Cov l n left
  | 0, left, _, _, _, h => nzC_z (by omega)
  | n + 1, left, hL, hb, hs, h => by
    by_cases hz : AllZ left
    · exact .inl hz
    · obtain ⟨f1, f2, f3⟩ := fs_ok hz
      refine .inr ?_
      have h6 := hl.1
      have hlf := hl.at (j := fsI left) (by omega)
      have hbf := hb _ f1
      have hB : (l.getD (fsI left) 0).toNat ≤ 127 := by omega
      have hbt := csN_bt l (l.getD (fsI left) 0).toNat l.length h6
      have hbtf : bt ((csN l (l.getD (fsI left) 0).toNat l.length : Nat) : Int) (fsI left) := (hbt _).2 ⟨by omega, Nat.and_self _⟩
      have hful : fulN l ((csN l (l.getD (fsI left) 0).toNat l.length : Nat) : Int) l.length = (l.getD (fsI left) 0).toNat := by
        refine and_anti (fulN_sub (by omega) hbtf) ?_
        rw [Nat.and_comm]
        exact fulN_sup hB l.length fun x hx hx2 => ((hbt x).1 hx2).2
      have hF : flF l ((csN l (l.getD (fsI left) 0).toNat l.length : Nat) : Int) = l.getD (fsI left) 0 := by
        unfold flF; rw [hful]; omega
      obtain ⟨k1, k2⟩ := lb_bt (v := left.getD (fsI left) 0) (by omega) (by omega)
      refine ⟨csN l (l.getD (fsI left) 0).toNat l.length, csN_lt _ _ _, ⟨?_, hbtf, ?_, ?_⟩, ?_⟩
      · by_cases e : csN l (l.getD (fsI left) 0).toNat l.length = 0
        · rw [e] at hbtf
          have := (bt_bit7 (v := ((0 : Nat) : Int)) (by omega) (by omega) _).1 hbtf
          simp at this
        · omega
      · rw [hF]
        exact bt_and hbf hlf (hs _ f1) k1 k2
      · intro i hi hni
        rw [hF]
        intro e
        exact hni ((hbt i).2 ⟨hi, by omega⟩)
      · have hat : ∀ x, x < left.length → (lfK l left ((csN l (l.getD (fsI left) 0).toNat l.length : Nat) : Int) left.length).getD x 0 = if bt ((csN l (l.getD (fsI left) 0).toNat l.length : Nat) : Int) x then an (left.getD x 0) (l.getD (fsI left) 0) else left.getD x 0 := fun x hx => by
          rw [lfK_at hx, hF]
          by_cases hbx : bt ((csN l (l.getD (fsI left) 0).toNat l.length : Nat) : Int) x
          · rw [if_pos ⟨hx, hbx⟩, if_pos hbx]
          · rw [if_neg (fun z => hbx z.2), if_neg hbx]
        refine cov_ex hl n _ (by rw [lfK_len]; exact hL) (lfK_bd hb) ?_ ?_
        · intro j hj
          rw [lfK_len] at hj
          rw [hat j hj]
          split
          · exact an_sub (hb j hj) (hl.at (by omega)) (hs j hj)
          · exact hs j hj
        · have := nzC_lt (a := lfK l left ((csN l (l.getD (fsI left) 0).toNat l.length : Nat) : Int) left.length) (b := left) (lfK_len _ _ _ _) (fun j hj e => by
            rw [lfK_len] at hj
            rw [hat j hj, e]
            split
            · exact an_0
            · rfl) (i := fsI left) (by rw [lfK_len]; exact f1) f2 (by
            rw [hat _ f1, if_pos hbtf]
            exact an_z (hs _ f1))
          omega
theorem cov_all {l : List Int} (hl : RowP l) : Cov l (nzC l) l := cov_ex hl _ l rfl (fun j hj => hl.at hj) (fun j _ => Nat.and_self _) (Nat.le_refl _)
set_option maxRecDepth 4000 in
theorem spec_l1Own8 (l : List Int) (hl : l.length ≤ 1000) : PCalls Try.prog 97 [.sl l.length (l.map (.int .i64))] (· = [.own 0 3 1 (l).length ((l).map (.int .i64))]) := by
  refine pcalls_of_code (n := 6) az Try.func97 (by kernel_rfl) rfl rfl (Nat.le_of_ble_eq_true rfl) (by intro t u h; simp [Try.f97] at h) ?_
  refine code_seq (fun K1 hK1 => ?_)
  refine code_region ?_
  refine list_cons rfl (op_q (q_assign rfl (by decide)) ?_)
  refine list_nil ?_
  refine hK1 _ ?_; clear hK1 K1
  refine code_seq (fun K2 hK2 => ?_)
  refine code_region ?_
  refine list_cons rfl (op_buildSlice sl_27 (parts := []) rfl rfl rfl (by decide) (by decide) (by decide) rfl ?_)
  refine list_cons rfl (op_q (q_move rfl (by decide)) ?_)
  refine list_cons rfl (op_append_gen sl_27 (l := 3) (.inl rfl) rfl rfl (l2 := none) (.inl ⟨rfl, (by first | rfl | exact flat_map _ (fun _ => rfl) _)⟩) (by first | rfl | simp | omega) (by omega) (by decide) (by decide) (by decide) ?_)
  refine list_cons rfl (op_q (q_assign rfl (by decide)) ?_)
  refine list_nil ?_
  refine hK2 _ ?_; clear hK2 K2
  refine codeT.imp (σ' := [(0, _), (2, _)]) ?_ (imp_covers ⟨rfl, rfl, trivial⟩)
  refine code_ret ?_
  refine ends_ret (cs := []) rfl rfl rfl rfl trivial ?_
  first | rfl | (rw [show zeros [PV.int IntKind.i64 0] 0 = [] from rfl, List.nil_append, Nat.zero_add])
set_option maxRecDepth 8000 in
set_option maxHeartbeats 4000000 in
theorem spec_l8Whole (l : List Int) (c b : Int) (hl : RowP l) (hc : 0 ≤ c ∧ c ≤ 63) (hb : 0 ≤ b ∧ b ≤ 127) : PCalls Try.prog 96 [.sl l.length (l.map (.int .i64)), .int .i64 c, .int .i64 b] (· = [.val (.bool (decide (Whl l c b)))]) := by
  refine pcalls_of_code (n := 29) az Try.func96 (by kernel_rfl) rfl rfl (Nat.le_of_ble_eq_true rfl) (by intro t u h; simp [Try.f96] at h) ?_
  have h6 := hl.1
  refine code_seq (fun K1 hK1 => ?_)
  refine code_region ?_
  refine list_cons rfl (op_q (q_assign rfl (by decide)) ?_)
  refine list_nil ?_
  refine hK1 _ ?_; clear hK1 K1
  refine code_seq (fun K2 hK2 => ?_)
  refine code_seq (fun K3 hK3 => ?_)
  refine code_region ?_
  refine list_cons rfl (op_q (q_assign rfl (by decide)) ?_)
  refine list_nil ?_
  refine hK3 _ ?_; clear hK3 K3
  refine code_block ?_
  refine code_loop (X := Bool × Int) (fun x => [(0, .par 0 (.sl l.length (l.map (.int .i64)))), (1, .val (.int .i64 c)), (2, .val (.int .i64 b)), (6, .val (.bool x.1)), (7, .val (.int .i64 x.2))]) (fun x => 0 ≤ x.2 ∧ x.2 ≤ l.length ∧ ∀ j, j < x.2.toNat → ¬ bt c j → (((l.getD j 0).toNat &&& b.toNat : Nat) : Int) ≠ b) (fun x => (l.length - x.2).toNat) (_, _) (imp_covers ⟨rfl, rfl, rfl, rfl, rfl, trivial⟩) ?_ ?_
  · (try dsimp only)
    exact ⟨by omega, by omega, fun j hj => by simp at hj⟩
  · intro x hI
    obtain ⟨t6, i⟩ := x
    replace hI : 0 ≤ i ∧ i ≤ l.length ∧ ∀ j, j < i.toNat → ¬ bt c j → (((l.getD j 0).toNat &&& b.toNat : Nat) : Int) ≠ b := hI
    show codeT _ _ _ [(0, .par 0 (.sl l.length (l.map (.int .i64)))), (1, .val (.int .i64 c)), (2, .val (.int .i64 b)), (6, .val (.bool t6)), (7, .val (.int .i64 i))] _
    obtain ⟨i1, i2, hw⟩ := hI
    have hg := fun h : i.toNat < l.length => hl.at h
    have hz := btz (v := c) (x := i.toNat) (by omega) (by omega)
    refine code_seq (fun K4 hK4 => ?_)
    refine code_seq (fun K5 hK5 => ?_)
    refine code_region ?_
    refine list_cons rfl (op_q (q_move rfl (by decide)) ?_)
    refine list_cons rfl (op_q (q_move rfl (by decide)) ?_)
    refine list_cons rfl (op_q (q_len_sl Try.underlying27 rfl rfl (by decide)) ?_)
    refine list_cons rfl (op_q (q_lt rfl rfl (by decide)) ?_)
    refine list_nil ?_
    refine hK5 _ ?_; clear hK5 K5
    refine code_cond_d rfl (fun h1 => ?_) (fun h1 => ?_)
    · skip
      (try simp only [Decidable.not_not] at h1)
      refine code_skip ?_
      refine hK4 _ ?_; clear hK4 K4
      refine code_seq (fun K6 hK6 => ?_)
      refine code_block ?_
      refine code_seq (fun K7 hK7 => ?_)
      refine code_region ?_
      refine list_cons rfl (op_q (q_move rfl (by decide)) ?_)
      refine list_cons rfl (op_q (q_move rfl (by decide)) ?_)
      refine list_cons rfl (op_q (by first | exact q_shrN rfl rfl (by decide) (by omega) (by omega) (by omega) | exact q_shrI rfl rfl (by decide) (by omega) (by omega) (by omega) | exact q_shr rfl rfl (by omega) (by decide)) ?_)
      refine list_cons rfl (op_q (by first | exact q_andI rfl rfl (by decide) (by omega) (by omega) (by omega) (by omega) | exact q_ib rfl rfl rfl (by decide)) ?_)
      refine list_cons rfl (op_q (q_eq rfl rfl (by decide)) ?_)
      refine list_cons rfl (op_q (q_move rfl (by decide)) ?_)
      refine list_guard_d rfl rfl rfl rfl (by decide) rfl (by decide) (fun h2 => ?_) (fun h2 => ?_)
      · simp only [Bool.false_eq_true, if_true, if_false, Decidable.not_not] at h2
        refine id (op_q (q_move rfl (by decide)) ?_)
        refine list_guard_y rfl rfl rfl rfl (by decide) rfl ?_
        refine id (op_q (q_move rfl (by decide)) ?_)
        refine list_guard_y rfl rfl rfl rfl (by decide) rfl ?_
        refine id (op_q (q_indexAddr_rd sl_27 rfl (.inl ⟨_, rfl, rfl⟩) rfl (by omega) (by omega) (by decide)) ?_)
        refine list_guard_y rfl rfl rfl rfl (by decide) rfl ?_
        refine id (op_q (q_load_rd one_3 rfl (.inl ⟨_, (by first | rfl | exact congrArg (SV.rpar _) (drop_map1 _ 0 _ (by first | omega | (simp; omega)))), rfl⟩) (by decide)) ?_)
        refine list_guard_y rfl rfl rfl rfl (by decide) rfl ?_
        refine id (op_q (q_move rfl (by decide)) ?_)
        refine list_guard_y rfl rfl rfl rfl (by decide) rfl ?_
        refine id (op_q (by first | exact q_andI rfl rfl (by decide) (by omega) (by omega) (by omega) (by omega) | exact q_ib rfl rfl rfl (by decide)) ?_)
        refine list_guard_y rfl rfl rfl rfl (by decide) rfl ?_
        refine id (op_q (q_move rfl (by decide)) ?_)
        refine list_guard_y rfl rfl rfl rfl (by decide) rfl ?_
        refine id (op_q (q_eq rfl rfl (by decide)) ?_)
        refine list_cons rfl (op_q (q_pick rfl rfl (by decide)) ?_)
        refine list_nil ?_
        refine hK7 _ ?_; clear hK7 K7
        refine codeT.imp (σ' := [(0, _), (1, _), (2, _), (6, _), (7, _), (28, _)]) ?_ (imp_covers ⟨rfl, rfl, rfl, rfl, rfl, rfl, trivial⟩)
        refine code_cond_d rfl (fun h3 => ?_) (fun h3 => ?_)
        · skip
          (try simp only [Decidable.not_not] at h3)
          refine code_seq (fun K8 hK8 => ?_)
          refine code_region ?_
          refine list_cons rfl (op_q (q_assign rfl (by decide)) ?_)
          refine list_nil ?_
          refine hK8 _ ?_; clear hK8 K8
          refine code_ret ?_
          refine blk_r ?_
          refine then_r ?_; clear hK6 K6
          refine then_r ?_
          refine blk_r ?_
          refine then_r ?_; clear hK2 K2
          refine ends_ret (cs := []) rfl rfl rfl rfl trivial ?_
          first
            | (rw [decide_eq_true (show Whl l c b from fun j hj => hw j (by omega))]; done)
            | (rw [decide_eq_false (fun z : Whl l c b => z i.toNat (by omega) (hz.1 (by assumption)) (by assumption))]; done)
        (try simp only [Decidable.not_not] at h3)
        refine code_skip ?_
        refine blk_n ?_
        refine hK6 _ ?_; clear hK6 K6
        refine code_region ?_
        refine list_cons rfl (op_q (q_move rfl (by decide)) ?_)
        refine list_cons rfl (op_q (by first | exact q_addI rfl rfl (by decide) (by omega) (by omega) | exact q_ib rfl rfl rfl (by decide)) ?_)
        refine list_cons rfl (op_q (q_assign rfl (by decide)) ?_)
        refine list_nil ?_
        refine then_n ⟨(_, _), imp_covers ⟨rfl, rfl, rfl, rfl, rfl, trivial⟩, ?_, ?_⟩
        · (try dsimp only)
          exact ⟨by omega, by omega, fun j hj hnb => by
            by_cases e : j = i.toNat
            · subst e; first | assumption | exact absurd (hz.2 hnb) (by assumption)
            · exact hw j (by omega) hnb⟩
        · (try dsimp only); omega
      simp only [Bool.false_eq_true, if_true, if_false, Decidable.not_not] at h2
      refine list_guard_nT rfl rfl rfl rfl (by decide) (by decide) ?_
      refine list_guard_nT rfl rfl rfl rfl (by decide) (by decide) ?_
      refine list_guard_nT rfl rfl rfl rfl (by decide) (by decide) ?_
      refine list_guard_nT rfl rfl rfl rfl (by decide) (by decide) ?_
      refine list_guard_nT rfl rfl rfl rfl (by decide) (by decide) ?_
      refine list_guard_nT rfl rfl rfl rfl (by decide) (by decide) ?_
      refine list_guard_nT rfl rfl rfl rfl (by decide) (by decide) ?_
      refine list_cons rfl (op_q (q_pick rfl rfl (by decide)) ?_)
      refine list_nil ?_
      refine hK7 _ ?_; clear hK7 K7
      refine codeT.imp (σ' := [(0, _), (1, _), (2, _), (6, _), (7, _), (28, _)]) ?_ (imp_covers ⟨rfl, rfl, rfl, rfl, rfl, rfl, trivial⟩)
      refine code_cond_f rfl ?_
      refine code_skip ?_
      refine blk_n ?_
      refine hK6 _ ?_; clear hK6 K6
      refine code_region ?_
      refine list_cons rfl (op_q (q_move rfl (by decide)) ?_)
      refine list_cons rfl (op_q (by first | exact q_addI rfl rfl (by decide) (by omega) (by omega) | exact q_ib rfl rfl rfl (by decide)) ?_)
      refine list_cons rfl (op_q (q_assign rfl (by decide)) ?_)
      refine list_nil ?_
      refine then_n ⟨(_, _), imp_covers ⟨rfl, rfl, rfl, rfl, rfl, trivial⟩, ?_, ?_⟩
      · (try dsimp only)
        exact ⟨by omega, by omega, fun j hj hnb => by
          by_cases e : j = i.toNat
          · subst e; first | assumption | exact absurd (hz.2 hnb) (by assumption)
          · exact hw j (by omega) hnb⟩
      · (try dsimp only); omega
    (try simp only [Decidable.not_not] at h1)
    refine code_exit ?_
    refine then_x ?_; clear hK4 K4
    refine then_x ?_
    refine blk_hit ?_
    refine hK2 _ ?_; clear hK2 K2
    refine code_seq (fun K9 hK9 => ?_)
    refine code_region ?_
    refine list_cons rfl (op_q (q_assign rfl (by decide)) ?_)
    refine list_nil ?_
    refine hK9 _ ?_; clear hK9 K9
    refine code_ret ?_
    refine ends_ret (cs := []) rfl rfl rfl rfl trivial ?_
    first
      | (rw [decide_eq_true (show Whl l c b from fun j hj => hw j (by omega))]; done)
      | (rw [decide_eq_false (fun z : Whl l c b => z i.toNat (by omega) (hz.1 (by assumption)) (by assumption))]; done)
set_option maxRecDepth 8000 in
set_option maxHeartbeats 4000000 in
theorem spec_l8CovStep (l left : List Int) (n : Nat) (hn : n ≤ 1000) (hl : RowP l) (hp : 0 < l.length) (hL : left.length = l.length) (hb : ∀ j, j < left.length → 0 ≤ left.getD j 0 ∧ left.getD j 0 ≤ 127) (IH : ∀ (m : Nat) (left2 : List Int) (x : Int) (k : Nat) (cs : List PV), m + 1 = n → x = m → k = left2.length → cs = left2.map (.int .i64) → left2.length = l.length → (∀ j, j < left2.length → 0 ≤ left2.getD j 0 ∧ left2.getD j 0 ≤ 127) → PCalls Try.prog 66 [.sl l.length (l.map (.int .i64)), .sl k cs, .int .i64 x] (· = [.val (.bool (decide (Cov l m left2)))])) : PCalls Try.prog 66 [.sl l.length (l.map (.int .i64)), .sl left.length (left.map (.int .i64)), .int .i64 n] (· = [.val (.bool (decide (Cov l n left)))]) := by
  refine pcalls_of_code (n := 98) az Try.func66 (by kernel_rfl) rfl rfl (Nat.le_of_ble_eq_true rfl) (by intro t u h; simp [Try.f66] at h) ?_
  have h6 := hl.1
  have hp2 := p2_le6 (k := (l.length : Int)) (by omega)
  have hpe : p2 (l.length : Int).toNat = p2 l.length := by rw [Int.toNat_natCast]
  refine code_seq (fun K1 hK1 => ?_)
  refine code_region ?_
  refine list_cons rfl (op_q (q_assign rfl (by decide)) ?_)
  refine list_nil ?_
  refine hK1 _ ?_; clear hK1 K1
  refine code_seq (fun K2 hK2 => ?_)
  refine code_region ?_
  refine list_cons rfl (op_q (q_assign rfl (by decide)) ?_)
  refine list_nil ?_
  refine hK2 _ ?_; clear hK2 K2
  refine code_seq (fun K3 hK3 => ?_)
  refine code_block ?_
  refine code_loop (X := Bool × Int) (fun x => [(0, .par 0 (.sl l.length (l.map (.int .i64)))), (1, .par 1 (.sl left.length (left.map (.int .i64)))), (2, .val (.int .i64 n)), (6, .val (.bool x.1)), (7, .val (.int .i64 x.2))]) (fun x => 0 ≤ x.2 ∧ x.2 ≤ left.length ∧ ∀ j, j < x.2.toNat → left.getD j 0 = 0) (fun x => (left.length - x.2).toNat) (_, _) (imp_covers ⟨rfl, rfl, rfl, rfl, rfl, trivial⟩) ?_ ?_
  · (try dsimp only)
    exact ⟨by omega, by omega, fun j hj => by simp at hj⟩
  · intro x hI
    obtain ⟨t6, first⟩ := x
    replace hI : 0 ≤ first ∧ first ≤ left.length ∧ ∀ j, j < first.toNat → left.getD j 0 = 0 := hI
    show codeT _ _ _ [(0, .par 0 (.sl l.length (l.map (.int .i64)))), (1, .par 1 (.sl left.length (left.map (.int .i64)))), (2, .val (.int .i64 n)), (6, .val (.bool t6)), (7, .val (.int .i64 first))] _
    obtain ⟨f1, f2, hf⟩ := hI
    have hbf := fun h : first.toNat < left.length => hb _ h
    refine code_seq (fun K4 hK4 => ?_)
    refine code_seq (fun K5 hK5 => ?_)
    refine code_region ?_
    refine list_cons rfl (op_q (q_move rfl (by decide)) ?_)
    refine list_cons rfl (op_q (q_move rfl (by decide)) ?_)
    refine list_cons rfl (op_q (q_len_sl Try.underlying27 rfl rfl (by decide)) ?_)
    refine list_cons rfl (op_q (q_lt rfl rfl (by decide)) ?_)
    refine list_cons rfl (op_q (q_move rfl (by decide)) ?_)
    refine list_guard_d rfl rfl rfl rfl (by decide) rfl (by decide) (fun h1 => ?_) (fun h1 => ?_)
    · simp only [Bool.false_eq_true, if_true, if_false, Decidable.not_not] at h1
      refine id (op_q (q_move rfl (by decide)) ?_)
      refine list_guard_y rfl rfl rfl rfl (by decide) rfl ?_
      refine id (op_q (q_move rfl (by decide)) ?_)
      refine list_guard_y rfl rfl rfl rfl (by decide) rfl ?_
      refine id (op_q (q_indexAddr_rd sl_27 rfl (.inl ⟨_, rfl, rfl⟩) rfl (by omega) (by omega) (by decide)) ?_)
      refine list_guard_y rfl rfl rfl rfl (by decide) rfl ?_
      refine id (op_q (q_load_rd one_3 rfl (.inl ⟨_, (by first | rfl | exact congrArg (SV.rpar _) (drop_map1 _ 0 _ (by first | omega | (simp; omega)))), rfl⟩) (by decide)) ?_)
      refine list_guard_y rfl rfl rfl rfl (by decide) rfl ?_
      refine id (op_q (q_eq rfl rfl (by decide)) ?_)
      refine list_cons rfl (op_q (q_pick rfl rfl (by decide)) ?_)
      refine list_nil ?_
      refine hK5 _ ?_; clear hK5 K5
      refine codeT.imp (σ' := [(0, _), (1, _), (2, _), (6, _), (7, _), (23, _)]) ?_ (imp_covers ⟨rfl, rfl, rfl, rfl, rfl, rfl, trivial⟩)
      refine code_cond_d rfl (fun h2 => ?_) (fun h2 => ?_)
      · skip
        (try simp only [Decidable.not_not] at h2)
        refine code_skip ?_
        refine hK4 _ ?_; clear hK4 K4
        refine code_block ?_
        refine code_region ?_
        refine list_cons rfl (op_q (q_move rfl (by decide)) ?_)
        refine list_cons rfl (op_q (by first | exact q_addI rfl rfl (by decide) (by omega) (by omega) | exact q_ib rfl rfl rfl (by decide)) ?_)
        refine list_cons rfl (op_q (q_assign rfl (by decide)) ?_)
        refine list_nil ?_
        refine blk_n ?_
        refine then_n ⟨(_, _), imp_covers ⟨rfl, rfl, rfl, rfl, rfl, trivial⟩, ?_, ?_⟩
        · (try dsimp only)
          exact ⟨by omega, by omega, fun j hj => by
            by_cases e : j = first.toNat
            · subst e; assumption
            · exact hf j (by omega)⟩
        · (try dsimp only); omega
      (try simp only [Decidable.not_not] at h2)
      refine code_exit ?_
      refine then_x ?_; clear hK4 K4
      refine then_x ?_
      refine blk_hit ?_
      refine hK3 _ ?_; clear hK3 K3
      refine code_seq (fun K6 hK6 => ?_)
      refine code_seq (fun K7 hK7 => ?_)
      refine code_region ?_
      refine list_cons rfl (op_q (q_move rfl (by decide)) ?_)
      refine list_cons rfl (op_q (q_move rfl (by decide)) ?_)
      refine list_cons rfl (op_q (q_len_sl Try.underlying27 rfl rfl (by decide)) ?_)
      refine list_cons rfl (op_q (q_eq rfl rfl (by decide)) ?_)
      refine list_nil ?_
      refine hK7 _ ?_; clear hK7 K7
      refine code_cond_d rfl (fun h3 => ?_) (fun h3 => ?_)
      · skip
        (try simp only [Decidable.not_not] at h3)
        refine code_seq (fun K8 hK8 => ?_)
        refine code_region ?_
        refine list_cons rfl (op_q (q_assign rfl (by decide)) ?_)
        refine list_nil ?_
        refine hK8 _ ?_; clear hK8 K8
        refine code_ret ?_
        refine then_r ?_; clear hK6 K6
        refine ends_ret (cs := []) rfl rfl rfl rfl trivial ?_
        first
        | (exfalso; omega)
        | (rw [decide_eq_true (cov_z (l := l) (fun j hj => hf j (by omega)) n)]; done)
        | (have h0 : n = 0 := by omega
           subst h0
           rw [decide_eq_false (fun z : Cov l 0 left => absurd ((show AllZ left from z) first.toNat (by omega)) (by assumption))]; done)
        | (have hd : Cnd l left cells.toNat := ⟨by omega, by rw [Int.toNat_of_nonneg (by omega), hfs]; exact Decidable.not_not.1 (mt (hz1 (by omega)).2 (by assumption)), by rw [Int.toNat_of_nonneg (by omega), hfs, hlb]; exact Decidable.not_not.1 (mt hz2.2 (by assumption)), by rw [Int.toNat_of_nonneg (by omega)]; assumption⟩
           rw [decide_eq_true ((cov_iff (l := l) (left := left) (show 0 < n by omega)).2 (.inr ⟨cells.toNat, by omega, hd, by rw [Int.toNat_of_nonneg (by omega)]; assumption⟩))]; done)
        | (rw [decide_eq_false (fun z => by
             rcases (cov_iff (l := l) (left := left) (show 0 < n by omega)).1 z with k | ⟨c, k1, k2, k3⟩
             · exact absurd (k first.toNat (by omega)) (by omega)
             · exact hcz c (by omega) ⟨k2, k3⟩)]; done)
      (try simp only [Decidable.not_not] at h3)
      refine code_skip ?_
      refine hK6 _ ?_; clear hK6 K6
      refine code_seq (fun K9 hK9 => ?_)
      refine code_seq (fun K10 hK10 => ?_)
      refine code_region ?_
      refine list_cons rfl (op_q (q_move rfl (by decide)) ?_)
      refine list_cons rfl (op_q (q_eq rfl rfl (by decide)) ?_)
      refine list_nil ?_
      refine hK10 _ ?_; clear hK10 K10
      refine code_cond_d rfl (fun h4 => ?_) (fun h4 => ?_)
      · skip
        (try simp only [Decidable.not_not] at h4)
        refine code_seq (fun K11 hK11 => ?_)
        refine code_region ?_
        refine list_cons rfl (op_q (q_assign rfl (by decide)) ?_)
        refine list_nil ?_
        refine hK11 _ ?_; clear hK11 K11
        refine codeT.imp (σ' := [(0, _), (1, _), (2, _), (6, _), (7, _)]) ?_ (imp_covers ⟨rfl, rfl, rfl, rfl, rfl, trivial⟩)
        refine code_ret ?_
        refine then_r ?_; clear hK9 K9
        refine ends_ret (cs := []) rfl rfl rfl rfl trivial ?_
        first
        | (exfalso; omega)
        | (rw [decide_eq_true (cov_z (l := l) (fun j hj => hf j (by omega)) n)]; done)
        | (have h0 : n = 0 := by omega
           subst h0
           rw [decide_eq_false (fun z : Cov l 0 left => absurd ((show AllZ left from z) first.toNat (by omega)) (by assumption))]; done)
        | (have hd : Cnd l left cells.toNat := ⟨by omega, by rw [Int.toNat_of_nonneg (by omega), hfs]; exact Decidable.not_not.1 (mt (hz1 (by omega)).2 (by assumption)), by rw [Int.toNat_of_nonneg (by omega), hfs, hlb]; exact Decidable.not_not.1 (mt hz2.2 (by assumption)), by rw [Int.toNat_of_nonneg (by omega)]; assumption⟩
           rw [decide_eq_true ((cov_iff (l := l) (left := left) (show 0 < n by omega)).2 (.inr ⟨cells.toNat, by omega, hd, by rw [Int.toNat_of_nonneg (by omega)]; assumption⟩))]; done)
        | (rw [decide_eq_false (fun z => by
             rcases (cov_iff (l := l) (left := left) (show 0 < n by omega)).1 z with k | ⟨c, k1, k2, k3⟩
             · exact absurd (k first.toNat (by omega)) (by omega)
             · exact hcz c (by omega) ⟨k2, k3⟩)]; done)
      (try simp only [Decidable.not_not] at h4)
      refine code_skip ?_
      refine hK9 _ ?_; clear hK9 K9
      refine codeT.imp (σ' := [(0, _), (1, _), (2, _), (6, _), (7, _)]) ?_ (imp_covers ⟨rfl, rfl, rfl, rfl, rfl, trivial⟩)
      refine code_seq (fun K12 hK12 => ?_)
      refine code_region ?_
      refine list_cons rfl (op_q (q_assign rfl (by decide)) ?_)
      refine list_nil ?_
      refine hK12 _ ?_; clear hK12 K12
      refine code_seq (fun K13 hK13 => ?_)
      refine code_block ?_
      refine code_loop (X := Bool × Int) (fun x => [(0, .par 0 (.sl l.length (l.map (.int .i64)))), (1, .par 1 (.sl left.length (left.map (.int .i64)))), (2, .val (.int .i64 n)), (6, .val (.bool x.1)), (7, .val (.int .i64 (first))), (8, .val (.int .i64 x.2))]) (fun x => 0 ≤ x.2 ∧ x.2 ≤ 7 ∧ ∀ j, j < x.2.toNat → ¬ bt (left.getD first.toNat 0) j) (fun x => (7 - x.2).toNat) (_, _) (imp_covers ⟨rfl, rfl, rfl, rfl, rfl, rfl, trivial⟩) ?_ ?_
      · (try dsimp only)
        exact ⟨by omega, by omega, fun j hj => by simp at hj⟩
      · intro x hI
        obtain ⟨t6, bar⟩ := x
        replace hI : 0 ≤ bar ∧ bar ≤ 7 ∧ ∀ j, j < bar.toNat → ¬ bt (left.getD first.toNat 0) j := hI
        show codeT _ _ _ [(0, .par 0 (.sl l.length (l.map (.int .i64)))), (1, .par 1 (.sl left.length (left.map (.int .i64)))), (2, .val (.int .i64 n)), (6, .val (.bool t6)), (7, .val (.int .i64 (first))), (8, .val (.int .i64 bar))] _
        obtain ⟨b1, b2, hbz⟩ := hI
        have hbf2 := hb first.toNat (by omega)
        have hb7 : bar ≤ 6 := by
          by_cases e : bar = 7
          · exfalso; have := bit_ex hbf2.1 hbf2.2 (fun j hj => hbz j (by omega)); omega
          · omega
        have hzb := btz hbf2.1 hbf2.2 (x := bar.toNat)
        refine code_seq (fun K14 hK14 => ?_)
        refine code_seq (fun K15 hK15 => ?_)
        refine code_region ?_
        refine list_cons rfl (op_q (q_move rfl (by decide)) ?_)
        refine list_cons rfl (op_q (q_move rfl (by decide)) ?_)
        refine list_cons rfl (op_q (q_indexAddr_rd sl_27 rfl (.inl ⟨_, rfl, rfl⟩) rfl (by omega) (by omega) (by decide)) ?_)
        refine list_cons rfl (op_q (q_load_rd one_3 rfl (.inl ⟨_, (by first | rfl | exact congrArg (SV.rpar _) (drop_map1 _ 0 _ (by first | omega | (simp; omega)))), rfl⟩) (by decide)) ?_)
        refine list_cons rfl (op_q (q_move rfl (by decide)) ?_)
        refine list_cons rfl (op_q (by first | exact q_shrN rfl rfl (by decide) (by omega) (by omega) (by omega) | exact q_shrI rfl rfl (by decide) (by omega) (by omega) (by omega) | exact q_shr rfl rfl (by omega) (by decide)) ?_)
        refine list_cons rfl (op_q (by first | exact q_andI rfl rfl (by decide) (by omega) (by omega) (by omega) (by omega) | exact q_ib rfl rfl rfl (by decide)) ?_)
        refine list_cons rfl (op_q (q_eq rfl rfl (by decide)) ?_)
        refine list_nil ?_
        refine hK15 _ ?_; clear hK15 K15
        refine codeT.imp (σ' := [(0, _), (1, _), (2, _), (6, _), (7, _), (8, _), (39, _)]) ?_ (imp_covers ⟨rfl, rfl, rfl, rfl, rfl, rfl, rfl, trivial⟩)
        refine code_cond_d rfl (fun h5 => ?_) (fun h5 => ?_)
        · skip
          (try simp only [Decidable.not_not] at h5)
          refine code_skip ?_
          refine hK14 _ ?_; clear hK14 K14
          refine code_block ?_
          refine code_region ?_
          refine list_cons rfl (op_q (q_move rfl (by decide)) ?_)
          refine list_cons rfl (op_q (by first | exact q_addI rfl rfl (by decide) (by omega) (by omega) | exact q_ib rfl rfl rfl (by decide)) ?_)
          refine list_cons rfl (op_q (q_assign rfl (by decide)) ?_)
          refine list_nil ?_
          refine blk_n ?_
          refine then_n ⟨(_, _), imp_covers ⟨rfl, rfl, rfl, rfl, rfl, rfl, trivial⟩, ?_, ?_⟩
          · (try dsimp only)
            first
            | (exfalso; omega)
            | exact ⟨by omega, by omega, fun j hj => by
              by_cases e : j = bar.toNat
              · subst e; exact hzb.1 (by assumption)
              · exact hbz j (by omega)⟩
          · (try dsimp only); omega
        (try simp only [Decidable.not_not] at h5)
        refine code_exit ?_
        refine then_x ?_; clear hK14 K14
        refine then_x ?_
        refine blk_hit ?_
        refine hK13 _ ?_; clear hK13 K13
        refine code_seq (fun K16 hK16 => ?_)
        refine code_seq (fun K17 hK17 => ?_)
        refine code_region ?_
        refine list_cons rfl (op_q (q_assign rfl (by decide)) ?_)
        refine list_nil ?_
        refine hK17 _ ?_; clear hK17 K17
        refine code_block ?_
        refine code_loop (X := Bool × Int) (fun x => [(0, .par 0 (.sl l.length (l.map (.int .i64)))), (1, .par 1 (.sl left.length (left.map (.int .i64)))), (2, .val (.int .i64 n)), (6, .val (.bool x.1)), (7, .val (.int .i64 (first))), (8, .val (.int .i64 (bar))), (9, .val (.int .i64 x.2))]) (fun x => 1 ≤ x.2 ∧ x.2 ≤ ((p2 l.length : Nat) : Int) ∧ ∀ c : Nat, (c : Int) < x.2 → ¬ (Cnd l left c ∧ Cov l (n - 1) (lfK l left c left.length))) (fun x => (((p2 l.length : Nat) : Int) - x.2).toNat) (_, _) (imp_covers ⟨rfl, rfl, rfl, rfl, rfl, rfl, rfl, trivial⟩) ?_ ?_
        · (try dsimp only)
          exact ⟨by omega, by omega, fun c hc hx => absurd hx.1.1 (by omega)⟩
        · intro x hI
          obtain ⟨t6, cells⟩ := x
          replace hI : 1 ≤ cells ∧ cells ≤ ((p2 l.length : Nat) : Int) ∧ ∀ c : Nat, (c : Int) < cells → ¬ (Cnd l left c ∧ Cov l (n - 1) (lfK l left c left.length)) := hI
          show codeT _ _ _ [(0, .par 0 (.sl l.length (l.map (.int .i64)))), (1, .par 1 (.sl left.length (left.map (.int .i64)))), (2, .val (.int .i64 n)), (6, .val (.bool t6)), (7, .val (.int .i64 (first))), (8, .val (.int .i64 (bar))), (9, .val (.int .i64 cells))] _
          obtain ⟨c1, c2, hcz⟩ := hI
          have hfb := flF_bd l cells
          have hz1 := fun h : cells ≤ 127 => btz (v := cells) (x := first.toNat) (by omega) h
          have hfs : fsI left = first.toNat := fsI_eq (i := first.toNat) (by omega) hf (by omega)
          have hlb : lbI (left.getD first.toNat 0).toNat = bar.toNat := by first | (exfalso; omega) | exact lbI_eq hbf2.1 hbf2.2 (b := bar.toNat) (by omega) hbz (Decidable.not_not.1 (mt hzb.2 (by assumption)))
          have hz2 := btz hfb.1 hfb.2 (x := bar.toNat)
          refine code_seq (fun K18 hK18 => ?_)
          refine code_seq (fun K19 hK19 => ?_)
          refine code_region ?_
          refine list_cons rfl (op_q (q_move rfl (by decide)) ?_)
          refine list_cons rfl (op_q (q_move rfl (by decide)) ?_)
          refine list_cons rfl (op_q (q_len_sl Try.underlying27 rfl rfl (by decide)) ?_)
          refine list_cons rfl (op_q (by first | exact q_shl1 rfl rfl (by decide) (by omega) (by omega) | exact q_shlI rfl rfl (by decide) (by omega) (by omega) (by omega) | exact q_shl rfl rfl (by omega) (by decide)) ?_)
          refine list_cons rfl (op_q (q_lt rfl rfl (by decide)) ?_)
          refine list_nil ?_
          refine hK19 _ ?_; clear hK19 K19
          refine code_cond_d rfl (fun h6 => ?_) (fun h6 => ?_)
          · skip
            (try simp only [Decidable.not_not] at h6)
            refine code_skip ?_
            refine hK18 _ ?_; clear hK18 K18
            refine code_seq (fun K20 hK20 => ?_)
            refine code_block ?_
            refine code_seq (fun K21 hK21 => ?_)
            refine code_region ?_
            refine list_cons rfl (op_q (q_move rfl (by decide)) ?_)
            refine list_cons rfl (op_q (q_move rfl (by decide)) ?_)
            refine list_cons rfl (op_call _ (spec_l8Full l cells hl (by omega)) rfl rfl (by decide) (by decide) (by decide) rfl ?_)
            rintro _ rfl
            refine list_cons rfl (op_q (q_assign rfl (by decide)) ?_)
            refine list_nil ?_
            refine hK21 _ ?_; clear hK21 K21
            refine codeT.imp (σ' := [(0, _), (1, _), (2, _), (6, _), (7, _), (8, _), (9, _), (10, _)]) ?_ (imp_covers ⟨rfl, rfl, rfl, rfl, rfl, rfl, rfl, rfl, trivial⟩)
            refine code_seq (fun K22 hK22 => ?_)
            refine code_seq (fun K23 hK23 => ?_)
            refine code_region ?_
            refine list_cons rfl (op_q (q_move rfl (by decide)) ?_)
            refine list_cons rfl (op_q (q_move rfl (by decide)) ?_)
            refine list_cons rfl (op_q (by first | exact q_shrN rfl rfl (by decide) (by omega) (by omega) (by omega) | exact q_shrI rfl rfl (by decide) (by omega) (by omega) (by omega) | exact q_shr rfl rfl (by omega) (by decide)) ?_)
            refine list_cons rfl (op_q (by first | exact q_andI rfl rfl (by decide) (by omega) (by omega) (by omega) (by omega) | exact q_ib rfl rfl rfl (by decide)) ?_)
            refine list_cons rfl (op_q (q_eq rfl rfl (by decide)) ?_)
            refine list_cons rfl (op_q (q_move rfl (by decide)) ?_)
            refine list_guard_d rfl rfl rfl rfl (by decide) rfl (by decide) (fun h7 => ?_) (fun h7 => ?_)
            · simp only [Bool.false_eq_true, if_true, if_false, Decidable.not_not] at h7
              refine id (op_q (q_move rfl (by decide)) ?_)
              refine list_guard_y rfl rfl rfl rfl (by decide) rfl ?_
              refine id (op_q (q_move rfl (by decide)) ?_)
              refine list_guard_y rfl rfl rfl rfl (by decide) rfl ?_
              refine id (op_q (by first | exact q_shrN rfl rfl (by decide) (by omega) (by omega) (by omega) | exact q_shrI rfl rfl (by decide) (by omega) (by omega) (by omega) | exact q_shr rfl rfl (by omega) (by decide)) ?_)
              refine list_guard_y rfl rfl rfl rfl (by decide) rfl ?_
              refine id (op_q (by first | exact q_andI rfl rfl (by decide) (by omega) (by omega) (by omega) (by omega) | exact q_ib rfl rfl rfl (by decide)) ?_)
              refine list_guard_y rfl rfl rfl rfl (by decide) rfl ?_
              refine id (op_q (q_eq rfl rfl (by decide)) ?_)
              refine list_cons rfl (op_q (q_pick rfl rfl (by decide)) ?_)
              refine list_cons rfl (op_q (q_move rfl (by decide)) ?_)
              refine list_guard_d rfl rfl rfl rfl (by decide) rfl (by decide) (fun h8 => ?_) (fun h8 => ?_)
              · simp only [Bool.false_eq_true, if_true, if_false, Decidable.not_not] at h8
                refine id (op_q (q_move rfl (by decide)) ?_)
                refine list_guard_y rfl rfl rfl rfl (by decide) rfl ?_
                refine id (op_q (q_move rfl (by decide)) ?_)
                refine list_guard_y rfl rfl rfl rfl (by decide) rfl ?_
                refine id (op_q (q_move rfl (by decide)) ?_)
                refine list_guard_y rfl rfl rfl rfl (by decide) rfl ?_
                refine id (op_call _ (spec_l8Whole l cells (flF l cells) hl (by omega) (flF_bd _ _)) rfl rfl (by decide) (by decide) (by decide) rfl ?_)
                rintro _ rfl
                refine list_guard_y rfl rfl rfl rfl (by decide) rfl ?_
                refine id (op_q (by first | exact q_notd rfl (by decide) | exact q_not rfl (by decide)) ?_)
                refine list_cons rfl (op_q (q_pick rfl rfl (by decide)) ?_)
                refine list_nil ?_
                refine hK23 _ ?_; clear hK23 K23
                refine codeT.imp (σ' := [(0, _), (1, _), (2, _), (6, _), (7, _), (8, _), (9, _), (10, _), (70, _)]) ?_ (imp_covers ⟨rfl, rfl, rfl, rfl, rfl, rfl, rfl, rfl, rfl, trivial⟩)
                refine code_cond_d rfl (fun h9 => ?_) (fun h9 => ?_)
                · skip
                  (try simp only [Decidable.not_not] at h9)
                  refine code_exit ?_
                  refine then_x ?_; clear hK22 K22
                  refine blk_hit ?_
                  refine hK20 _ ?_; clear hK20 K20
                  refine code_region ?_
                  refine list_cons rfl (op_q (q_move rfl (by decide)) ?_)
                  refine list_cons rfl (op_q (by first | exact q_addI rfl rfl (by decide) (by omega) (by omega) | exact q_ib rfl rfl rfl (by decide)) ?_)
                  refine list_cons rfl (op_q (q_assign rfl (by decide)) ?_)
                  refine list_nil ?_
                  refine then_n ⟨(_, _), imp_covers ⟨rfl, rfl, rfl, rfl, rfl, rfl, rfl, trivial⟩, ?_, ?_⟩
                  · (try dsimp only)
                    first
                    | (exfalso; omega)
                    | exact ⟨by omega, by omega, fun c hc hx => by
                        by_cases e : (c : Int) = cells
                        · obtain ⟨⟨_, q1, q2, q3⟩, hx2⟩ := hx
                          rw [e, hfs] at q1
                          rw [e, hfs, hlb] at q2
                          rw [e] at q3 hx2
                          first
                          | exact (hz1 (by omega)).1 (by assumption) q1
                          | exact hz2.1 (by assumption) q2
                          | exact absurd q3 (by assumption)
                          | exact absurd hx2 (by assumption)
                        · exact hcz c (by omega) hx⟩
                  · (try dsimp only); omega
                (try simp only [Decidable.not_not] at h9)
                refine code_skip ?_
                refine hK22 _ ?_; clear hK22 K22
                refine code_seq (fun K24 hK24 => ?_)
                refine code_region ?_
                refine list_cons rfl (op_q (q_move rfl (by decide)) ?_)
                refine list_cons rfl (op_call _ (spec_l1Own8 left (by omega)) rfl rfl (by decide) (by decide) (by decide) rfl ?_)
                rintro _ rfl
                refine list_cons rfl (op_q (q_assign rfl (by decide)) ?_)
                refine list_nil ?_
                refine hK24 _ ?_; clear hK24 K24
                refine codeT.imp (σ' := [(0, _), (1, _), (2, _), (6, _), (7, _), (8, _), (9, _), (10, _), (11, _)]) ?_ (imp_covers ⟨rfl, rfl, rfl, rfl, rfl, rfl, rfl, rfl, rfl, trivial⟩)
                refine code_seq (fun K25 hK25 => ?_)
                refine code_seq (fun K26 hK26 => ?_)
                refine code_region ?_
                refine list_cons rfl (op_q (q_assign rfl (by decide)) ?_)
                refine list_nil ?_
                refine hK26 _ ?_; clear hK26 K26
                refine code_block ?_
                refine code_loop (X := Bool × Nat × List PV × Int) (fun x => [(0, .par 0 (.sl l.length (l.map (.int .i64)))), (1, .par 1 (.sl left.length (left.map (.int .i64)))), (2, .val (.int .i64 n)), (6, .val (.bool x.1)), (7, .val (.int .i64 (first))), (8, .val (.int .i64 (bar))), (9, .val (.int .i64 (cells))), (10, .val (.int .i64 (flF l cells))), (11, .own 72 3 1 x.2.1 x.2.2.1), (12, .val (.int .i64 x.2.2.2))]) (fun x => 0 ≤ x.2.2.2 ∧ x.2.2.2 ≤ l.length ∧ x.2.1 = left.length ∧ x.2.2.1 = (lfK l left cells x.2.2.2.toNat).map (.int .i64)) (fun x => (l.length - x.2.2.2).toNat) (_, _, _, _) (imp_covers ⟨rfl, rfl, rfl, rfl, rfl, rfl, rfl, rfl, rfl, rfl, trivial⟩) ?_ ?_
                · (try dsimp only)
                  exact ⟨by omega, by omega, rfl, congrArg (List.map _) (lfK_0 l left cells)⟩
                · intro x hI
                  obtain ⟨t6, rest_n, rest_c, i⟩ := x
                  replace hI : 0 ≤ i ∧ i ≤ l.length ∧ rest_n = left.length ∧ rest_c = (lfK l left cells i.toNat).map (.int .i64) := hI
                  show codeT _ _ _ [(0, .par 0 (.sl l.length (l.map (.int .i64)))), (1, .par 1 (.sl left.length (left.map (.int .i64)))), (2, .val (.int .i64 n)), (6, .val (.bool t6)), (7, .val (.int .i64 (first))), (8, .val (.int .i64 (bar))), (9, .val (.int .i64 (cells))), (10, .val (.int .i64 (flF l cells))), (11, .own 72 3 1 rest_n rest_c), (12, .val (.int .i64 i))] _
                  obtain ⟨i1, i2, rfl, rfl⟩ := hI
                  have hbi := fun h : i < l.length => lfK_bd (l := l) (c := cells) (m := i.toNat) hb i.toNat (by rw [lfK_len]; omega)
                  refine code_seq (fun K27 hK27 => ?_)
                  refine code_seq (fun K28 hK28 => ?_)
                  refine code_region ?_
                  refine list_cons rfl (op_q (q_move rfl (by decide)) ?_)
                  refine list_cons rfl (op_q (q_move rfl (by decide)) ?_)
                  refine list_cons rfl (op_q (q_len_sl Try.underlying27 rfl rfl (by decide)) ?_)
                  refine list_cons rfl (op_q (q_lt rfl rfl (by decide)) ?_)
                  refine list_nil ?_
                  refine hK28 _ ?_; clear hK28 K28
                  refine code_cond_d rfl (fun h10 => ?_) (fun h10 => ?_)
                  · skip
                    (try simp only [Decidable.not_not] at h10)
                    refine code_skip ?_
                    refine hK27 _ ?_; clear hK27 K27
                    refine code_seq (fun K29 hK29 => ?_)
                    refine code_block ?_
                    refine code_seq (fun K30 hK30 => ?_)
                    refine code_region ?_
                    refine list_cons rfl (op_q (q_move rfl (by decide)) ?_)
                    refine list_cons rfl (op_q (q_move rfl (by decide)) ?_)
                    refine list_cons rfl (op_q (by first | exact q_shrN rfl rfl (by decide) (by omega) (by omega) (by omega) | exact q_shrI rfl rfl (by decide) (by omega) (by omega) (by omega) | exact q_shr rfl rfl (by omega) (by decide)) ?_)
                    refine list_cons rfl (op_q (by first | exact q_andI rfl rfl (by decide) (by omega) (by omega) (by omega) (by omega) | exact q_ib rfl rfl rfl (by decide)) ?_)
                    refine list_cons rfl (op_q (q_eq rfl rfl (by decide)) ?_)
                    refine list_nil ?_
                    refine hK30 _ ?_; clear hK30 K30
                    refine codeT.imp (σ' := [(0, _), (1, _), (2, _), (6, _), (7, _), (8, _), (9, _), (10, _), (11, _), (12, _), (83, _)]) ?_ (imp_covers ⟨rfl, rfl, rfl, rfl, rfl, rfl, rfl, rfl, rfl, rfl, rfl, trivial⟩)
                    refine code_cond_d rfl (fun h11 => ?_) (fun h11 => ?_)
                    · skip
                      (try simp only [Decidable.not_not] at h11)
                      refine code_region ?_
                      refine list_cons rfl (op_q (q_move rfl (by decide)) ?_)
                      refine list_cons rfl (op_q (q_move rfl (by decide)) ?_)
                      refine list_cons rfl (op_q (q_move rfl (by decide)) ?_)
                      refine list_cons rfl (op_q (q_move rfl (by decide)) ?_)
                      refine list_cons rfl (op_q (q_indexAddr_own sl_27 rfl rfl (by omega) (by omega) (by decide)) ?_)
                      refine list_cons rfl (op_q (q_load one_3 11 rfl rfl rfl (get_map1 (PV.int .i64) 0 _ (by rw [lfK_len]; omega)) (by decide)) ?_)
                      refine list_cons rfl (op_q (q_move rfl (by decide)) ?_)
                      refine list_cons rfl (op_q (by first | exact q_andNotI rfl rfl (by decide) (by omega) (by omega) (by omega) (by omega) | exact q_ib rfl rfl rfl (by decide)) ?_)
                      refine list_cons rfl (op_q (q_indexAddr_own sl_27 rfl rfl (by omega) (by omega) (by decide)) ?_)
                      refine list_cons rfl (op_store (one_3).2 11 [11, 84, 86] (by intro t ht; simp only [List.mem_cons, List.not_mem_nil, or_false] at ht; rcases ht with rfl | rfl | rfl <;> rfl) (.inl rfl) rfl rfl rfl rfl rfl rfl (by rw [List.length_map, lfK_len]; omega) (by decide) rfl ?_)
                      refine list_nil ?_
                      refine blk_n ?_
                      refine hK29 _ ?_; clear hK29 K29
                      refine codeT.imp (σ' := [(0, _), (1, _), (2, _), (6, _), (7, _), (8, _), (9, _), (10, _), (11, _), (12, _)]) ?_ (imp_covers ⟨rfl, rfl, rfl, rfl, rfl, rfl, rfl, rfl, rfl, rfl, trivial⟩)
                      refine code_region ?_
                      refine list_cons rfl (op_q (q_move rfl (by decide)) ?_)
                      refine list_cons rfl (op_q (by first | exact q_addI rfl rfl (by decide) (by omega) (by omega) | exact q_ib rfl rfl rfl (by decide)) ?_)
                      refine list_cons rfl (op_q (q_assign rfl (by decide)) ?_)
                      refine list_nil ?_
                      refine then_n ⟨(_, _, _, _), imp_covers ⟨rfl, rfl, rfl, rfl, rfl, rfl, rfl, rfl, rfl, rfl, trivial⟩, ?_, ?_⟩
                      · (try dsimp only)
                        first
                        | (exfalso; omega)
                        | exact ⟨by omega, by omega, rfl, by rw [show (i + 1).toNat = i.toNat + 1 by omega]; exact lfK_put (by omega) rfl (show bt cells i.toNat by assumption) rfl⟩
                        | exact ⟨by omega, by omega, rfl, by rw [show (i + 1).toNat = i.toNat + 1 by omega, ← lfK_no (show ¬ bt cells i.toNat by assumption)]⟩
                      · (try dsimp only); omega
                    (try simp only [Decidable.not_not] at h11)
                    refine code_skip ?_
                    refine blk_n ?_
                    refine hK29 _ ?_; clear hK29 K29
                    refine code_region ?_
                    refine list_cons rfl (op_q (q_move rfl (by decide)) ?_)
                    refine list_cons rfl (op_q (by first | exact q_addI rfl rfl (by decide) (by omega) (by omega) | exact q_ib rfl rfl rfl (by decide)) ?_)
                    refine list_cons rfl (op_q (q_assign rfl (by decide)) ?_)
                    refine list_nil ?_
                    refine then_n ⟨(_, _, _, _), imp_covers ⟨rfl, rfl, rfl, rfl, rfl, rfl, rfl, rfl, rfl, rfl, trivial⟩, ?_, ?_⟩
                    · (try dsimp only)
                      first
                      | (exfalso; omega)
                      | exact ⟨by omega, by omega, rfl, by rw [show (i + 1).toNat = i.toNat + 1 by omega]; exact lfK_put (by omega) rfl (show bt cells i.toNat by assumption) rfl⟩
                      | exact ⟨by omega, by omega, rfl, by rw [show (i + 1).toNat = i.toNat + 1 by omega, ← lfK_no (show ¬ bt cells i.toNat by assumption)]⟩
                    · (try dsimp only); omega
                  (try simp only [Decidable.not_not] at h10)
                  refine code_exit ?_
                  refine then_x ?_; clear hK27 K27
                  refine then_x ?_
                  refine blk_hit ?_
                  refine hK25 _ ?_; clear hK25 K25
                  refine code_seq (fun K31 hK31 => ?_)
                  refine code_region ?_
                  refine list_cons rfl (op_q (q_move rfl (by decide)) ?_)
                  refine list_cons rfl (op_q (q_move rfl (by decide)) ?_)
                  refine list_cons rfl (op_q (q_move rfl (by decide)) ?_)
                  refine list_cons rfl (op_q (by first | exact q_subI rfl rfl (by decide) (by omega) (by omega) | exact q_ib rfl rfl rfl (by decide)) ?_)
                  refine list_cons rfl (op_call _ (IH (n - 1) (lfK l left cells left.length) _ _ _ (by omega) (by omega) (by rw [lfK_len]) (by rw [show i.toNat = left.length by omega]) (by rw [lfK_len]; exact hL) (lfK_bd hb)) rfl rfl (by decide) (by decide) (by decide) rfl ?_)
                  rintro _ rfl
                  refine list_nil ?_
                  refine hK31 _ ?_; clear hK31 K31
                  refine codeT.imp (σ' := [(0, _), (1, _), (2, _), (6, _), (7, _), (8, _), (9, _), (10, _), (11, _), (12, _), (97, _)]) ?_ (imp_covers ⟨rfl, rfl, rfl, rfl, rfl, rfl, rfl, rfl, rfl, rfl, rfl, trivial⟩)
                  refine code_cond_d rfl (fun h12 => ?_) (fun h12 => ?_)
                  · skip
                    (try simp only [Decidable.not_not] at h12)
                    refine code_seq (fun K32 hK32 => ?_)
                    refine code_region ?_
                    refine list_cons rfl (op_q (q_assign rfl (by decide)) ?_)
                    refine list_nil ?_
                    refine hK32 _ ?_; clear hK32 K32
                    refine code_ret ?_
                    refine blk_r ?_
                    refine then_r ?_; clear hK20 K20
                    refine then_r ?_
                    refine blk_r ?_
                    refine then_r ?_; clear hK16 K16
                    refine ends_ret (cs := []) rfl rfl rfl rfl trivial ?_
                    first
                    | (exfalso; omega)
                    | (rw [decide_eq_true (cov_z (l := l) (fun j hj => hf j (by omega)) n)]; done)
                    | (have h0 : n = 0 := by omega
                       subst h0
                       rw [decide_eq_false (fun z : Cov l 0 left => absurd ((show AllZ left from z) first.toNat (by omega)) (by assumption))]; done)
                    | (have hd : Cnd l left cells.toNat := ⟨by omega, by rw [Int.toNat_of_nonneg (by omega), hfs]; exact Decidable.not_not.1 (mt (hz1 (by omega)).2 (by assumption)), by rw [Int.toNat_of_nonneg (by omega), hfs, hlb]; exact Decidable.not_not.1 (mt hz2.2 (by assumption)), by rw [Int.toNat_of_nonneg (by omega)]; assumption⟩
                       rw [decide_eq_true ((cov_iff (l := l) (left := left) (show 0 < n by omega)).2 (.inr ⟨cells.toNat, by omega, hd, by rw [Int.toNat_of_nonneg (by omega)]; assumption⟩))]; done)
                    | (rw [decide_eq_false (fun z => by
                         rcases (cov_iff (l := l) (left := left) (show 0 < n by omega)).1 z with k | ⟨c, k1, k2, k3⟩
                         · exact absurd (k first.toNat (by omega)) (by omega)
                         · exact hcz c (by omega) ⟨k2, k3⟩)]; done)
                  (try simp only [Decidable.not_not] at h12)
                  refine code_skip ?_
                  refine blk_n ?_
                  refine hK20 _ ?_; clear hK20 K20
                  refine code_region ?_
                  refine list_cons rfl (op_q (q_move rfl (by decide)) ?_)
                  refine list_cons rfl (op_q (by first | exact q_addI rfl rfl (by decide) (by omega) (by omega) | exact q_ib rfl rfl rfl (by decide)) ?_)
                  refine list_cons rfl (op_q (q_assign rfl (by decide)) ?_)
                  refine list_nil ?_
                  refine then_n ⟨(_, _), imp_covers ⟨rfl, rfl, rfl, rfl, rfl, rfl, rfl, trivial⟩, ?_, ?_⟩
                  · (try dsimp only)
                    first
                    | (exfalso; omega)
                    | exact ⟨by omega, by omega, fun c hc hx => by
                        by_cases e : (c : Int) = cells
                        · obtain ⟨⟨_, q1, q2, q3⟩, hx2⟩ := hx
                          rw [e, hfs] at q1
                          rw [e, hfs, hlb] at q2
                          rw [e] at q3 hx2
                          first
                          | exact (hz1 (by omega)).1 (by assumption) q1
                          | exact hz2.1 (by assumption) q2
                          | exact absurd q3 (by assumption)
                          | exact absurd hx2 (by assumption)
                        · exact hcz c (by omega) hx⟩
                  · (try dsimp only); omega
              simp only [Bool.false_eq_true, if_true, if_false, Decidable.not_not] at h8
              refine list_guard_nT rfl rfl rfl rfl (by decide) (by decide) ?_
              refine list_guard_nT rfl rfl rfl rfl (by decide) (by decide) ?_
              refine list_guard_nT rfl rfl rfl rfl (by decide) (by decide) ?_
              refine list_guard_nT rfl rfl rfl rfl (by decide) (by decide) ?_
              refine list_cons rfl (op_q (q_pick rfl rfl (by decide)) ?_)
              refine list_nil ?_
              refine hK23 _ ?_; clear hK23 K23
              refine codeT.imp (σ' := [(0, _), (1, _), (2, _), (6, _), (7, _), (8, _), (9, _), (10, _), (70, _)]) ?_ (imp_covers ⟨rfl, rfl, rfl, rfl, rfl, rfl, rfl, rfl, rfl, trivial⟩)
              refine code_cond_t rfl ?_
              refine code_exit ?_
              refine then_x ?_; clear hK22 K22
              refine blk_hit ?_
              refine hK20 _ ?_; clear hK20 K20
              refine code_region ?_
              refine list_cons rfl (op_q (q_move rfl (by decide)) ?_)
              refine list_cons rfl (op_q (by first | exact q_addI rfl rfl (by decide) (by omega) (by omega) | exact q_ib rfl rfl rfl (by decide)) ?_)
              refine list_cons rfl (op_q (q_assign rfl (by decide)) ?_)
              refine list_nil ?_
              refine then_n ⟨(_, _), imp_covers ⟨rfl, rfl, rfl, rfl, rfl, rfl, rfl, trivial⟩, ?_, ?_⟩
              · (try dsimp only)
                first
                | (exfalso; omega)
                | exact ⟨by omega, by omega, fun c hc hx => by
                    by_cases e : (c : Int) = cells
                    · obtain ⟨⟨_, q1, q2, q3⟩, hx2⟩ := hx
                      rw [e, hfs] at q1
                      rw [e, hfs, hlb] at q2
                      rw [e] at q3 hx2
                      first
                      | exact (hz1 (by omega)).1 (by assumption) q1
                      | exact hz2.1 (by assumption) q2
                      | exact absurd q3 (by assumption)
                      | exact absurd hx2 (by assumption)
                    · exact hcz c (by omega) hx⟩
              · (try dsimp only); omega
            simp only [Bool.false_eq_true, if_true, if_false, Decidable.not_not] at h7
            refine list_guard_nT rfl rfl rfl rfl (by decide) (by decide) ?_
            refine list_guard_nT rfl rfl rfl rfl (by decide) (by decide) ?_
            refine list_guard_nT rfl rfl rfl rfl (by decide) (by decide) ?_
            refine list_guard_nT rfl rfl rfl rfl (by decide) (by decide) ?_
            refine list_cons rfl (op_q (q_pick rfl rfl (by decide)) ?_)
            refine list_cons rfl (op_q (q_move rfl (by decide)) ?_)
            refine list_guard_nT rfl rfl rfl rfl (by decide) (by decide) ?_
            refine list_guard_nT rfl rfl rfl rfl (by decide) (by decide) ?_
            refine list_guard_nT rfl rfl rfl rfl (by decide) (by decide) ?_
            refine list_guard_nT rfl rfl rfl rfl (by decide) (by decide) ?_
            refine list_guard_nT rfl rfl rfl rfl (by decide) (by decide) ?_
            refine list_cons rfl (op_q (q_pick rfl rfl (by decide)) ?_)
            refine list_nil ?_
            refine hK23 _ ?_; clear hK23 K23
            refine codeT.imp (σ' := [(0, _), (1, _), (2, _), (6, _), (7, _), (8, _), (9, _), (10, _), (70, _)]) ?_ (imp_covers ⟨rfl, rfl, rfl, rfl, rfl, rfl, rfl, rfl, rfl, trivial⟩)
            refine code_cond_t rfl ?_
            refine code_exit ?_
            refine then_x ?_; clear hK22 K22
            refine blk_hit ?_
            refine hK20 _ ?_; clear hK20 K20
            refine code_region ?_
            refine list_cons rfl (op_q (q_move rfl (by decide)) ?_)
            refine list_cons rfl (op_q (by first | exact q_addI rfl rfl (by decide) (by omega) (by omega) | exact q_ib rfl rfl rfl (by decide)) ?_)
            refine list_cons rfl (op_q (q_assign rfl (by decide)) ?_)
            refine list_nil ?_
            refine then_n ⟨(_, _), imp_covers ⟨rfl, rfl, rfl, rfl, rfl, rfl, rfl, trivial⟩, ?_, ?_⟩
            · (try dsimp only)
              first
              | (exfalso; omega)
              | exact ⟨by omega, by omega, fun c hc hx => by
                  by_cases e : (c : Int) = cells
                  · obtain ⟨⟨_, q1, q2, q3⟩, hx2⟩ := hx
                    rw [e, hfs] at q1
                    rw [e, hfs, hlb] at q2
                    rw [e] at q3 hx2
                    first
                    | exact (hz1 (by omega)).1 (by assumption) q1
                    | exact hz2.1 (by assumption) q2
                    | exact absurd q3 (by assumption)
                    | exact absurd hx2 (by assumption)
                  · exact hcz c (by omega) hx⟩
            · (try dsimp only); omega
          (try simp only [Decidable.not_not] at h6)
          refine code_exit ?_
          refine then_x ?_; clear hK18 K18
          refine then_x ?_
          refine blk_hit ?_
          refine hK16 _ ?_; clear hK16 K16
          refine code_seq (fun K33 hK33 => ?_)
          refine code_region ?_
          refine list_cons rfl (op_q (q_assign rfl (by decide)) ?_)
          refine list_nil ?_
          refine hK33 _ ?_; clear hK33 K33
          refine code_ret ?_
          refine ends_ret (cs := []) rfl rfl rfl rfl trivial ?_
          first
          | (exfalso; omega)
          | (rw [decide_eq_true (cov_z (l := l) (fun j hj => hf j (by omega)) n)]; done)
          | (have h0 : n = 0 := by omega
             subst h0
             rw [decide_eq_false (fun z : Cov l 0 left => absurd ((show AllZ left from z) first.toNat (by omega)) (by assumption))]; done)
          | (have hd : Cnd l left cells.toNat := ⟨by omega, by rw [Int.toNat_of_nonneg (by omega), hfs]; exact Decidable.not_not.1 (mt (hz1 (by omega)).2 (by assumption)), by rw [Int.toNat_of_nonneg (by omega), hfs, hlb]; exact Decidable.not_not.1 (mt hz2.2 (by assumption)), by rw [Int.toNat_of_nonneg (by omega)]; assumption⟩
             rw [decide_eq_true ((cov_iff (l := l) (left := left) (show 0 < n by omega)).2 (.inr ⟨cells.toNat, by omega, hd, by rw [Int.toNat_of_nonneg (by omega)]; assumption⟩))]; done)
          | (rw [decide_eq_false (fun z => by
               rcases (cov_iff (l := l) (left := left) (show 0 < n by omega)).1 z with k | ⟨c, k1, k2, k3⟩
               · exact absurd (k first.toNat (by omega)) (by omega)
               · exact hcz c (by omega) ⟨k2, k3⟩)]; done)
    simp only [Bool.false_eq_true, if_true, if_false, Decidable.not_not] at h1
    refine list_guard_nT rfl rfl rfl rfl (by decide) (by decide) ?_
    refine list_guard_nT rfl rfl rfl rfl (by decide) (by decide) ?_
    refine list_guard_nT rfl rfl rfl rfl (by decide) (by decide) ?_
    refine list_guard_nT rfl rfl rfl rfl (by decide) (by decide) ?_
    refine list_cons rfl (op_q (q_pick rfl rfl (by decide)) ?_)
    refine list_nil ?_
    refine hK5 _ ?_; clear hK5 K5
    refine codeT.imp (σ' := [(0, _), (1, _), (2, _), (6, _), (7, _), (23, _)]) ?_ (imp_covers ⟨rfl, rfl, rfl, rfl, rfl, rfl, trivial⟩)
    refine code_cond_f rfl ?_
    refine code_exit ?_
    refine then_x ?_; clear hK4 K4
    refine then_x ?_
    refine blk_hit ?_
    refine hK3 _ ?_; clear hK3 K3
    refine code_seq (fun K34 hK34 => ?_)
    refine code_seq (fun K35 hK35 => ?_)
    refine code_region ?_
    refine list_cons rfl (op_q (q_move rfl (by decide)) ?_)
    refine list_cons rfl (op_q (q_move rfl (by decide)) ?_)
    refine list_cons rfl (op_q (q_len_sl Try.underlying27 rfl rfl (by decide)) ?_)
    refine list_cons rfl (op_q (q_eq rfl rfl (by decide)) ?_)
    refine list_nil ?_
    refine hK35 _ ?_; clear hK35 K35
    refine code_cond_d rfl (fun h13 => ?_) (fun h13 => ?_)
    · skip
      (try simp only [Decidable.not_not] at h13)
      refine code_seq (fun K36 hK36 => ?_)
      refine code_region ?_
      refine list_cons rfl (op_q (q_assign rfl (by decide)) ?_)
      refine list_nil ?_
      refine hK36 _ ?_; clear hK36 K36
      refine code_ret ?_
      refine then_r ?_; clear hK34 K34
      refine ends_ret (cs := []) rfl rfl rfl rfl trivial ?_
      first
      | (exfalso; omega)
      | (rw [decide_eq_true (cov_z (l := l) (fun j hj => hf j (by omega)) n)]; done)
      | (have h0 : n = 0 := by omega
         subst h0
         rw [decide_eq_false (fun z : Cov l 0 left => absurd ((show AllZ left from z) first.toNat (by omega)) (by assumption))]; done)
      | (have hd : Cnd l left cells.toNat := ⟨by omega, by rw [Int.toNat_of_nonneg (by omega), hfs]; exact Decidable.not_not.1 (mt (hz1 (by omega)).2 (by assumption)), by rw [Int.toNat_of_nonneg (by omega), hfs, hlb]; exact Decidable.not_not.1 (mt hz2.2 (by assumption)), by rw [Int.toNat_of_nonneg (by omega)]; assumption⟩
         rw [decide_eq_true ((cov_iff (l := l) (left := left) (show 0 < n by omega)).2 (.inr ⟨cells.toNat, by omega, hd, by rw [Int.toNat_of_nonneg (by omega)]; assumption⟩))]; done)
      | (rw [decide_eq_false (fun z => by
           rcases (cov_iff (l := l) (left := left) (show 0 < n by omega)).1 z with k | ⟨c, k1, k2, k3⟩
           · exact absurd (k first.toNat (by omega)) (by omega)
           · exact hcz c (by omega) ⟨k2, k3⟩)]; done)
    (try simp only [Decidable.not_not] at h13)
    refine code_skip ?_
    refine hK34 _ ?_; clear hK34 K34
    refine code_seq (fun K37 hK37 => ?_)
    refine code_seq (fun K38 hK38 => ?_)
    refine code_region ?_
    refine list_cons rfl (op_q (q_move rfl (by decide)) ?_)
    refine list_cons rfl (op_q (q_eq rfl rfl (by decide)) ?_)
    refine list_nil ?_
    refine hK38 _ ?_; clear hK38 K38
    refine code_cond_d rfl (fun h14 => ?_) (fun h14 => ?_)
    · skip
      (try simp only [Decidable.not_not] at h14)
      refine code_seq (fun K39 hK39 => ?_)
      refine code_region ?_
      refine list_cons rfl (op_q (q_assign rfl (by decide)) ?_)
      refine list_nil ?_
      refine hK39 _ ?_; clear hK39 K39
      refine codeT.imp (σ' := [(0, _), (1, _), (2, _), (6, _), (7, _)]) ?_ (imp_covers ⟨rfl, rfl, rfl, rfl, rfl, trivial⟩)
      refine code_ret ?_
      refine then_r ?_; clear hK37 K37
      refine ends_ret (cs := []) rfl rfl rfl rfl trivial ?_
      first
      | (exfalso; omega)
      | (rw [decide_eq_true (cov_z (l := l) (fun j hj => hf j (by omega)) n)]; done)
      | (have h0 : n = 0 := by omega
         subst h0
         rw [decide_eq_false (fun z : Cov l 0 left => absurd ((show AllZ left from z) first.toNat (by omega)) (by assumption))]; done)
      | (have hd : Cnd l left cells.toNat := ⟨by omega, by rw [Int.toNat_of_nonneg (by omega), hfs]; exact Decidable.not_not.1 (mt (hz1 (by omega)).2 (by assumption)), by rw [Int.toNat_of_nonneg (by omega), hfs, hlb]; exact Decidable.not_not.1 (mt hz2.2 (by assumption)), by rw [Int.toNat_of_nonneg (by omega)]; assumption⟩
         rw [decide_eq_true ((cov_iff (l := l) (left := left) (show 0 < n by omega)).2 (.inr ⟨cells.toNat, by omega, hd, by rw [Int.toNat_of_nonneg (by omega)]; assumption⟩))]; done)
      | (rw [decide_eq_false (fun z => by
           rcases (cov_iff (l := l) (left := left) (show 0 < n by omega)).1 z with k | ⟨c, k1, k2, k3⟩
           · exact absurd (k first.toNat (by omega)) (by omega)
           · exact hcz c (by omega) ⟨k2, k3⟩)]; done)
    (try simp only [Decidable.not_not] at h14)
    refine code_skip ?_
    refine hK37 _ ?_; clear hK37 K37
    refine codeT.imp (σ' := [(0, _), (1, _), (2, _), (6, _), (7, _)]) ?_ (imp_covers ⟨rfl, rfl, rfl, rfl, rfl, trivial⟩)
    refine code_seq (fun K40 hK40 => ?_)
    refine code_region ?_
    refine list_cons rfl (op_q (q_assign rfl (by decide)) ?_)
    refine list_nil ?_
    refine hK40 _ ?_; clear hK40 K40
    refine code_seq (fun K41 hK41 => ?_)
    refine code_block ?_
    refine code_loop (X := Bool × Int) (fun x => [(0, .par 0 (.sl l.length (l.map (.int .i64)))), (1, .par 1 (.sl left.length (left.map (.int .i64)))), (2, .val (.int .i64 n)), (6, .val (.bool x.1)), (7, .val (.int .i64 (first))), (8, .val (.int .i64 x.2))]) (fun x => 0 ≤ x.2 ∧ x.2 ≤ 7 ∧ ∀ j, j < x.2.toNat → ¬ bt (left.getD first.toNat 0) j) (fun x => (7 - x.2).toNat) (_, _) (imp_covers ⟨rfl, rfl, rfl, rfl, rfl, rfl, trivial⟩) ?_ ?_
    · (try dsimp only)
      exact ⟨by omega, by omega, fun j hj => by simp at hj⟩
    · intro x hI
      obtain ⟨t6, bar⟩ := x
      replace hI : 0 ≤ bar ∧ bar ≤ 7 ∧ ∀ j, j < bar.toNat → ¬ bt (left.getD first.toNat 0) j := hI
      show codeT _ _ _ [(0, .par 0 (.sl l.length (l.map (.int .i64)))), (1, .par 1 (.sl left.length (left.map (.int .i64)))), (2, .val (.int .i64 n)), (6, .val (.bool t6)), (7, .val (.int .i64 (first))), (8, .val (.int .i64 bar))] _
      obtain ⟨b1, b2, hbz⟩ := hI
      have hbf2 := hb first.toNat (by omega)
      have hb7 : bar ≤ 6 := by
        by_cases e : bar = 7
        · exfalso; have := bit_ex hbf2.1 hbf2.2 (fun j hj => hbz j (by omega)); omega
        · omega
      have hzb := btz hbf2.1 hbf2.2 (x := bar.toNat)
      refine code_seq (fun K42 hK42 => ?_)
      refine code_seq (fun K43 hK43 => ?_)
      refine code_region ?_
      refine list_cons rfl (op_q (q_move rfl (by decide)) ?_)
      refine list_cons rfl (op_q (q_move rfl (by decide)) ?_)
      refine list_cons rfl (op_q (q_indexAddr_rd sl_27 rfl (.inl ⟨_, rfl, rfl⟩) rfl (by omega) (by omega) (by decide)) ?_)
      refine list_cons rfl (op_q (q_load_rd one_3 rfl (.inl ⟨_, (by first | rfl | exact congrArg (SV.rpar _) (drop_map1 _ 0 _ (by first | omega | (simp; omega)))), rfl⟩) (by decide)) ?_)
      refine list_cons rfl (op_q (q_move rfl (by decide)) ?_)
      refine list_cons rfl (op_q (by first | exact q_shrN rfl rfl (by decide) (by omega) (by omega) (by omega) | exact q_shrI rfl rfl (by decide) (by omega) (by omega) (by omega) | exact q_shr rfl rfl (by omega) (by decide)) ?_)
      refine list_cons rfl (op_q (by first | exact q_andI rfl rfl (by decide) (by omega) (by omega) (by omega) (by omega) | exact q_ib rfl rfl rfl (by decide)) ?_)
      refine list_cons rfl (op_q (q_eq rfl rfl (by decide)) ?_)
      refine list_nil ?_
      refine hK43 _ ?_; clear hK43 K43
      refine codeT.imp (σ' := [(0, _), (1, _), (2, _), (6, _), (7, _), (8, _), (39, _)]) ?_ (imp_covers ⟨rfl, rfl, rfl, rfl, rfl, rfl, rfl, trivial⟩)
      refine code_cond_d rfl (fun h15 => ?_) (fun h15 => ?_)
      · skip
        (try simp only [Decidable.not_not] at h15)
        refine code_skip ?_
        refine hK42 _ ?_; clear hK42 K42
        refine code_block ?_
        refine code_region ?_
        refine list_cons rfl (op_q (q_move rfl (by decide)) ?_)
        refine list_cons rfl (op_q (by first | exact q_addI rfl rfl (by decide) (by omega) (by omega) | exact q_ib rfl rfl rfl (by decide)) ?_)
        refine list_cons rfl (op_q (q_assign rfl (by decide)) ?_)
        refine list_nil ?_
        refine blk_n ?_
        refine then_n ⟨(_, _), imp_covers ⟨rfl, rfl, rfl, rfl, rfl, rfl, trivial⟩, ?_, ?_⟩
        · (try dsimp only)
          first
          | (exfalso; omega)
          | exact ⟨by omega, by omega, fun j hj => by
            by_cases e : j = bar.toNat
            · subst e; exact hzb.1 (by assumption)
            · exact hbz j (by omega)⟩
        · (try dsimp only); omega
      (try simp only [Decidable.not_not] at h15)
      refine code_exit ?_
      refine then_x ?_; clear hK42 K42
      refine then_x ?_
      refine blk_hit ?_
      refine hK41 _ ?_; clear hK41 K41
      refine code_seq (fun K44 hK44 => ?_)
      refine code_seq (fun K45 hK45 => ?_)
      refine code_region ?_
      refine list_cons rfl (op_q (q_assign rfl (by decide)) ?_)
      refine list_nil ?_
      refine hK45 _ ?_; clear hK45 K45
      refine code_block ?_
      refine code_loop (X := Bool × Int) (fun x => [(0, .par 0 (.sl l.length (l.map (.int .i64)))), (1, .par 1 (.sl left.length (left.map (.int .i64)))), (2, .val (.int .i64 n)), (6, .val (.bool x.1)), (7, .val (.int .i64 (first))), (8, .val (.int .i64 (bar))), (9, .val (.int .i64 x.2))]) (fun x => 1 ≤ x.2 ∧ x.2 ≤ ((p2 l.length : Nat) : Int) ∧ ∀ c : Nat, (c : Int) < x.2 → ¬ (Cnd l left c ∧ Cov l (n - 1) (lfK l left c left.length))) (fun x => (((p2 l.length : Nat) : Int) - x.2).toNat) (_, _) (imp_covers ⟨rfl, rfl, rfl, rfl, rfl, rfl, rfl, trivial⟩) ?_ ?_
      · (try dsimp only)
        exact ⟨by omega, by omega, fun c hc hx => absurd hx.1.1 (by omega)⟩
      · intro x hI
        obtain ⟨t6, cells⟩ := x
        replace hI : 1 ≤ cells ∧ cells ≤ ((p2 l.length : Nat) : Int) ∧ ∀ c : Nat, (c : Int) < cells → ¬ (Cnd l left c ∧ Cov l (n - 1) (lfK l left c left.length)) := hI
        show codeT _ _ _ [(0, .par 0 (.sl l.length (l.map (.int .i64)))), (1, .par 1 (.sl left.length (left.map (.int .i64)))), (2, .val (.int .i64 n)), (6, .val (.bool t6)), (7, .val (.int .i64 (first))), (8, .val (.int .i64 (bar))), (9, .val (.int .i64 cells))] _
        obtain ⟨c1, c2, hcz⟩ := hI
        have hfb := flF_bd l cells
        have hz1 := fun h : cells ≤ 127 => btz (v := cells) (x := first.toNat) (by omega) h
        have hfs : fsI left = first.toNat := fsI_eq (i := first.toNat) (by omega) hf (by omega)
        have hlb : lbI (left.getD first.toNat 0).toNat = bar.toNat := by first | (exfalso; omega) | exact lbI_eq hbf2.1 hbf2.2 (b := bar.toNat) (by omega) hbz (Decidable.not_not.1 (mt hzb.2 (by assumption)))
        have hz2 := btz hfb.1 hfb.2 (x := bar.toNat)
        refine code_seq (fun K46 hK46 => ?_)
        refine code_seq (fun K47 hK47 => ?_)
        refine code_region ?_
        refine list_cons rfl (op_q (q_move rfl (by decide)) ?_)
        refine list_cons rfl (op_q (q_move rfl (by decide)) ?_)
        refine list_cons rfl (op_q (q_len_sl Try.underlying27 rfl rfl (by decide)) ?_)
        refine list_cons rfl (op_q (by first | exact q_shl1 rfl rfl (by decide) (by omega) (by omega) | exact q_shlI rfl rfl (by decide) (by omega) (by omega) (by omega) | exact q_shl rfl rfl (by omega) (by decide)) ?_)
        refine list_cons rfl (op_q (q_lt rfl rfl (by decide)) ?_)
        refine list_nil ?_
        refine hK47 _ ?_; clear hK47 K47
        refine code_cond_d rfl (fun h16 => ?_) (fun h16 => ?_)
        · skip
          (try simp only [Decidable.not_not] at h16)
          refine code_skip ?_
          refine hK46 _ ?_; clear hK46 K46
          refine code_seq (fun K48 hK48 => ?_)
          refine code_block ?_
          refine code_seq (fun K49 hK49 => ?_)
          refine code_region ?_
          refine list_cons rfl (op_q (q_move rfl (by decide)) ?_)
          refine list_cons rfl (op_q (q_move rfl (by decide)) ?_)
          refine list_cons rfl (op_call _ (spec_l8Full l cells hl (by omega)) rfl rfl (by decide) (by decide) (by decide) rfl ?_)
          rintro _ rfl
          refine list_cons rfl (op_q (q_assign rfl (by decide)) ?_)
          refine list_nil ?_
          refine hK49 _ ?_; clear hK49 K49
          refine codeT.imp (σ' := [(0, _), (1, _), (2, _), (6, _), (7, _), (8, _), (9, _), (10, _)]) ?_ (imp_covers ⟨rfl, rfl, rfl, rfl, rfl, rfl, rfl, rfl, trivial⟩)
          refine code_seq (fun K50 hK50 => ?_)
          refine code_seq (fun K51 hK51 => ?_)
          refine code_region ?_
          refine list_cons rfl (op_q (q_move rfl (by decide)) ?_)
          refine list_cons rfl (op_q (q_move rfl (by decide)) ?_)
          refine list_cons rfl (op_q (by first | exact q_shrN rfl rfl (by decide) (by omega) (by omega) (by omega) | exact q_shrI rfl rfl (by decide) (by omega) (by omega) (by omega) | exact q_shr rfl rfl (by omega) (by decide)) ?_)
          refine list_cons rfl (op_q (by first | exact q_andI rfl rfl (by decide) (by omega) (by omega) (by omega) (by omega) | exact q_ib rfl rfl rfl (by decide)) ?_)
          refine list_cons rfl (op_q (q_eq rfl rfl (by decide)) ?_)
          refine list_cons rfl (op_q (q_move rfl (by decide)) ?_)
          refine list_guard_d rfl rfl rfl rfl (by decide) rfl (by decide) (fun h17 => ?_) (fun h17 => ?_)
          · simp only [Bool.false_eq_true, if_true, if_false, Decidable.not_not] at h17
            refine id (op_q (q_move rfl (by decide)) ?_)
            refine list_guard_y rfl rfl rfl rfl (by decide) rfl ?_
            refine id (op_q (q_move rfl (by decide)) ?_)
            refine list_guard_y rfl rfl rfl rfl (by decide) rfl ?_
            refine id (op_q (by first | exact q_shrN rfl rfl (by decide) (by omega) (by omega) (by omega) | exact q_shrI rfl rfl (by decide) (by omega) (by omega) (by omega) | exact q_shr rfl rfl (by omega) (by decide)) ?_)
            refine list_guard_y rfl rfl rfl rfl (by decide) rfl ?_
            refine id (op_q (by first | exact q_andI rfl rfl (by decide) (by omega) (by omega) (by omega) (by omega) | exact q_ib rfl rfl rfl (by decide)) ?_)
            refine list_guard_y rfl rfl rfl rfl (by decide) rfl ?_
            refine id (op_q (q_eq rfl rfl (by decide)) ?_)
            refine list_cons rfl (op_q (q_pick rfl rfl (by decide)) ?_)
            refine list_cons rfl (op_q (q_move rfl (by decide)) ?_)
            refine list_guard_d rfl rfl rfl rfl (by decide) rfl (by decide) (fun h18 => ?_) (fun h18 => ?_)
            · simp only [Bool.false_eq_true, if_true, if_false, Decidable.not_not] at h18
              refine id (op_q (q_move rfl (by decide)) ?_)
              refine list_guard_y rfl rfl rfl rfl (by decide) rfl ?_
              refine id (op_q (q_move rfl (by decide)) ?_)
              refine list_guard_y rfl rfl rfl rfl (by decide) rfl ?_
              refine id (op_q (q_move rfl (by decide)) ?_)
              refine list_guard_y rfl rfl rfl rfl (by decide) rfl ?_
              refine id (op_call _ (spec_l8Whole l cells (flF l cells) hl (by omega) (flF_bd _ _)) rfl rfl (by decide) (by decide) (by decide) rfl ?_)
              rintro _ rfl
              refine list_guard_y rfl rfl rfl rfl (by decide) rfl ?_
              refine id (op_q (by first | exact q_notd rfl (by decide) | exact q_not rfl (by decide)) ?_)
              refine list_cons rfl (op_q (q_pick rfl rfl (by decide)) ?_)
              refine list_nil ?_
              refine hK51 _ ?_; clear hK51 K51
              refine codeT.imp (σ' := [(0, _), (1, _), (2, _), (6, _), (7, _), (8, _), (9, _), (10, _), (70, _)]) ?_ (imp_covers ⟨rfl, rfl, rfl, rfl, rfl, rfl, rfl, rfl, rfl, trivial⟩)
              refine code_cond_d rfl (fun h19 => ?_) (fun h19 => ?_)
              · skip
                (try simp only [Decidable.not_not] at h19)
                refine code_exit ?_
                refine then_x ?_; clear hK50 K50
                refine blk_hit ?_
                refine hK48 _ ?_; clear hK48 K48
                refine code_region ?_
                refine list_cons rfl (op_q (q_move rfl (by decide)) ?_)
                refine list_cons rfl (op_q (by first | exact q_addI rfl rfl (by decide) (by omega) (by omega) | exact q_ib rfl rfl rfl (by decide)) ?_)
                refine list_cons rfl (op_q (q_assign rfl (by decide)) ?_)
                refine list_nil ?_
                refine then_n ⟨(_, _), imp_covers ⟨rfl, rfl, rfl, rfl, rfl, rfl, rfl, trivial⟩, ?_, ?_⟩
                · (try dsimp only)
                  first
                  | (exfalso; omega)
                  | exact ⟨by omega, by omega, fun c hc hx => by
                      by_cases e : (c : Int) = cells
                      · obtain ⟨⟨_, q1, q2, q3⟩, hx2⟩ := hx
                        rw [e, hfs] at q1
                        rw [e, hfs, hlb] at q2
                        rw [e] at q3 hx2
                        first
                        | exact (hz1 (by omega)).1 (by assumption) q1
                        | exact hz2.1 (by assumption) q2
                        | exact absurd q3 (by assumption)
                        | exact absurd hx2 (by assumption)
                      · exact hcz c (by omega) hx⟩
                · (try dsimp only); omega
              (try simp only [Decidable.not_not] at h19)
              refine code_skip ?_
              refine hK50 _ ?_; clear hK50 K50
              refine code_seq (fun K52 hK52 => ?_)
              refine code_region ?_
              refine list_cons rfl (op_q (q_move rfl (by decide)) ?_)
              refine list_cons rfl (op_call _ (spec_l1Own8 left (by omega)) rfl rfl (by decide) (by decide) (by decide) rfl ?_)
              rintro _ rfl
              refine list_cons rfl (op_q (q_assign rfl (by decide)) ?_)
              refine list_nil ?_
              refine hK52 _ ?_; clear hK52 K52
              refine codeT.imp (σ' := [(0, _), (1, _), (2, _), (6, _), (7, _), (8, _), (9, _), (10, _), (11, _)]) ?_ (imp_covers ⟨rfl, rfl, rfl, rfl, rfl, rfl, rfl, rfl, rfl, trivial⟩)
              refine code_seq (fun K53 hK53 => ?_)
              refine code_seq (fun K54 hK54 => ?_)
              refine code_region ?_
              refine list_cons rfl (op_q (q_assign rfl (by decide)) ?_)
              refine list_nil ?_
              refine hK54 _ ?_; clear hK54 K54
              refine code_block ?_
              refine code_loop (X := Bool × Nat × List PV × Int) (fun x => [(0, .par 0 (.sl l.length (l.map (.int .i64)))), (1, .par 1 (.sl left.length (left.map (.int .i64)))), (2, .val (.int .i64 n)), (6, .val (.bool x.1)), (7, .val (.int .i64 (first))), (8, .val (.int .i64 (bar))), (9, .val (.int .i64 (cells))), (10, .val (.int .i64 (flF l cells))), (11, .own 72 3 1 x.2.1 x.2.2.1), (12, .val (.int .i64 x.2.2.2))]) (fun x => 0 ≤ x.2.2.2 ∧ x.2.2.2 ≤ l.length ∧ x.2.1 = left.length ∧ x.2.2.1 = (lfK l left cells x.2.2.2.toNat).map (.int .i64)) (fun x => (l.length - x.2.2.2).toNat) (_, _, _, _) (imp_covers ⟨rfl, rfl, rfl, rfl, rfl, rfl, rfl, rfl, rfl, rfl, trivial⟩) ?_ ?_
              · (try dsimp only)
                exact ⟨by omega, by omega, rfl, congrArg (List.map _) (lfK_0 l left cells)⟩
              · intro x hI
                obtain ⟨t6, rest_n, rest_c, i⟩ := x
                replace hI : 0 ≤ i ∧ i ≤ l.length ∧ rest_n = left.length ∧ rest_c = (lfK l left cells i.toNat).map (.int .i64) := hI
                show codeT _ _ _ [(0, .par 0 (.sl l.length (l.map (.int .i64)))), (1, .par 1 (.sl left.length (left.map (.int .i64)))), (2, .val (.int .i64 n)), (6, .val (.bool t6)), (7, .val (.int .i64 (first))), (8, .val (.int .i64 (bar))), (9, .val (.int .i64 (cells))), (10, .val (.int .i64 (flF l cells))), (11, .own 72 3 1 rest_n rest_c), (12, .val (.int .i64 i))] _
                obtain ⟨i1, i2, rfl, rfl⟩ := hI
                have hbi := fun h : i < l.length => lfK_bd (l := l) (c := cells) (m := i.toNat) hb i.toNat (by rw [lfK_len]; omega)
                refine code_seq (fun K55 hK55 => ?_)
                refine code_seq (fun K56 hK56 => ?_)
                refine code_region ?_
                refine list_cons rfl (op_q (q_move rfl (by decide)) ?_)
                refine list_cons rfl (op_q (q_move rfl (by decide)) ?_)
                refine list_cons rfl (op_q (q_len_sl Try.underlying27 rfl rfl (by decide)) ?_)
                refine list_cons rfl (op_q (q_lt rfl rfl (by decide)) ?_)
                refine list_nil ?_
                refine hK56 _ ?_; clear hK56 K56
                refine code_cond_d rfl (fun h20 => ?_) (fun h20 => ?_)
                · skip
                  (try simp only [Decidable.not_not] at h20)
                  refine code_skip ?_
                  refine hK55 _ ?_; clear hK55 K55
                  refine code_seq (fun K57 hK57 => ?_)
                  refine code_block ?_
                  refine code_seq (fun K58 hK58 => ?_)
                  refine code_region ?_
                  refine list_cons rfl (op_q (q_move rfl (by decide)) ?_)
                  refine list_cons rfl (op_q (q_move rfl (by decide)) ?_)
                  refine list_cons rfl (op_q (by first | exact q_shrN rfl rfl (by decide) (by omega) (by omega) (by omega) | exact q_shrI rfl rfl (by decide) (by omega) (by omega) (by omega) | exact q_shr rfl rfl (by omega) (by decide)) ?_)
                  refine list_cons rfl (op_q (by first | exact q_andI rfl rfl (by decide) (by omega) (by omega) (by omega) (by omega) | exact q_ib rfl rfl rfl (by decide)) ?_)
                  refine list_cons rfl (op_q (q_eq rfl rfl (by decide)) ?_)
                  refine list_nil ?_
                  refine hK58 _ ?_; clear hK58 K58
                  refine codeT.imp (σ' := [(0, _), (1, _), (2, _), (6, _), (7, _), (8, _), (9, _), (10, _), (11, _), (12, _), (83, _)]) ?_ (imp_covers ⟨rfl, rfl, rfl, rfl, rfl, rfl, rfl, rfl, rfl, rfl, rfl, trivial⟩)
                  refine code_cond_d rfl (fun h21 => ?_) (fun h21 => ?_)
                  · skip
                    (try simp only [Decidable.not_not] at h21)
                    refine code_region ?_
                    refine list_cons rfl (op_q (q_move rfl (by decide)) ?_)
                    refine list_cons rfl (op_q (q_move rfl (by decide)) ?_)
                    refine list_cons rfl (op_q (q_move rfl (by decide)) ?_)
                    refine list_cons rfl (op_q (q_move rfl (by decide)) ?_)
                    refine list_cons rfl (op_q (q_indexAddr_own sl_27 rfl rfl (by omega) (by omega) (by decide)) ?_)
                    refine list_cons rfl (op_q (q_load one_3 11 rfl rfl rfl (get_map1 (PV.int .i64) 0 _ (by rw [lfK_len]; omega)) (by decide)) ?_)
                    refine list_cons rfl (op_q (q_move rfl (by decide)) ?_)
                    refine list_cons rfl (op_q (by first | exact q_andNotI rfl rfl (by decide) (by omega) (by omega) (by omega) (by omega) | exact q_ib rfl rfl rfl (by decide)) ?_)
                    refine list_cons rfl (op_q (q_indexAddr_own sl_27 rfl rfl (by omega) (by omega) (by decide)) ?_)
                    refine list_cons rfl (op_store (one_3).2 11 [11, 84, 86] (by intro t ht; simp only [List.mem_cons, List.not_mem_nil, or_false] at ht; rcases ht with rfl | rfl | rfl <;> rfl) (.inl rfl) rfl rfl rfl rfl rfl rfl (by rw [List.length_map, lfK_len]; omega) (by decide) rfl ?_)
                    refine list_nil ?_
                    refine blk_n ?_
                    refine hK57 _ ?_; clear hK57 K57
                    refine codeT.imp (σ' := [(0, _), (1, _), (2, _), (6, _), (7, _), (8, _), (9, _), (10, _), (11, _), (12, _)]) ?_ (imp_covers ⟨rfl, rfl, rfl, rfl, rfl, rfl, rfl, rfl, rfl, rfl, trivial⟩)
                    refine code_region ?_
                    refine list_cons rfl (op_q (q_move rfl (by decide)) ?_)
                    refine list_cons rfl (op_q (by first | exact q_addI rfl rfl (by decide) (by omega) (by omega) | exact q_ib rfl rfl rfl (by decide)) ?_)
                    refine list_cons rfl (op_q (q_assign rfl (by decide)) ?_)
                    refine list_nil ?_
                    refine then_n ⟨(_, _, _, _), imp_covers ⟨rfl, rfl, rfl, rfl, rfl, rfl, rfl, rfl, rfl, rfl, trivial⟩, ?_, ?_⟩
                    · (try dsimp only)
                      first
                      | (exfalso; omega)
                      | exact ⟨by omega, by omega, rfl, by rw [show (i + 1).toNat = i.toNat + 1 by omega]; exact lfK_put (by omega) rfl (show bt cells i.toNat by assumption) rfl⟩
                      | exact ⟨by omega, by omega, rfl, by rw [show (i + 1).toNat = i.toNat + 1 by omega, ← lfK_no (show ¬ bt cells i.toNat by assumption)]⟩
                    · (try dsimp only); omega
                  (try simp only [Decidable.not_not] at h21)
                  refine code_skip ?_
                  refine blk_n ?_
                  refine hK57 _ ?_; clear hK57 K57
                  refine code_region ?_
                  refine list_cons rfl (op_q (q_move rfl (by decide)) ?_)
                  refine list_cons rfl (op_q (by first | exact q_addI rfl rfl (by decide) (by omega) (by omega) | exact q_ib rfl rfl rfl (by decide)) ?_)
                  refine list_cons rfl (op_q (q_assign rfl (by decide)) ?_)
                  refine list_nil ?_
                  refine then_n ⟨(_, _, _, _), imp_covers ⟨rfl, rfl, rfl, rfl, rfl, rfl, rfl, rfl, rfl, rfl, trivial⟩, ?_, ?_⟩
                  · (try dsimp only)
                    first
                    | (exfalso; omega)
                    | exact ⟨by omega, by omega, rfl, by rw [show (i + 1).toNat = i.toNat + 1 by omega]; exact lfK_put (by omega) rfl (show bt cells i.toNat by assumption) rfl⟩
                    | exact ⟨by omega, by omega, rfl, by rw [show (i + 1).toNat = i.toNat + 1 by omega, ← lfK_no (show ¬ bt cells i.toNat by assumption)]⟩
                  · (try dsimp only); omega
                (try simp only [Decidable.not_not] at h20)
                refine code_exit ?_
                refine then_x ?_; clear hK55 K55
                refine then_x ?_
                refine blk_hit ?_
                refine hK53 _ ?_; clear hK53 K53
                refine code_seq (fun K59 hK59 => ?_)
                refine code_region ?_
                refine list_cons rfl (op_q (q_move rfl (by decide)) ?_)
                refine list_cons rfl (op_q (q_move rfl (by decide)) ?_)
                refine list_cons rfl (op_q (q_move rfl (by decide)) ?_)
                refine list_cons rfl (op_q (by first | exact q_subI rfl rfl (by decide) (by omega) (by omega) | exact q_ib rfl rfl rfl (by decide)) ?_)
                refine list_cons rfl (op_call _ (IH (n - 1) (lfK l left cells left.length) _ _ _ (by omega) (by omega) (by rw [lfK_len]) (by rw [show i.toNat = left.length by omega]) (by rw [lfK_len]; exact hL) (lfK_bd hb)) rfl rfl (by decide) (by decide) (by decide) rfl ?_)
                rintro _ rfl
                refine list_nil ?_
                refine hK59 _ ?_; clear hK59 K59
                refine codeT.imp (σ' := [(0, _), (1, _), (2, _), (6, _), (7, _), (8, _), (9, _), (10, _), (11, _), (12, _), (97, _)]) ?_ (imp_covers ⟨rfl, rfl, rfl, rfl, rfl, rfl, rfl, rfl, rfl, rfl, rfl, trivial⟩)
                refine code_cond_d rfl (fun h22 => ?_) (fun h22 => ?_)
                · skip
                  (try simp only [Decidable.not_not] at h22)
                  refine code_seq (fun K60 hK60 => ?_)
                  refine code_region ?_
                  refine list_cons rfl (op_q (q_assign rfl (by decide)) ?_)
                  refine list_nil ?_
                  refine hK60 _ ?_; clear hK60 K60
                  refine code_ret ?_
                  refine blk_r ?_
                  refine then_r ?_; clear hK48 K48
                  refine then_r ?_
                  refine blk_r ?_
                  refine then_r ?_; clear hK44 K44
                  refine ends_ret (cs := []) rfl rfl rfl rfl trivial ?_
                  first
                  | (exfalso; omega)
                  | (rw [decide_eq_true (cov_z (l := l) (fun j hj => hf j (by omega)) n)]; done)
                  | (have h0 : n = 0 := by omega
                     subst h0
                     rw [decide_eq_false (fun z : Cov l 0 left => absurd ((show AllZ left from z) first.toNat (by omega)) (by assumption))]; done)
                  | (have hd : Cnd l left cells.toNat := ⟨by omega, by rw [Int.toNat_of_nonneg (by omega), hfs]; exact Decidable.not_not.1 (mt (hz1 (by omega)).2 (by assumption)), by rw [Int.toNat_of_nonneg (by omega), hfs, hlb]; exact Decidable.not_not.1 (mt hz2.2 (by assumption)), by rw [Int.toNat_of_nonneg (by omega)]; assumption⟩
                     rw [decide_eq_true ((cov_iff (l := l) (left := left) (show 0 < n by omega)).2 (.inr ⟨cells.toNat, by omega, hd, by rw [Int.toNat_of_nonneg (by omega)]; assumption⟩))]; done)
                  | (rw [decide_eq_false (fun z => by
                       rcases (cov_iff (l := l) (left := left) (show 0 < n by omega)).1 z with k | ⟨c, k1, k2, k3⟩
                       · exact absurd (k first.toNat (by omega)) (by omega)
                       · exact hcz c (by omega) ⟨k2, k3⟩)]; done)
                (try simp only [Decidable.not_not] at h22)
                refine code_skip ?_
                refine blk_n ?_
                refine hK48 _ ?_; clear hK48 K48
                refine code_region ?_
                refine list_cons rfl (op_q (q_move rfl (by decide)) ?_)
                refine list_cons rfl (op_q (by first | exact q_addI rfl rfl (by decide) (by omega) (by omega) | exact q_ib rfl rfl rfl (by decide)) ?_)
                refine list_cons rfl (op_q (q_assign rfl (by decide)) ?_)
                refine list_nil ?_
                refine then_n ⟨(_, _), imp_covers ⟨rfl, rfl, rfl, rfl, rfl, rfl, rfl, trivial⟩, ?_, ?_⟩
                · (try dsimp only)
                  first
                  | (exfalso; omega)
                  | exact ⟨by omega, by omega, fun c hc hx => by
                      by_cases e : (c : Int) = cells
                      · obtain ⟨⟨_, q1, q2, q3⟩, hx2⟩ := hx
                        rw [e, hfs] at q1
                        rw [e, hfs, hlb] at q2
                        rw [e] at q3 hx2
                        first
                        | exact (hz1 (by omega)).1 (by assumption) q1
                        | exact hz2.1 (by assumption) q2
                        | exact absurd q3 (by assumption)
                        | exact absurd hx2 (by assumption)
                      · exact hcz c (by omega) hx⟩
                · (try dsimp only); omega
            simp only [Bool.false_eq_true, if_true, if_false, Decidable.not_not] at h18
            refine list_guard_nT rfl rfl rfl rfl (by decide) (by decide) ?_
            refine list_guard_nT rfl rfl rfl rfl (by decide) (by decide) ?_
            refine list_guard_nT rfl rfl rfl rfl (by decide) (by decide) ?_
            refine list_guard_nT rfl rfl rfl rfl (by decide) (by decide) ?_
            refine list_cons rfl (op_q (q_pick rfl rfl (by decide)) ?_)
            refine list_nil ?_
            refine hK51 _ ?_; clear hK51 K51
            refine codeT.imp (σ' := [(0, _), (1, _), (2, _), (6, _), (7, _), (8, _), (9, _), (10, _), (70, _)]) ?_ (imp_covers ⟨rfl, rfl, rfl, rfl, rfl, rfl, rfl, rfl, rfl, trivial⟩)
            refine code_cond_t rfl ?_
            refine code_exit ?_
            refine then_x ?_; clear hK50 K50
            refine blk_hit ?_
            refine hK48 _ ?_; clear hK48 K48
            refine code_region ?_
            refine list_cons rfl (op_q (q_move rfl (by decide)) ?_)
            refine list_cons rfl (op_q (by first | exact q_addI rfl rfl (by decide) (by omega) (by omega) | exact q_ib rfl rfl rfl (by decide)) ?_)
            refine list_cons rfl (op_q (q_assign rfl (by decide)) ?_)
            refine list_nil ?_
            refine then_n ⟨(_, _), imp_covers ⟨rfl, rfl, rfl, rfl, rfl, rfl, rfl, trivial⟩, ?_, ?_⟩
            · (try dsimp only)
              first
              | (exfalso; omega)
              | exact ⟨by omega, by omega, fun c hc hx => by
                  by_cases e : (c : Int) = cells
                  · obtain ⟨⟨_, q1, q2, q3⟩, hx2⟩ := hx
                    rw [e, hfs] at q1
                    rw [e, hfs, hlb] at q2
                    rw [e] at q3 hx2
                    first
                    | exact (hz1 (by omega)).1 (by assumption) q1
                    | exact hz2.1 (by assumption) q2
                    | exact absurd q3 (by assumption)
                    | exact absurd hx2 (by assumption)
                  · exact hcz c (by omega) hx⟩
            · (try dsimp only); omega
          simp only [Bool.false_eq_true, if_true, if_false, Decidable.not_not] at h17
          refine list_guard_nT rfl rfl rfl rfl (by decide) (by decide) ?_
          refine list_guard_nT rfl rfl rfl rfl (by decide) (by decide) ?_
          refine list_guard_nT rfl rfl rfl rfl (by decide) (by decide) ?_
          refine list_guard_nT rfl rfl rfl rfl (by decide) (by decide) ?_
          refine list_cons rfl (op_q (q_pick rfl rfl (by decide)) ?_)
          refine list_cons rfl (op_q (q_move rfl (by decide)) ?_)
          refine list_guard_nT rfl rfl rfl rfl (by decide) (by decide) ?_
          refine list_guard_nT rfl rfl rfl rfl (by decide) (by decide) ?_
          refine list_guard_nT rfl rfl rfl rfl (by decide) (by decide) ?_
          refine list_guard_nT rfl rfl rfl rfl (by decide) (by decide) ?_
          refine list_guard_nT rfl rfl rfl rfl (by decide) (by decide) ?_
          refine list_cons rfl (op_q (q_pick rfl rfl (by decide)) ?_)
          refine list_nil ?_
          refine hK51 _ ?_; clear hK51 K51
          refine codeT.imp (σ' := [(0, _), (1, _), (2, _), (6, _), (7, _), (8, _), (9, _), (10, _), (70, _)]) ?_ (imp_covers ⟨rfl, rfl, rfl, rfl, rfl, rfl, rfl, rfl, rfl, trivial⟩)
          refine code_cond_t rfl ?_
          refine code_exit ?_
          refine then_x ?_; clear hK50 K50
          refine blk_hit ?_
          refine hK48 _ ?_; clear hK48 K48
          refine code_region ?_
          refine list_cons rfl (op_q (q_move rfl (by decide)) ?_)
          refine list_cons rfl (op_q (by first | exact q_addI rfl rfl (by decide) (by omega) (by omega) | exact q_ib rfl rfl rfl (by decide)) ?_)
          refine list_cons rfl (op_q (q_assign rfl (by decide)) ?_)
          refine list_nil ?_
          refine then_n ⟨(_, _), imp_covers ⟨rfl, rfl, rfl, rfl, rfl, rfl, rfl, trivial⟩, ?_, ?_⟩
          · (try dsimp only)
            first
            | (exfalso; omega)
            | exact ⟨by omega, by omega, fun c hc hx => by
                by_cases e : (c : Int) = cells
                · obtain ⟨⟨_, q1, q2, q3⟩, hx2⟩ := hx
                  rw [e, hfs] at q1
                  rw [e, hfs, hlb] at q2
                  rw [e] at q3 hx2
                  first
                  | exact (hz1 (by omega)).1 (by assumption) q1
                  | exact hz2.1 (by assumption) q2
                  | exact absurd q3 (by assumption)
                  | exact absurd hx2 (by assumption)
                · exact hcz c (by omega) hx⟩
          · (try dsimp only); omega
        (try simp only [Decidable.not_not] at h16)
        refine code_exit ?_
        refine then_x ?_; clear hK46 K46
        refine then_x ?_
        refine blk_hit ?_
        refine hK44 _ ?_; clear hK44 K44
        refine code_seq (fun K61 hK61 => ?_)
        refine code_region ?_
        refine list_cons rfl (op_q (q_assign rfl (by decide)) ?_)
        refine list_nil ?_
        refine hK61 _ ?_; clear hK61 K61
        refine code_ret ?_
        refine ends_ret (cs := []) rfl rfl rfl rfl trivial ?_
        first
        | (exfalso; omega)
        | (rw [decide_eq_true (cov_z (l := l) (fun j hj => hf j (by omega)) n)]; done)
        | (have h0 : n = 0 := by omega
           subst h0
           rw [decide_eq_false (fun z : Cov l 0 left => absurd ((show AllZ left from z) first.toNat (by omega)) (by assumption))]; done)
        | (have hd : Cnd l left cells.toNat := ⟨by omega, by rw [Int.toNat_of_nonneg (by omega), hfs]; exact Decidable.not_not.1 (mt (hz1 (by omega)).2 (by assumption)), by rw [Int.toNat_of_nonneg (by omega), hfs, hlb]; exact Decidable.not_not.1 (mt hz2.2 (by assumption)), by rw [Int.toNat_of_nonneg (by omega)]; assumption⟩
           rw [decide_eq_true ((cov_iff (l := l) (left := left) (show 0 < n by omega)).2 (.inr ⟨cells.toNat, by omega, hd, by rw [Int.toNat_of_nonneg (by omega)]; assumption⟩))]; done)
        | (rw [decide_eq_false (fun z => by
             rcases (cov_iff (l := l) (left := left) (show 0 < n by omega)).1 z with k | ⟨c, k1, k2, k3⟩
             · exact absurd (k first.toNat (by omega)) (by omega)
             · exact hcz c (by omega) ⟨k2, k3⟩)]; done)
theorem spec_l8Cover (l : List Int) (hl : RowP l) (hp : 0 < l.length) : ∀ (n : Nat) (left : List Int) (x : Int) (k : Nat) (cs : List PV), n ≤ 1000 → x = n → k = left.length → cs = left.map (.int .i64) → left.length = l.length → (∀ j, j < left.length → 0 ≤ left.getD j 0 ∧ left.getD j 0 ≤ 127) → PCalls Try.prog 66 [.sl l.length (l.map (.int .i64)), .sl k cs, .int .i64 x] (· = [.val (.bool (decide (Cov l n left)))])
  | 0, left, x, k, cs, h, hx, hk, hcs, hL, hb => by
    subst hx; subst hk; subst hcs
    exact spec_l8CovStep l left 0 h hl hp hL hb (fun m left2 x k cs e => absurd e (by omega))
  | n + 1, left, x, k, cs, h, hx, hk, hcs, hL, hb => by
    subst hx; subst hk; subst hcs
    exact spec_l8CovStep l left (n + 1) h hl hp hL hb (fun m left2 x k cs e hx hk hcs hL hb => by
      have e2 : m = n := by omega
      subst e2
      exact spec_l8Cover l hl hp m left2 x k cs (by omega) hx hk hcs hL hb)
set_option maxRecDepth 8000 in
set_option maxHeartbeats 4000000 in
theorem spec_LeastSlots (l : List Int) (hl : l.length ≤ 1048576) : PCalls Try.prog 25 [.sl l.length (l.map (.int .i64))] (fun rs => ∃ n : Nat, (PlnP l → n ≤ nzC l ∧ Cov l n l ∧ ∀ m, m < n → ¬ Cov l m l) ∧ rs = [.val (.int .i64 (if PlnP l then (n : Int) else 0)), .val (.bool (decide (PlnP l)))]) := by
  refine pcalls_of_code (n := 21) az Try.func25 (by kernel_rfl) rfl rfl (Nat.le_of_ble_eq_true rfl) (by intro t u h; simp [Try.f25] at h) ?_
  refine code_seq (fun K1 hK1 => ?_)
  refine code_region ?_
  refine list_cons rfl (op_q (q_assign rfl (by decide)) ?_)
  refine list_cons rfl (op_q (q_assign rfl (by decide)) ?_)
  refine list_nil ?_
  refine hK1 _ ?_; clear hK1 K1
  refine code_seq (fun K2 hK2 => ?_)
  refine code_seq (fun K3 hK3 => ?_)
  refine code_region ?_
  refine list_cons rfl (op_q (q_move rfl (by decide)) ?_)
  refine list_cons rfl (op_call _ (spec_l2Row _ (by first | omega | (simp; omega))) rfl rfl (by decide) (by decide) (by decide) rfl ?_)
  rintro _ rfl
  refine list_cons rfl (op_q (by first | exact q_notd rfl (by decide) | exact q_not rfl (by decide)) ?_)
  refine list_cons rfl (op_q (q_move rfl (by decide)) ?_)
  refine list_guard_d rfl rfl rfl rfl (by decide) rfl (by decide) (fun h1 => ?_) (fun h1 => ?_)
  · simp only [Bool.false_eq_true, if_true, if_false, Decidable.not_not] at h1
    (try simp only [Decidable.not_not] at h1)
    refine id (op_q (q_move rfl (by decide)) ?_)
    refine list_guard_y rfl rfl rfl rfl (by decide) rfl ?_
    refine id (op_q (q_len_sl Try.underlying27 rfl rfl (by decide)) ?_)
    refine list_guard_y rfl rfl rfl rfl (by decide) rfl ?_
    refine id (op_q (q_eq rfl rfl (by decide)) ?_)
    refine list_cons rfl (op_q (q_pick rfl rfl (by decide)) ?_)
    refine list_nil ?_
    refine hK3 _ ?_; clear hK3 K3
    refine codeT.imp (σ' := [(0, _), (2, _), (3, _), (12, _)]) ?_ (imp_covers ⟨rfl, rfl, rfl, rfl, trivial⟩)
    refine code_cond_d rfl (fun h2 => ?_) (fun h2 => ?_)
    · skip
      (try simp only [Decidable.not_not] at h2)
      refine code_seq (fun K4 hK4 => ?_)
      refine code_region ?_
      refine list_cons rfl (op_q (q_assign rfl (by decide)) ?_)
      refine list_cons rfl (op_q (q_assign rfl (by decide)) ?_)
      refine list_nil ?_
      refine hK4 _ ?_; clear hK4 K4
      refine code_ret ?_
      refine then_r ?_; clear hK2 K2
      refine ends_ret (cs := []) rfl rfl rfl rfl trivial ?_
      first
        | (have hP : ¬ PlnP l := fun z => by have z1 := z.1; have z2 := z.2; first | contradiction | omega
           refine ⟨0, fun z => absurd z hP, ?_⟩
           simp only [if_neg hP, decide_eq_false hP]; done)
        | (refine ⟨n.toNat, fun _ => ⟨by omega, by assumption, hn⟩, ?_⟩
           simp only [if_pos hP, decide_eq_true hP, Int.toNat_of_nonneg n1]; done)
    (try simp only [Decidable.not_not] at h2)
    refine code_skip ?_
    refine hK2 _ ?_; clear hK2 K2
    refine code_seq (fun K5 hK5 => ?_)
    refine code_region ?_
    refine list_cons rfl (op_q (q_assign rfl (by decide)) ?_)
    refine list_nil ?_
    refine hK5 _ ?_; clear hK5 K5
    refine code_seq (fun K6 hK6 => ?_)
    refine code_block ?_
    refine code_loop (X := Int × Bool × Int) (fun x => [(0, .par 0 (.sl l.length (l.map (.int .i64)))), (2, .val (.int .i64 x.1)), (3, .val (.bool x.2.1)), (4, .val (.int .i64 x.2.2))]) (fun x => PlnP l ∧ 0 ≤ x.2.2 ∧ x.2.2 ≤ nzC l ∧ ∀ m, m < x.2.2.toNat → ¬ Cov l m l) (fun x => (nzC l - x.2.2).toNat) (_, _, _) (imp_covers ⟨rfl, rfl, rfl, rfl, trivial⟩) ?_ ?_
    · (try dsimp only)
      exact ⟨⟨by assumption, by omega⟩, by omega, by omega, fun m hm => by simp at hm⟩
    · intro x hI
      obtain ⟨t2, t3, n⟩ := x
      replace hI : PlnP l ∧ 0 ≤ n ∧ n ≤ nzC l ∧ ∀ m, m < n.toNat → ¬ Cov l m l := hI
      show codeT _ _ _ [(0, .par 0 (.sl l.length (l.map (.int .i64)))), (2, .val (.int .i64 t2)), (3, .val (.bool t3)), (4, .val (.int .i64 n))] _
      obtain ⟨hP, n1, n2, hn⟩ := hI
      have hz := nzC_len l
      have h6 := hP.1.1
      have hlt : ¬ Cov l n.toNat l → n < nzC l := fun h => by
        by_cases e : n = nzC l
        · exact absurd (cov_all hP.1) (by rw [show nzC l = n.toNat by omega]; exact h)
        · omega
      refine code_seq (fun K7 hK7 => ?_)
      refine code_seq (fun K8 hK8 => ?_)
      refine code_region ?_
      refine list_cons rfl (op_q (q_move rfl (by decide)) ?_)
      refine list_cons rfl (op_q (q_move rfl (by decide)) ?_)
      refine list_cons rfl (op_q (q_move rfl (by decide)) ?_)
      refine list_cons rfl (op_call _ (spec_l8Cover l hP.1 hP.2 n.toNat l n _ _ (by omega) (by omega) rfl rfl rfl (fun j hj => hP.1.at hj)) rfl rfl (by decide) (by decide) (by decide) rfl ?_)
      rintro _ rfl
      refine list_cons rfl (op_q (by first | exact q_notd rfl (by decide) | exact q_not rfl (by decide)) ?_)
      refine list_nil ?_
      refine hK8 _ ?_; clear hK8 K8
      refine codeT.imp (σ' := [(0, _), (2, _), (3, _), (4, _), (17, _)]) ?_ (imp_covers ⟨rfl, rfl, rfl, rfl, rfl, trivial⟩)
      refine code_cond_d rfl (fun h3 => ?_) (fun h3 => ?_)
      · skip
        (try simp only [Decidable.not_not] at h3)
        refine code_skip ?_
        refine hK7 _ ?_; clear hK7 K7
        refine code_block ?_
        refine code_region ?_
        refine list_cons rfl (op_q (q_move rfl (by decide)) ?_)
        refine list_cons rfl (op_q (by first | exact q_addI rfl rfl (by decide) (by omega) (by omega) | exact q_ib rfl rfl rfl (by decide)) ?_)
        refine list_cons rfl (op_q (q_assign rfl (by decide)) ?_)
        refine list_nil ?_
        refine blk_n ?_
        refine then_n ⟨(_, _, _), imp_covers ⟨rfl, rfl, rfl, rfl, trivial⟩, ?_, ?_⟩
        · (try dsimp only)
          exact ⟨hP, by omega, by have := hlt (by assumption); omega, fun m hm => by
            by_cases e : m = n.toNat
            · subst e; assumption
            · exact hn m (by omega)⟩
        · (have hlt2 := hlt (by assumption); show (((nzC l : Nat) : Int) - (n + 1)).toNat < (((nzC l : Nat) : Int) - n).toNat; omega)
      (try simp only [Decidable.not_not] at h3)
      refine code_exit ?_
      refine then_x ?_; clear hK7 K7
      refine then_x ?_
      refine blk_hit ?_
      refine hK6 _ ?_; clear hK6 K6
      refine code_seq (fun K9 hK9 => ?_)
      refine code_region ?_
      refine list_cons rfl (op_q (q_move rfl (by decide)) ?_)
      refine list_cons rfl (op_q (q_assign rfl (by decide)) ?_)
      refine list_cons rfl (op_q (q_assign rfl (by decide)) ?_)
      refine list_nil ?_
      refine hK9 _ ?_; clear hK9 K9
      refine code_ret ?_
      refine ends_ret (cs := []) rfl rfl rfl rfl trivial ?_
      first
        | (have hP : ¬ PlnP l := fun z => by have z1 := z.1; have z2 := z.2; first | contradiction | omega
           refine ⟨0, fun z => absurd z hP, ?_⟩
           simp only [if_neg hP, decide_eq_false hP]; done)
        | (refine ⟨n.toNat, fun _ => ⟨by omega, by assumption, hn⟩, ?_⟩
           simp only [if_pos hP, decide_eq_true hP, Int.toNat_of_nonneg n1]; done)
  simp only [Bool.false_eq_true, if_true, if_false, Decidable.not_not] at h1
  (try simp only [Decidable.not_not] at h1)
  refine list_guard_n rfl rfl rfl rfl (by decide) rfl ?_
  refine list_guard_n rfl rfl rfl rfl (by decide) rfl ?_
  refine list_cons rfl (op_q (q_pick rfl rfl (by decide)) ?_)
  refine list_nil ?_
  refine hK3 _ ?_; clear hK3 K3
  refine code_cond_t rfl ?_
  refine code_seq (fun K10 hK10 => ?_)
  refine code_region ?_
  refine list_cons rfl (op_q (q_assign rfl (by decide)) ?_)
  refine list_cons rfl (op_q (q_assign rfl (by decide)) ?_)
  refine list_nil ?_
  refine hK10 _ ?_; clear hK10 K10
  refine code_ret ?_
  refine then_r ?_; clear hK2 K2
  refine ends_ret (cs := []) rfl rfl rfl rfl trivial ?_
  first
    | (have hP : ¬ PlnP l := fun z => by have z1 := z.1; have z2 := z.2; first | contradiction | omega
       refine ⟨0, fun z => absurd z hP, ?_⟩
       simp only [if_neg hP, decide_eq_false hP]; done)
    | (refine ⟨n.toNat, fun _ => ⟨by omega, by assumption, hn⟩, ?_⟩
       simp only [if_pos hP, decide_eq_true hP, Int.toNat_of_nonneg n1]; done)
end Go.Proofs.Ytlipkomdajogiaa
