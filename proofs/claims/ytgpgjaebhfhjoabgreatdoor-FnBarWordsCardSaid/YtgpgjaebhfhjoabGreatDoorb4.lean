/- Contracts of functions, walked over the pure layer; each says for which arguments. -/
import Derived.Test.YtgpgjaebhfhjoabGreatDoorb4Ty
import Derived.Shelf.Strings.BuilderRune
import Derived.Lib.AppendIntMem
import Derived.Test.YtgpgjaebhfhjoabGreatDoorTf
import Derived.Test.YtgpgjaebhfhjoabGreatDoorb1
import Derived.Test.YtgpgjaebhfhjoabGreatDoorShelf
import Derived.Test.YtgpgjaebhfhjoabGreatDoorb2
import Derived.Test.YtgpgjaebhfhjoabGreatDoorb5
namespace Go.Proofs.YtgpgjaebhfhjoabGreatDoor
open Go.RowKit b4Ty
set_option linter.unusedVariables false
set_option linter.unusedSimpArgs false
set_option maxRecDepth 4000 in
theorem rInts_c (a b : List Int) (ha : a.length ≤ 4611686018427387904) : PCalls Tryz.prog 8 [.sl a.length (a.map (.int .i64)), .sl b.length (b.map (.int .i64))] (· = [.val (.bool (decide (a = b)))]) := by
  refine pcalls_of_code (n := 26) az Tryz.func8 (by kernel_rfl) rfl rfl (Nat.le_of_ble_eq_true rfl) (by intro t u h; simp [Tryz.f8] at h) ?_
  refine code_seq (fun K1 hK1 => ?_)
  refine code_region ?_
  refine list_cons rfl (op_q (q_assign rfl (by decide)) ?_)
  refine list_nil ?_
  refine hK1 _ ?_; clear hK1 K1
  refine code_seq (fun K2 hK2 => ?_)
  refine code_seq (fun K3 hK3 => ?_)
  refine code_region ?_
  refine list_cons rfl (op_q (q_move rfl (by decide)) ?_)
  refine list_cons rfl (op_q (q_len_sl Tryz.underlying25 rfl rfl (by decide)) ?_)
  refine list_cons rfl (op_q (q_move rfl (by decide)) ?_)
  refine list_cons rfl (op_q (q_len_sl Tryz.underlying25 rfl rfl (by decide)) ?_)
  refine list_cons rfl (op_q (q_ne rfl rfl (by decide)) ?_)
  refine list_nil ?_
  refine hK3 _ ?_; clear hK3 K3
  refine code_cond_d rfl (fun h1 => ?_) (fun h1 => ?_)
  · skip
    (try simp only [Decidable.not_not] at h1)
    refine code_seq (fun K4 hK4 => ?_)
    refine code_region ?_
    refine list_cons rfl (op_q (q_assign rfl (by decide)) ?_)
    refine list_nil ?_
    refine hK4 _ ?_; clear hK4 K4
    refine code_ret ?_
    refine then_r ?_; clear hK2 K2
    refine ends_ret (cs := []) rfl rfl rfl rfl trivial ?_
    rw [decide_eq_false (fun e => h1 (by rw [e]))]
  (try simp only [Decidable.not_not] at h1)
  refine code_skip ?_
  refine hK2 _ ?_; clear hK2 K2
  refine code_seq (fun K5 hK5 => ?_)
  refine code_seq (fun K6 hK6 => ?_)
  refine code_region ?_
  refine list_cons rfl (op_q (q_assign rfl (by decide)) ?_)
  refine list_nil ?_
  refine hK6 _ ?_; clear hK6 K6
  refine code_block ?_
  refine code_loop (X := Bool × Int) (fun x => [(0, .par 0 (.sl a.length (a.map (.int .i64)))), (1, .par 1 (.sl b.length (b.map (.int .i64)))), (4, .val (.bool x.1)), (5, .val (.int .i64 x.2))]) (fun x => 0 ≤ x.2 ∧ x.2 ≤ a.length ∧ ∀ j, j < x.2.toNat → a.getD j 0 = b.getD j 0) (fun x => a.length - x.2.toNat) (_, _) (imp_covers ⟨rfl, rfl, rfl, rfl, trivial⟩) ?_ ?_
  · (try dsimp only)
    refine ⟨by omega, by omega, fun j hj => by simp at hj⟩
  · intro x hI
    obtain ⟨t4, i⟩ := x
    replace hI : 0 ≤ i ∧ i ≤ a.length ∧ ∀ j, j < i.toNat → a.getD j 0 = b.getD j 0 := hI
    show codeT _ _ _ [(0, .par 0 (.sl a.length (a.map (.int .i64)))), (1, .par 1 (.sl b.length (b.map (.int .i64)))), (4, .val (.bool t4)), (5, .val (.int .i64 i))] _
    obtain ⟨i1, i2, i3⟩ := hI
    refine code_seq (fun K7 hK7 => ?_)
    refine code_seq (fun K8 hK8 => ?_)
    refine code_region ?_
    refine list_cons rfl (op_q (q_move rfl (by decide)) ?_)
    refine list_cons rfl (op_q (q_move rfl (by decide)) ?_)
    refine list_cons rfl (op_q (q_len_sl Tryz.underlying25 rfl rfl (by decide)) ?_)
    refine list_cons rfl (op_q (q_lt rfl rfl (by decide)) ?_)
    refine list_nil ?_
    refine hK8 _ ?_; clear hK8 K8
    refine code_cond_d rfl (fun h2 => ?_) (fun h2 => ?_)
    · skip
      (try simp only [Decidable.not_not] at h2)
      refine code_skip ?_
      refine hK7 _ ?_; clear hK7 K7
      refine code_seq (fun K9 hK9 => ?_)
      refine code_block ?_
      refine code_seq (fun K10 hK10 => ?_)
      refine code_draw (by kernel_rfl) (by kernel_rfl) ?_
      refine draw_q rfl (q_move rfl (by decide)) ?_
      refine draw_q rfl (q_move rfl (by decide)) ?_
      refine draw_q rfl (q_indexAddr_rd sl_25 rfl (.inl ⟨_, rfl, rfl⟩) rfl (by omega) (by omega) (by decide)) ?_
      refine draw_q rfl (q_load_rd one_3 rfl (.inl ⟨_, (by first | rfl | exact congrArg (SV.rpar _) (drop_map1 _ 0 _ (by first | omega | (simp; omega)))), rfl⟩) (by decide)) ?_
      refine draw_q rfl (q_move rfl (by decide)) ?_
      refine draw_q rfl (q_move rfl (by decide)) ?_
      refine draw_q rfl (q_indexAddr_rd sl_25 rfl (.inl ⟨_, rfl, rfl⟩) rfl (by omega) (by omega) (by decide)) ?_
      refine draw_q rfl (q_load_rd one_3 rfl (.inl ⟨_, (by first | rfl | exact congrArg (SV.rpar _) (drop_map1 _ 0 _ (by first | omega | (simp; omega)))), rfl⟩) (by decide)) ?_
      refine draw_q rfl (q_ne rfl rfl (by decide)) ?_
      refine draw_nil ?_
      refine hK10 _ ?_; clear hK10 K10
      refine codeT.imp (σ' := [(0, _), (1, _), (4, _), (5, _), (25, _)]) ?_ (imp_covers ⟨rfl, rfl, rfl, rfl, rfl, trivial⟩)
      refine code_cond_d rfl (fun h3 => ?_) (fun h3 => ?_)
      · skip
        (try simp only [Decidable.not_not] at h3)
        refine code_seq (fun K11 hK11 => ?_)
        refine code_region ?_
        refine list_cons rfl (op_q (q_assign rfl (by decide)) ?_)
        refine list_nil ?_
        refine hK11 _ ?_; clear hK11 K11
        refine code_ret ?_
        refine blk_r ?_
        refine then_r ?_; clear hK9 K9
        refine then_r ?_
        refine blk_r ?_
        refine then_r ?_; clear hK5 K5
        refine ends_ret (cs := []) rfl rfl rfl rfl trivial ?_
        rw [decide_eq_false (list_ne_ofI 0 i.toNat h3)]
      (try simp only [Decidable.not_not] at h3)
      refine code_skip ?_
      refine blk_n ?_
      refine hK9 _ ?_; clear hK9 K9
      refine code_region ?_
      refine list_cons rfl (op_q (q_move rfl (by decide)) ?_)
      refine list_cons rfl (op_q (by first | exact q_addI rfl rfl (by decide) (by omega) (by omega) | exact q_ib rfl rfl rfl (by decide)) ?_)
      refine list_cons rfl (op_q (q_assign rfl (by decide)) ?_)
      refine list_nil ?_
      refine then_n ⟨(_, _), imp_covers ⟨rfl, rfl, rfl, rfl, trivial⟩, ?_, ?_⟩
      · (try dsimp only)
        refine ⟨by omega, by omega, fun j hj => ?_⟩
        by_cases e : j = i.toNat
        · subst e; exact h3
        · exact i3 j (by omega)
      · (try dsimp only); omega
    (try simp only [Decidable.not_not] at h2)
    refine code_exit ?_
    refine then_x ?_; clear hK7 K7
    refine then_x ?_
    refine blk_hit ?_
    refine hK5 _ ?_; clear hK5 K5
    refine code_seq (fun K12 hK12 => ?_)
    refine code_region ?_
    refine list_cons rfl (op_q (q_assign rfl (by decide)) ?_)
    refine list_nil ?_
    refine hK12 _ ?_; clear hK12 K12
    refine code_ret ?_
    refine ends_ret (cs := []) rfl rfl rfl rfl trivial ?_
    rw [decide_eq_true (list_eq_ofI 0 a b (by omega) fun j hj => i3 j (by omega))]
set_option maxRecDepth 4000 in
theorem rBig_c (code : List UInt8) : PCalls Tryz.prog 4 [.sl code.length (bytesP code)] (· = [.val (.bool (decide (65536 < code.length)))]) := by
  refine pcalls_of_code (n := 6) az Tryz.func4 (by kernel_rfl) rfl rfl (Nat.le_of_ble_eq_true rfl) (by intro t u h; simp [Tryz.f4] at h) ?_
  refine code_seq (fun K1 hK1 => ?_)
  refine code_region ?_
  refine list_cons rfl (op_q (q_assign rfl (by decide)) ?_)
  refine list_nil ?_
  refine hK1 _ ?_; clear hK1 K1
  refine code_seq (fun K2 hK2 => ?_)
  refine code_region ?_
  refine list_cons rfl (op_q (q_move rfl (by decide)) ?_)
  refine list_cons rfl (op_q (q_len_sl Tryz.underlying22 rfl rfl (by decide)) ?_)
  refine list_cons rfl (op_q (q_gt rfl rfl (by decide)) ?_)
  refine list_cons rfl (op_q (q_assign rfl (by decide)) ?_)
  refine list_nil ?_
  refine hK2 _ ?_; clear hK2 K2
  refine code_ret ?_
  refine ends_ret (cs := []) rfl rfl rfl rfl trivial ?_
  first | rfl | (congr 3; exact decide_eq_decide.mpr (by omega))
theorem digOf_R (d : Nat) (h : d < 10) : digOf (digT.getD d 0) = (d : Int) := by
  have := digOf_at (d := (d : Int)) (by omega) (by omega) (c := digT.getD d 0) (by rw [Int.toNat_natCast])
  exact this
theorem rowN_num : ∀ k n : Nat, n < k → numF (rowN n) = (n : Int)
  | 0, n, h => by omega
  | k + 1, n, h => by
    by_cases hn : n < 10
    · rw [rowN_lt hn, show [digT.getD n 0] = [] ++ [digT.getD n 0] from rfl, numF_app, digOf_R _ hn]
      show 10 * (0 : Int) + _ = _; omega
    · rw [rowN_ge hn, numF_app, rowN_num k (n / 10) (by omega), digOf_R _ (by omega)]; omega
theorem rowN_digs : ∀ k n : Nat, n < k → DigsP (rowN n)
  | 0, n, h => by omega
  | k + 1, n, h => by
    intro x hx
    by_cases hn : n < 10
    · rw [rowN_lt hn] at hx
      simp only [List.mem_singleton] at hx
      subst hx; rw [digOf_R _ hn]; omega
    · rw [rowN_ge hn] at hx
      rcases List.mem_append.1 hx with hx | hx
      · exact rowN_digs k (n / 10) (by omega) x hx
      · simp only [List.mem_singleton] at hx
        subst hx; rw [digOf_R _ (by omega)]; omega
theorem rowN_pos (n : Nat) : 0 < (rowN n).length := by rw [rowP_cat]; simp
set_option maxRecDepth 100000 in
theorem c7_alw (x : Nat) (h : x < 128) : turn7 (turn7 x) = x ∧ mir7 (mir7 x) = x := by
  have k : below 128 (fun n => Nat.beq (turn7 (turn7 n)) n && Nat.beq (mir7 (mir7 n)) n) = true := by kernel_rfl
  have h2 := below_ok k x h
  rw [Bool.and_eq_true] at h2
  exact ⟨Nat.eq_of_beq_eq_true h2.1, Nat.eq_of_beq_eq_true h2.2⟩
theorem turnL_invw {l : List Int} (h : ∀ x ∈ l, 0 ≤ x ∧ x ≤ 127) : turnL (turnL l) = l := by
  unfold turnL
  rw [← List.map_reverse, List.reverse_reverse, List.map_map]
  have e : ∀ y ∈ l, (turnC ∘ turnC) y = y := fun y hy => by
    have := h y hy
    show turnC (turnC y) = y
    unfold turnC
    rw [Int.toNat_natCast, (c7_alw y.toNat (by omega)).1]; omega
  rw [List.map_congr_left e, List.map_id']
theorem mirL_invw {l : List Int} (h : ∀ x ∈ l, 0 ≤ x ∧ x ≤ 127) : mirL (mirL l) = l := by
  unfold mirL
  rw [← List.map_reverse, List.reverse_reverse, List.map_map]
  have e : ∀ y ∈ l, (mirC ∘ mirC) y = y := fun y hy => by
    have := h y hy
    show mirC (mirC y) = y
    unfold mirC
    rw [Int.toNat_natCast, (c7_alw y.toNat (by omega)).2]; omega
  rw [List.map_congr_left e, List.map_id']
theorem pl_let {x : Int} (h : 0 ≤ rdC x) : plB (letC x) = rdC x := by
  have h2 := rdC_le x
  unfold plB letC
  exact ltr_pl h h2.2
theorem cell_let {x : Int} (h : 0 ≤ rdC x) : cellW (letC x) = x := by
  unfold cellW
  rw [pl_let h]; exact rd_back h
theorem rd_cell {b : UInt8} (h : 0 ≤ plB b) : rdC (cellW b) = plB b := ltr_rd h (plB_le b).2
theorem let_cell {b : UInt8} (h : 0 ≤ plB b) : letC (cellW b) = b := by
  unfold letC
  rw [rd_cell h]
  have h2 := pl_back (r := (b.toNat : Int)) h
  have h3 : (ltrS.getD (plB b).toNat 0).toNat = b.toNat := Int.ofNat.inj h2
  exact UInt8.toNat_inj.1 h3
theorem row_spT {l : List Int} (h : SpP l) : rowW (spT l) = l := by
  unfold rowW spT
  rw [List.map_map]
  have e : ∀ y ∈ l, (cellW ∘ letC) y = y := fun y hy => cell_let (h y hy)
  rw [List.map_congr_left e, List.map_id']
theorem lt_spT {l : List Int} (h : SpP l) : LtP (spT l) := fun b hb => by
  obtain ⟨x, hx, rfl⟩ := List.mem_map.1 hb
  rw [pl_let (h x hx)]; exact h x hx
theorem sp_row {s : List UInt8} (h : LtP s) : SpP (rowW s) := fun x hx => by
  obtain ⟨b, hb, rfl⟩ := List.mem_map.1 hx
  rw [rd_cell (h b hb)]; exact h b hb
theorem sp_back {s : List UInt8} (h : LtP s) : spT (rowW s) = s := by
  unfold rowW spT
  rw [List.map_map]
  have e : ∀ y ∈ s, (letC ∘ cellW) y = y := fun y hy => let_cell (h y hy)
  rw [List.map_congr_left e, List.map_id']
theorem wrd_spT {l : List Int} (h : SpP l) (h6 : l.length ≤ 6) : WrdP (spT l) 6 := ⟨by rw [spT_len]; omega, lt_spT h⟩
theorem turn_rowN {n : Int} (h : 0 ≤ n ∧ n ≤ 999999) : (turnL (rowN n.toNat)).length ≤ 6 ∧ 0 < (turnL (rowN n.toNat)).length ∧ turnL (turnL (rowN n.toNat)) = rowN n.toNat := by
  have hr := rowN_row (n := n.toNat) (by omega)
  exact ⟨by rw [turnL_len]; exact hr.1, by rw [turnL_len]; exact rowN_pos _, turnL_invw hr.2⟩
def WnT (n : Int) : List UInt8 := if (0 ≤ n ∧ n ≤ 999999) ∧ SpP (turnL (rowN n.toNat)) then spT (turnL (rowN n.toNat)) else []
theorem WnT_len (n : Int) : (WnT n).length ≤ 6 := by
  unfold WnT
  split
  · rename_i h; rw [spT_len]; exact (turn_rowN h.1).1
  · simp
theorem fw1 {n : Int} (h : (0 ≤ n ∧ n ≤ 999999) ∧ SpP (turnL (rowN n.toNat))) : NwP (WnT n) := by
  unfold WnT
  rw [if_pos h]
  have ht := turn_rowN h.1
  refine ⟨wrd_spT h.2 ht.1, by rw [spT_len]; exact ht.2.1, ?_⟩
  rw [row_spT h.2, ht.2.2]
  exact rowN_digs (n.toNat + 1) _ (by omega)
theorem fw2 {n : Int} (h : (0 ≤ n ∧ n ≤ 999999) ∧ SpP (turnL (rowN n.toNat))) : (if NwP (WnT n) then nwF (WnT n) else 0) = n := by
  rw [if_pos (fw1 h)]
  have ht := turn_rowN h.1
  unfold nwF WnT
  rw [if_pos h, row_spT h.2, ht.2.2, rowN_num (n.toNat + 1) _ (by omega)]; omega
def NwV (s : List UInt8) : Int := if NwP s then nwF s else 0
theorem fw3 {s : List UInt8} (h : NwP s) : (0 ≤ NwV s ∧ NwV s ≤ 999999) ∧ SpP (turnL (rowN (NwV s).toNat)) := by
  unfold NwV
  rw [if_pos h, nw_back h, turnL_invw (rowW_cells s)]
  exact ⟨nw_bd h.1 h.2.2, sp_row h.1.2⟩
theorem fw4 {s : List UInt8} (h : NwP s) : WnT (NwV s) = s := by
  have h3 := fw3 h
  unfold WnT
  rw [if_pos h3]
  unfold NwV
  rw [if_pos h, nw_back h, turnL_invw (rowW_cells s)]; exact sp_back h.1.2
def MwT (s : List UInt8) : List UInt8 := if WrdP s 6 ∧ SpP (mirL (rowW s)) then spT (mirL (rowW s)) else []
theorem MwT_len (s : List UInt8) : (MwT s).length ≤ 6 := by
  unfold MwT
  split
  · rename_i h; rw [spT_len, mirL_len, rowW_len]; have := h.1.1; omega
  · simp
theorem fw5 {s : List UInt8} (h : WrdP s 6 ∧ SpP (mirL (rowW s))) : WrdP (MwT s) 6 ∧ SpP (mirL (rowW (MwT s))) := by
  unfold MwT
  rw [if_pos h, row_spT h.2, mirL_invw (rowW_cells s)]
  exact ⟨wrd_spT h.2 (by rw [mirL_len, rowW_len]; have := h.1.1; omega), sp_row h.1.2⟩
theorem fw6 {s : List UInt8} (h : WrdP s 6 ∧ SpP (mirL (rowW s))) : (if WrdP (MwT s) 6 ∧ SpP (mirL (rowW (MwT s))) then spT (mirL (rowW (MwT s))) else []) = s := by
  rw [if_pos (fw5 h)]
  unfold MwT
  rw [if_pos h, row_spT h.2, mirL_invw (rowW_cells s)]; exact sp_back h.1.2
def LcV (s : List UInt8) : Int := if s.length = 1 ∧ LtP s then cellW (s.getD 0 0) else 0
theorem fw7 {s : List UInt8} (h : s.length = 1 ∧ LtP s) : 0 ≤ rdC (LcV s) := by
  unfold LcV
  have h0 := h.2.at (j := 0) (by omega)
  rw [if_pos h, rd_cell h0]; exact h0
theorem fw8 {s : List UInt8} (h : s.length = 1 ∧ LtP s) : (if 0 ≤ rdC (LcV s) then [letC (LcV s)] else []) = s := by
  rw [if_pos (fw7 h)]
  unfold LcV
  have h0 := h.2.at (j := 0) (by omega)
  rw [if_pos h, let_cell h0]
  match s, h.1 with
  | [b], _ => rfl
theorem chgK_comm (a b : List Int) : ∀ k, chgK a b k = chgK b a k
  | 0 => rfl
  | k + 1 => by unfold chgK; rw [chgK_comm a b k, Nat.xor_comm]
theorem chgW_comm (a b : List UInt8) : chgW a b = chgW b a := chgK_comm _ _ 6
set_option maxRecDepth 100000 in
theorem cnt7_zero (x : Nat) (h : x < 128) : cnt7 x = 0 ↔ x = 0 := by
  have k : below 128 (fun n => Nat.beq (cnt7 n) 0 == Nat.beq n 0) = true := by kernel_rfl
  have := below_ok k x h
  rw [beq_iff_eq] at this
  constructor
  · intro e
    rw [e] at this
    exact Nat.eq_of_beq_eq_true this.symm
  · rintro rfl; rfl
theorem xor_zero {x y : Nat} (h : x ^^^ y = 0) : x = y := by
  have h2 : x ^^^ (x ^^^ y) = x := by rw [h, Nat.xor_zero]
  rw [← Nat.xor_assoc, Nat.xor_self, Nat.zero_xor] at h2
  exact h2.symm
theorem chgK_zero {a b : List Int} (ha : ∀ j, 0 ≤ a.getD j 0 ∧ a.getD j 0 ≤ 127) (hb : ∀ j, 0 ≤ b.getD j 0 ∧ b.getD j 0 ≤ 127) : ∀ k, chgK a b k = 0 → ∀ j, j < k → a.getD j 0 = b.getD j 0
  | 0, _, j, hj => absurd hj (by omega)
  | k + 1, h, j, hj => by
    have h1 := chgK_le a b k
    unfold chgK at h
    have h2 : chgK a b k = 0 := by omega
    by_cases e : j = k
    · subst e
      have h3 : cnt7 ((a.getD j 0).toNat ^^^ (b.getD j 0).toNat) = 0 := by omega
      have hx := @Nat.xor_lt_two_pow (a.getD j 0).toNat (b.getD j 0).toNat 7 (by have := ha j; omega) (by have := hb j; omega)
      have := xor_zero ((cnt7_zero _ hx).1 h3)
      have h4 := ha j; have h5 := hb j
      omega
    · exact chgK_zero ha hb k h2 j (by omega)
theorem chgK_self (a : List Int) : ∀ k, chgK a a k = 0
  | 0 => rfl
  | k + 1 => by unfold chgK; rw [chgK_self a k, Nat.xor_self]; rfl
theorem cellW_ne {b : UInt8} (h : 0 ≤ plB b) : cellW b ≠ 0 := by
  have h2 := rd_cell h
  intro e
  rw [e] at h2
  have : rdC 0 = -1 := by decide
  omega
theorem row_ne {s : List UInt8} (h : LtP s) {j : Nat} (hj : j < s.length) : (rowW s).getD j 0 ≠ 0 := by
  unfold rowW
  rw [List.getD_eq_getElem?_getD, List.getElem?_map, List.getElem?_eq_getElem hj]
  exact cellW_ne (h _ (List.getElem_mem hj))
theorem rows_len {a b : List UInt8} (ha : WrdP a 6) (hb : WrdP b 6) (h : ∀ j, j < 6 → (rowW a).getD j 0 = (rowW b).getD j 0) : a.length ≤ b.length := by
  apply Nat.le_of_not_lt
  intro hlt
  have h1 := row_ne ha.2 (j := b.length) hlt
  rw [h b.length (by have := ha.1; omega)] at h1
  exact h1 (getD_off _ (by rw [rowW_len]; exact Nat.le_refl _))
theorem chg_eq {a b : List UInt8} (ha : WrdP a 6) (hb : WrdP b 6) : chgW a b = 0 ↔ a = b := by
  constructor
  · intro h
    have hz := chgK_zero (rowW_at a) (rowW_at b) 6 h
    have hl : a.length = b.length := Nat.le_antisymm (rows_len ha hb hz) (rows_len hb ha fun j hj => (hz j hj).symm)
    have hr : rowW a = rowW b := list_eq_ofI 0 _ _ (by rw [rowW_len, rowW_len, hl]) fun j hj => hz j (by rw [rowW_len] at hj; have := ha.1; omega)
    rw [← sp_back ha.2, ← sp_back hb.2, hr]
  · rintro rfl; exact chgK_self _ 6
def WcV (a b : List UInt8) : Int := if WrdP a 6 ∧ WrdP b 6 then chgW a b else 0
theorem fw9 {a b : List UInt8} (h : WrdP a 6 ∧ WrdP b 6) : WrdP b 6 ∧ WrdP a 6 := ⟨h.2, h.1⟩
theorem fw10 (a b : List UInt8) : WcV b a = WcV a b := by
  unfold WcV
  by_cases h : WrdP a 6 ∧ WrdP b 6
  · rw [if_pos h, if_pos (fw9 h), chgW_comm]
  · rw [if_neg h, if_neg (fun z => h (fw9 z))]
theorem fw11 {a b : List UInt8} (h : WrdP a 6 ∧ WrdP b 6) : decide (WcV a b = 0) = decide (a = b) := by
  unfold WcV
  rw [if_pos h]
  exact decide_eq_decide.mpr (chg_eq h.1 h.2)
def RwL (s : List UInt8) : List Int := if WrdP s 6 then rowW s else []
theorem RwL_len (s : List UInt8) : (RwL s).length ≤ 6 := by
  unfold RwL
  split
  · rename_i h; rw [rowW_len]; have := h.1; omega
  · simp
theorem fw12 {s : List UInt8} (h : WrdP s 6) : RowP (RwL s) ∧ SpP (RwL s) := by
  unfold RwL
  rw [if_pos h]
  exact ⟨rowW_row (by have := h.1; omega), sp_row h.2⟩
theorem fw13 {s : List UInt8} (h : WrdP s 6) : (if RowP (RwL s) ∧ SpP (RwL s) then spT (RwL s) else []) = s := by
  rw [if_pos (fw12 h)]
  unfold RwL
  rw [if_pos h]; exact sp_back h.2
set_option maxRecDepth 8000 in
set_option maxHeartbeats 16000000 in
theorem FnBarWords_law (code : List UInt8) (p0 : code.length ≤ 9223372036854775807) : MCalls Tryz.prog 3 true none [.sl code.length (bytesP code)] fun rs _ => rs = [.val (.bool true)] := by
  refine mcalls_of_code (n := 342) az Tryz.func3 (by kernel_rfl) rfl rfl (Nat.le_of_ble_eq_true rfl) (by intro t u h; simp [Tryz.f3] at h) ?_
  refine code_seq (fun K1 hK1 => ?_)
  refine code_region ?_
  refine list_cons rfl (op_q (q_assign rfl (by decide)) ?_)
  refine list_nil ?_
  refine hK1 _ ?_; clear hK1 K1
  refine code_seq (fun K2 hK2 => ?_)
  refine code_seq (fun K3 hK3 => ?_)
  refine code_region ?_
  refine list_cons rfl (op_q (q_move rfl (by decide)) ?_)
  refine list_cons rfl (op_call _ (rBig_c _) rfl rfl (by decide) (by decide) (by decide) rfl ?_)
  rintro _ rfl
  refine list_nil ?_
  refine hK3 _ ?_; clear hK3 K3
  refine codeT.imp (σ' := [(0, .ext _), (2, .val (.bool _)), (62, .val (.bool _))]) ?_ (imp_covers ⟨rfl, rfl, rfl, trivial⟩)
  refine code_cond_d rfl (fun h1 => ?_) (fun h1 => ?_)
  · skip
    (try simp only [Decidable.not_not] at h1)
    refine code_seq (fun K4 hK4 => ?_)
    refine code_region ?_
    refine list_cons rfl (op_q (q_assign rfl (by decide)) ?_)
    refine list_nil ?_
    refine hK4 _ ?_; clear hK4 K4
    refine code_ret ?_
    refine then_r ?_; clear hK2 K2
    refine ends_ret (cs := []) rfl rfl rfl rfl trivial ?_
    first | rfl | rw [decide_eq_true (fw13 (show WrdP sB 6 by assumption))]
  (try simp only [Decidable.not_not] at h1)
  refine code_skip ?_
  refine hK2 _ ?_; clear hK2 K2
  refine code_seq (fun K5 hK5 => ?_)
  refine code_region ?_
  refine list_cons rfl (op_q (q_move rfl (by decide)) ?_)
  refine list_cons rfl (op_callM (DrawRowOfWord_c _ ?_) (.tmp 0) 0 [] [.tmp 63] _ rfl rfl (by intro y hy; cases hy) (by decide) (by decide) (by decide) rfl (by intro h; cases h) ?_)
  · first | assumption | omega | (simp; omega)
  rintro _ _ ⟨sB, hsB, rfl⟩
  refine list_cons rfl (op_q (q_assign rfl (by decide)) ?_)
  refine list_nil ?_
  refine hK5 _ ?_; clear hK5 K5
  refine codeT.imp (σ' := [(0, .ext _), (2, .val (.bool _)), (3, .val (.str _))]) ?_ (imp_covers ⟨rfl, rfl, rfl, trivial⟩)
  refine code_seq (fun K6 hK6 => ?_)
  refine code_region ?_
  refine list_cons rfl (op_q (q_move rfl (by decide)) ?_)
  refine list_cons rfl (op_call _ (impl_RowOfWord _ (by first | omega | assumption)) rfl rfl (by decide) (by decide) (by decide) rfl ?_)
  rintro _ rfl; have hrw := RwL_len sB; unfold RwL at hrw
  refine list_cons rfl (op_q (q_move rfl (by decide)) ?_)
  refine list_cons rfl (op_q (q_extract rfl rfl (by decide)) ?_)
  refine list_cons rfl (op_q (q_extract rfl rfl (by decide)) ?_)
  refine list_cons rfl (op_q (q_assign rfl (by decide)) ?_)
  refine list_cons rfl (op_q (q_assign rfl (by decide)) ?_)
  refine list_nil ?_
  refine hK6 _ ?_; clear hK6 K6
  refine codeT.imp (σ' := [(0, .ext _), (2, .val (.bool _)), (3, .val (.str _)), (4, .own 67 3 1 _ _), (5, .val (.bool _))]) ?_ (imp_covers ⟨rfl, rfl, rfl, rfl, rfl, trivial⟩)
  refine code_seq (fun K7 hK7 => ?_)
  refine code_seq (fun K8 hK8 => ?_)
  refine code_region ?_
  refine list_cons rfl (op_q (q_move rfl (by decide)) ?_)
  refine list_cons rfl (op_call _ (spec_RowOfWord _ (by omega)) rfl rfl (by decide) (by decide) (by decide) rfl ?_)
  rintro _ rfl
  refine list_cons rfl (op_q (q_move rfl (by decide)) ?_)
  refine list_cons rfl (op_q (q_extract rfl rfl (by decide)) ?_)
  refine list_cons rfl (op_q (q_extract rfl rfl (by decide)) ?_)
  refine list_cons rfl (op_q (q_assign rfl (by decide)) ?_)
  refine list_cons rfl (op_q (q_assign rfl (by decide)) ?_)
  refine list_nil ?_
  refine hK8 _ ?_; clear hK8 K8
  refine codeT.imp (σ' := [(0, .ext _), (2, .val (.bool _)), (3, .val (.str _)), (4, .own 67 3 1 _ _), (5, .val (.bool _)), (6, .own 72 3 1 _ _), (7, .val (.bool _))]) ?_ (imp_covers ⟨rfl, rfl, rfl, rfl, rfl, rfl, rfl, trivial⟩)
  refine code_seq (fun K9 hK9 => ?_)
  refine code_region ?_
  refine list_cons rfl (op_q (q_move rfl (by decide)) ?_)
  refine list_cons rfl (op_q (q_move rfl (by decide)) ?_)
  refine list_cons rfl (op_q (q_bne Tryz.underlying4 rfl rfl (by decide)) ?_)
  refine list_cons rfl (op_q (q_move rfl (by decide)) ?_)
  refine list_guard_d rfl rfl rfl rfl (by decide) rfl (by decide) (fun h2 => ?_) (fun h2 => ?_)
  · simp only [Bool.false_eq_true, if_true, if_false, Decidable.not_not] at h2
    refine id (op_q (q_move rfl (by decide)) ?_)
    refine list_guard_y rfl rfl rfl rfl (by decide) rfl ?_
    refine id (op_q (q_move rfl (by decide)) ?_)
    refine list_guard_y rfl rfl rfl rfl (by decide) rfl ?_
    refine id (op_call _ (rInts_c _ _ (by first | omega | (simp; omega))) rfl rfl (by decide) (by decide) (by decide) rfl ?_)
    rintro _ rfl
    refine list_guard_y rfl rfl rfl rfl (by decide) rfl ?_
    refine id (op_q (by first | exact q_notd rfl (by decide) | exact q_not rfl (by decide)) ?_)
    refine list_cons rfl (op_q (q_pick rfl rfl (by decide)) ?_)
    refine list_nil ?_
    refine hK9 _ ?_; clear hK9 K9
    refine codeT.imp (σ' := [(0, .ext _), (2, .val (.bool _)), (3, .val (.str _)), (4, .own 67 3 1 _ _), (5, .val (.bool _)), (6, .own 72 3 1 _ _), (7, .val (.bool _)), (83, .val (.bool _))]) ?_ (imp_covers ⟨rfl, rfl, rfl, rfl, rfl, rfl, rfl, rfl, trivial⟩)
    refine code_cond_d rfl (fun h3 => ?_) (fun h3 => ?_)
    · skip
      (try simp only [Decidable.not_not] at h3)
      exfalso
      first | exact absurd rfl h3 | exact h3 trivial | (simp at h3; done)
    (try simp only [Decidable.not_not] at h3)
    refine code_skip ?_
    refine hK7 _ ?_; clear hK7 K7
    refine code_seq (fun K10 hK10 => ?_)
    refine code_region ?_
    refine list_cons rfl (op_q (q_move rfl (by decide)) ?_)
    refine list_cons rfl (op_callM (DrawWordOfRow_c _ ?_) (.tmp 0) 0 [] [.tmp 84] _ rfl rfl (by intro y hy; cases hy) (by decide) (by decide) (by decide) rfl (by intro h; cases h) ?_)
    · first | assumption | omega | (simp; omega)
    rintro _ _ ⟨rF, hrF, rfl⟩
    refine list_cons rfl (op_q (q_assign rfl (by decide)) ?_)
    refine list_nil ?_
    refine hK10 _ ?_; clear hK10 K10
    refine codeT.imp (σ' := [(0, .ext _), (2, .val (.bool _)), (3, .val (.str _)), (4, .own 67 3 1 _ _), (5, .val (.bool _)), (6, .own 72 3 1 _ _), (7, .val (.bool _)), (8, .own 85 3 1 _ _)]) ?_ (imp_covers ⟨rfl, rfl, rfl, rfl, rfl, rfl, rfl, rfl, trivial⟩)
    refine code_seq (fun K11 hK11 => ?_)
    refine code_region ?_
    refine list_cons rfl (op_q (q_move rfl (by decide)) ?_)
    refine list_cons rfl (op_call _ (impl_WordOfRow _ (by first | omega | (simp; omega))) rfl rfl (by decide) (by decide) (by decide) rfl ?_)
    rintro _ rfl
    refine list_cons rfl (op_q (q_move rfl (by decide)) ?_)
    refine list_cons rfl (op_q (q_extract rfl rfl (by decide)) ?_)
    refine list_cons rfl (op_q (q_extract rfl rfl (by decide)) ?_)
    refine list_cons rfl (op_q (q_assign rfl (by decide)) ?_)
    refine list_cons rfl (op_q (q_assign rfl (by decide)) ?_)
    refine list_nil ?_
    refine hK11 _ ?_; clear hK11 K11
    refine codeT.imp (σ' := [(0, .ext _), (2, .val (.bool _)), (3, .val (.str _)), (4, .own 67 3 1 _ _), (5, .val (.bool _)), (6, .own 72 3 1 _ _), (7, .val (.bool _)), (8, .own 85 3 1 _ _), (9, .val (.str _)), (10, .val (.bool _))]) ?_ (imp_covers ⟨rfl, rfl, rfl, rfl, rfl, rfl, rfl, rfl, rfl, rfl, trivial⟩)
    refine code_seq (fun K12 hK12 => ?_)
    refine code_seq (fun K13 hK13 => ?_)
    refine code_region ?_
    refine list_cons rfl (op_q (q_move rfl (by decide)) ?_)
    refine list_cons rfl (op_call _ (spec_WordOfRow _ (by first | omega | (simp; omega))) rfl rfl (by decide) (by decide) (by decide) rfl ?_)
    rintro _ rfl
    refine list_cons rfl (op_q (q_move rfl (by decide)) ?_)
    refine list_cons rfl (op_q (q_extract rfl rfl (by decide)) ?_)
    refine list_cons rfl (op_q (q_extract rfl rfl (by decide)) ?_)
    refine list_cons rfl (op_q (q_assign rfl (by decide)) ?_)
    refine list_cons rfl (op_q (q_assign rfl (by decide)) ?_)
    refine list_nil ?_
    refine hK13 _ ?_; clear hK13 K13
    refine codeT.imp (σ' := [(0, .ext _), (2, .val (.bool _)), (3, .val (.str _)), (4, .own 67 3 1 _ _), (5, .val (.bool _)), (6, .own 72 3 1 _ _), (7, .val (.bool _)), (8, .own 85 3 1 _ _), (9, .val (.str _)), (10, .val (.bool _)), (11, .val (.str _)), (12, .val (.bool _))]) ?_ (imp_covers ⟨rfl, rfl, rfl, rfl, rfl, rfl, rfl, rfl, rfl, rfl, rfl, rfl, trivial⟩)
    refine code_seq (fun K14 hK14 => ?_)
    refine code_region ?_
    refine list_cons rfl (op_q (q_move rfl (by decide)) ?_)
    refine list_cons rfl (op_q (q_move rfl (by decide)) ?_)
    refine list_cons rfl (op_q (q_sne rfl rfl (by decide)) ?_)
    refine list_cons rfl (op_q (q_move rfl (by decide)) ?_)
    refine list_guard_d rfl rfl rfl rfl (by decide) rfl (by decide) (fun h4 => ?_) (fun h4 => ?_)
    · simp only [Bool.false_eq_true, if_true, if_false, Decidable.not_not] at h4
      refine id (op_q (q_move rfl (by decide)) ?_)
      refine list_guard_y rfl rfl rfl rfl (by decide) rfl ?_
      refine id (op_q (q_move rfl (by decide)) ?_)
      refine list_guard_y rfl rfl rfl rfl (by decide) rfl ?_
      refine id (op_q (q_bne Tryz.underlying4 rfl rfl (by decide)) ?_)
      refine list_cons rfl (op_q (q_pick rfl rfl (by decide)) ?_)
      refine list_nil ?_
      refine hK14 _ ?_; clear hK14 K14
      refine codeT.imp (σ' := [(0, .ext _), (2, .val (.bool _)), (3, .val (.str _)), (4, .own 67 3 1 _ _), (5, .val (.bool _)), (6, .own 72 3 1 _ _), (7, .val (.bool _)), (8, .own 85 3 1 _ _), (9, .val (.str _)), (10, .val (.bool _)), (11, .val (.str _)), (12, .val (.bool _)), (103, .val (.bool _))]) ?_ (imp_covers ⟨rfl, rfl, rfl, rfl, rfl, rfl, rfl, rfl, rfl, rfl, rfl, rfl, rfl, trivial⟩)
      refine code_cond_d rfl (fun h5 => ?_) (fun h5 => ?_)
      · skip
        (try simp only [Decidable.not_not] at h5)
        exfalso
        first | exact absurd rfl h5 | exact h5 trivial | (simp at h5; done)
      (try simp only [Decidable.not_not] at h5)
      refine code_skip ?_
      refine hK12 _ ?_; clear hK12 K12
      refine code_seq (fun K15 hK15 => ?_)
      refine code_region ?_
      refine list_cons rfl (op_q (q_move rfl (by decide)) ?_)
      refine list_cons rfl (op_callM (DrawWordOfNumber_c _ ?_) (.tmp 0) 0 [] [.tmp 104] _ rfl rfl (by intro y hy; cases hy) (by decide) (by decide) (by decide) rfl (by intro h; cases h) ?_)
      · first | assumption | omega | (simp; omega)
      rintro _ _ ⟨nG, rfl⟩
      refine list_cons rfl (op_q (q_assign rfl (by decide)) ?_)
      refine list_nil ?_
      refine hK15 _ ?_; clear hK15 K15
      refine codeT.imp (σ' := [(0, .ext _), (2, .val (.bool _)), (3, .val (.str _)), (4, .own 67 3 1 _ _), (5, .val (.bool _)), (6, .own 72 3 1 _ _), (7, .val (.bool _)), (8, .own 85 3 1 _ _), (9, .val (.str _)), (10, .val (.bool _)), (11, .val (.str _)), (12, .val (.bool _)), (13, .val (.int .i64 _))]) ?_ (imp_covers ⟨rfl, rfl, rfl, rfl, rfl, rfl, rfl, rfl, rfl, rfl, rfl, rfl, rfl, trivial⟩)
      refine code_seq (fun K16 hK16 => ?_)
      refine code_region ?_
      refine list_cons rfl (op_q (q_move rfl (by decide)) ?_)
      refine list_cons rfl (op_call _ (impl_WordOfNumber _) rfl rfl (by decide) (by decide) (by decide) rfl ?_)
      rintro _ rfl
      refine list_cons rfl (op_q (q_move rfl (by decide)) ?_)
      refine list_cons rfl (op_q (q_extract rfl rfl (by decide)) ?_)
      refine list_cons rfl (op_q (q_extract rfl rfl (by decide)) ?_)
      refine list_cons rfl (op_q (q_assign rfl (by decide)) ?_)
      refine list_cons rfl (op_q (q_assign rfl (by decide)) ?_)
      refine list_nil ?_
      refine hK16 _ ?_; clear hK16 K16
      refine codeT.imp (σ' := [(0, .ext _), (2, .val (.bool _)), (3, .val (.str _)), (4, .own 67 3 1 _ _), (5, .val (.bool _)), (6, .own 72 3 1 _ _), (7, .val (.bool _)), (8, .own 85 3 1 _ _), (9, .val (.str _)), (10, .val (.bool _)), (11, .val (.str _)), (12, .val (.bool _)), (13, .val (.int .i64 _)), (14, .val (.str _)), (15, .val (.bool _))]) ?_ (imp_covers ⟨rfl, rfl, rfl, rfl, rfl, rfl, rfl, rfl, rfl, rfl, rfl, rfl, rfl, rfl, rfl, trivial⟩)
      refine code_seq (fun K17 hK17 => ?_)
      refine code_seq (fun K18 hK18 => ?_)
      refine code_region ?_
      refine list_cons rfl (op_q (q_move rfl (by decide)) ?_)
      refine list_cons rfl (op_call _ (spec_WordOfNumber _) rfl rfl (by decide) (by decide) (by decide) rfl ?_)
      rintro _ rfl
      refine list_cons rfl (op_q (q_move rfl (by decide)) ?_)
      refine list_cons rfl (op_q (q_extract rfl rfl (by decide)) ?_)
      refine list_cons rfl (op_q (q_extract rfl rfl (by decide)) ?_)
      refine list_cons rfl (op_q (q_assign rfl (by decide)) ?_)
      refine list_cons rfl (op_q (q_assign rfl (by decide)) ?_)
      refine list_nil ?_
      refine hK18 _ ?_; clear hK18 K18
      refine codeT.imp (σ' := [(0, .ext _), (2, .val (.bool _)), (3, .val (.str _)), (4, .own 67 3 1 _ _), (5, .val (.bool _)), (6, .own 72 3 1 _ _), (7, .val (.bool _)), (8, .own 85 3 1 _ _), (9, .val (.str _)), (10, .val (.bool _)), (11, .val (.str _)), (12, .val (.bool _)), (13, .val (.int .i64 _)), (14, .val (.str _)), (15, .val (.bool _)), (16, .val (.str _)), (17, .val (.bool _))]) ?_ (imp_covers ⟨rfl, rfl, rfl, rfl, rfl, rfl, rfl, rfl, rfl, rfl, rfl, rfl, rfl, rfl, rfl, rfl, rfl, trivial⟩)
      refine code_seq (fun K19 hK19 => ?_)
      refine code_region ?_
      refine list_cons rfl (op_q (q_move rfl (by decide)) ?_)
      refine list_cons rfl (op_q (q_move rfl (by decide)) ?_)
      refine list_cons rfl (op_q (q_sne rfl rfl (by decide)) ?_)
      refine list_cons rfl (op_q (q_move rfl (by decide)) ?_)
      refine list_guard_d rfl rfl rfl rfl (by decide) rfl (by decide) (fun h6 => ?_) (fun h6 => ?_)
      · simp only [Bool.false_eq_true, if_true, if_false, Decidable.not_not] at h6
        refine id (op_q (q_move rfl (by decide)) ?_)
        refine list_guard_y rfl rfl rfl rfl (by decide) rfl ?_
        refine id (op_q (q_move rfl (by decide)) ?_)
        refine list_guard_y rfl rfl rfl rfl (by decide) rfl ?_
        refine id (op_q (q_bne Tryz.underlying4 rfl rfl (by decide)) ?_)
        refine list_cons rfl (op_q (q_pick rfl rfl (by decide)) ?_)
        refine list_nil ?_
        refine hK19 _ ?_; clear hK19 K19
        refine codeT.imp (σ' := [(0, .ext _), (2, .val (.bool _)), (3, .val (.str _)), (4, .own 67 3 1 _ _), (5, .val (.bool _)), (6, .own 72 3 1 _ _), (7, .val (.bool _)), (8, .own 85 3 1 _ _), (9, .val (.str _)), (10, .val (.bool _)), (11, .val (.str _)), (12, .val (.bool _)), (13, .val (.int .i64 _)), (14, .val (.str _)), (15, .val (.bool _)), (16, .val (.str _)), (17, .val (.bool _)), (123, .val (.bool _))]) ?_ (imp_covers ⟨rfl, rfl, rfl, rfl, rfl, rfl, rfl, rfl, rfl, rfl, rfl, rfl, rfl, rfl, rfl, rfl, rfl, rfl, trivial⟩)
        refine code_cond_d rfl (fun h7 => ?_) (fun h7 => ?_)
        · skip
          (try simp only [Decidable.not_not] at h7)
          exfalso
          first | exact absurd rfl h7 | exact h7 trivial | (simp at h7; done)
        (try simp only [Decidable.not_not] at h7)
        refine code_skip ?_
        refine hK17 _ ?_; clear hK17 K17
        refine code_seq (fun K20 hK20 => ?_)
        refine code_region ?_
        refine list_cons rfl (op_q (q_move rfl (by decide)) ?_)
        refine list_cons rfl (op_callM (DrawNumberOfWord_c _ ?_) (.tmp 0) 0 [] [.tmp 124] _ rfl rfl (by intro y hy; cases hy) (by decide) (by decide) (by decide) rfl (by intro h; cases h) ?_)
        · first | assumption | omega | (simp; omega)
        rintro _ _ ⟨xH, hxH, rfl⟩
        refine list_cons rfl (op_q (q_assign rfl (by decide)) ?_)
        refine list_nil ?_
        refine hK20 _ ?_; clear hK20 K20
        refine codeT.imp (σ' := [(0, .ext _), (2, .val (.bool _)), (3, .val (.str _)), (4, .own 67 3 1 _ _), (5, .val (.bool _)), (6, .own 72 3 1 _ _), (7, .val (.bool _)), (8, .own 85 3 1 _ _), (9, .val (.str _)), (10, .val (.bool _)), (11, .val (.str _)), (12, .val (.bool _)), (13, .val (.int .i64 _)), (14, .val (.str _)), (15, .val (.bool _)), (16, .val (.str _)), (17, .val (.bool _)), (18, .val (.str _))]) ?_ (imp_covers ⟨rfl, rfl, rfl, rfl, rfl, rfl, rfl, rfl, rfl, rfl, rfl, rfl, rfl, rfl, rfl, rfl, rfl, rfl, trivial⟩)
        refine code_seq (fun K21 hK21 => ?_)
        refine code_region ?_
        refine list_cons rfl (op_q (q_move rfl (by decide)) ?_)
        refine list_cons rfl (op_call _ (impl_NumberOfWord _ (by omega)) rfl rfl (by decide) (by decide) (by decide) rfl ?_)
        rintro _ rfl
        refine list_cons rfl (op_q (q_move rfl (by decide)) ?_)
        refine list_cons rfl (op_q (q_extract rfl rfl (by decide)) ?_)
        refine list_cons rfl (op_q (q_extract rfl rfl (by decide)) ?_)
        refine list_cons rfl (op_q (q_assign rfl (by decide)) ?_)
        refine list_cons rfl (op_q (q_assign rfl (by decide)) ?_)
        refine list_nil ?_
        refine hK21 _ ?_; clear hK21 K21
        refine codeT.imp (σ' := [(0, .ext _), (2, .val (.bool _)), (3, .val (.str _)), (4, .own 67 3 1 _ _), (5, .val (.bool _)), (6, .own 72 3 1 _ _), (7, .val (.bool _)), (8, .own 85 3 1 _ _), (9, .val (.str _)), (10, .val (.bool _)), (11, .val (.str _)), (12, .val (.bool _)), (13, .val (.int .i64 _)), (14, .val (.str _)), (15, .val (.bool _)), (16, .val (.str _)), (17, .val (.bool _)), (18, .val (.str _)), (19, .val (.int .i64 _)), (20, .val (.bool _))]) ?_ (imp_covers ⟨rfl, rfl, rfl, rfl, rfl, rfl, rfl, rfl, rfl, rfl, rfl, rfl, rfl, rfl, rfl, rfl, rfl, rfl, rfl, rfl, trivial⟩)
        refine code_seq (fun K22 hK22 => ?_)
        refine code_seq (fun K23 hK23 => ?_)
        refine code_region ?_
        refine list_cons rfl (op_q (q_move rfl (by decide)) ?_)
        refine list_cons rfl (op_call _ (spec_NumberOfWord _ (by omega)) rfl rfl (by decide) (by decide) (by decide) rfl ?_)
        rintro _ rfl
        refine list_cons rfl (op_q (q_move rfl (by decide)) ?_)
        refine list_cons rfl (op_q (q_extract rfl rfl (by decide)) ?_)
        refine list_cons rfl (op_q (q_extract rfl rfl (by decide)) ?_)
        refine list_cons rfl (op_q (q_assign rfl (by decide)) ?_)
        refine list_cons rfl (op_q (q_assign rfl (by decide)) ?_)
        refine list_nil ?_
        refine hK23 _ ?_; clear hK23 K23
        refine codeT.imp (σ' := [(0, .ext _), (2, .val (.bool _)), (3, .val (.str _)), (4, .own 67 3 1 _ _), (5, .val (.bool _)), (6, .own 72 3 1 _ _), (7, .val (.bool _)), (8, .own 85 3 1 _ _), (9, .val (.str _)), (10, .val (.bool _)), (11, .val (.str _)), (12, .val (.bool _)), (13, .val (.int .i64 _)), (14, .val (.str _)), (15, .val (.bool _)), (16, .val (.str _)), (17, .val (.bool _)), (18, .val (.str _)), (19, .val (.int .i64 _)), (20, .val (.bool _)), (21, .val (.int .i64 _)), (22, .val (.bool _))]) ?_ (imp_covers ⟨rfl, rfl, rfl, rfl, rfl, rfl, rfl, rfl, rfl, rfl, rfl, rfl, rfl, rfl, rfl, rfl, rfl, rfl, rfl, rfl, rfl, rfl, trivial⟩)
        refine code_seq (fun K24 hK24 => ?_)
        refine code_region ?_
        refine list_cons rfl (op_q (q_move rfl (by decide)) ?_)
        refine list_cons rfl (op_q (q_move rfl (by decide)) ?_)
        refine list_cons rfl (op_q (q_ne rfl rfl (by decide)) ?_)
        refine list_cons rfl (op_q (q_move rfl (by decide)) ?_)
        refine list_guard_d rfl rfl rfl rfl (by decide) rfl (by decide) (fun h8 => ?_) (fun h8 => ?_)
        · simp only [Bool.false_eq_true, if_true, if_false, Decidable.not_not] at h8
          refine id (op_q (q_move rfl (by decide)) ?_)
          refine list_guard_y rfl rfl rfl rfl (by decide) rfl ?_
          refine id (op_q (q_move rfl (by decide)) ?_)
          refine list_guard_y rfl rfl rfl rfl (by decide) rfl ?_
          refine id (op_q (q_bne Tryz.underlying4 rfl rfl (by decide)) ?_)
          refine list_cons rfl (op_q (q_pick rfl rfl (by decide)) ?_)
          refine list_nil ?_
          refine hK24 _ ?_; clear hK24 K24
          refine codeT.imp (σ' := [(0, .ext _), (2, .val (.bool _)), (3, .val (.str _)), (4, .own 67 3 1 _ _), (5, .val (.bool _)), (6, .own 72 3 1 _ _), (7, .val (.bool _)), (8, .own 85 3 1 _ _), (9, .val (.str _)), (10, .val (.bool _)), (11, .val (.str _)), (12, .val (.bool _)), (13, .val (.int .i64 _)), (14, .val (.str _)), (15, .val (.bool _)), (16, .val (.str _)), (17, .val (.bool _)), (18, .val (.str _)), (19, .val (.int .i64 _)), (20, .val (.bool _)), (21, .val (.int .i64 _)), (22, .val (.bool _)), (143, .val (.bool _))]) ?_ (imp_covers ⟨rfl, rfl, rfl, rfl, rfl, rfl, rfl, rfl, rfl, rfl, rfl, rfl, rfl, rfl, rfl, rfl, rfl, rfl, rfl, rfl, rfl, rfl, rfl, trivial⟩)
          refine code_cond_d rfl (fun h9 => ?_) (fun h9 => ?_)
          · skip
            (try simp only [Decidable.not_not] at h9)
            exfalso
            first | exact absurd rfl h9 | exact h9 trivial | (simp at h9; done)
          (try simp only [Decidable.not_not] at h9)
          refine code_skip ?_
          refine hK22 _ ?_; clear hK22 K22
          refine code_seq (fun K25 hK25 => ?_)
          refine code_region ?_
          refine list_cons rfl (op_q (q_move rfl (by decide)) ?_)
          refine list_cons rfl (op_callM (DrawMirroredWord_c _ ?_) (.tmp 0) 0 [] [.tmp 144] _ rfl rfl (by intro y hy; cases hy) (by decide) (by decide) (by decide) rfl (by intro h; cases h) ?_)
          · first | assumption | omega | (simp; omega)
          rintro _ _ ⟨yI, hyI, rfl⟩
          refine list_cons rfl (op_q (q_assign rfl (by decide)) ?_)
          refine list_nil ?_
          refine hK25 _ ?_; clear hK25 K25
          refine codeT.imp (σ' := [(0, .ext _), (2, .val (.bool _)), (3, .val (.str _)), (4, .own 67 3 1 _ _), (5, .val (.bool _)), (6, .own 72 3 1 _ _), (7, .val (.bool _)), (8, .own 85 3 1 _ _), (9, .val (.str _)), (10, .val (.bool _)), (11, .val (.str _)), (12, .val (.bool _)), (13, .val (.int .i64 _)), (14, .val (.str _)), (15, .val (.bool _)), (16, .val (.str _)), (17, .val (.bool _)), (18, .val (.str _)), (19, .val (.int .i64 _)), (20, .val (.bool _)), (21, .val (.int .i64 _)), (22, .val (.bool _)), (23, .val (.str _))]) ?_ (imp_covers ⟨rfl, rfl, rfl, rfl, rfl, rfl, rfl, rfl, rfl, rfl, rfl, rfl, rfl, rfl, rfl, rfl, rfl, rfl, rfl, rfl, rfl, rfl, rfl, trivial⟩)
          refine code_seq (fun K26 hK26 => ?_)
          refine code_region ?_
          refine list_cons rfl (op_q (q_move rfl (by decide)) ?_)
          refine list_cons rfl (op_call _ (impl_MirroredWord _ (by omega)) rfl rfl (by decide) (by decide) (by decide) rfl ?_)
          rintro _ rfl
          refine list_cons rfl (op_q (q_move rfl (by decide)) ?_)
          refine list_cons rfl (op_q (q_extract rfl rfl (by decide)) ?_)
          refine list_cons rfl (op_q (q_extract rfl rfl (by decide)) ?_)
          refine list_cons rfl (op_q (q_assign rfl (by decide)) ?_)
          refine list_cons rfl (op_q (q_assign rfl (by decide)) ?_)
          refine list_nil ?_
          refine hK26 _ ?_; clear hK26 K26
          refine codeT.imp (σ' := [(0, .ext _), (2, .val (.bool _)), (3, .val (.str _)), (4, .own 67 3 1 _ _), (5, .val (.bool _)), (6, .own 72 3 1 _ _), (7, .val (.bool _)), (8, .own 85 3 1 _ _), (9, .val (.str _)), (10, .val (.bool _)), (11, .val (.str _)), (12, .val (.bool _)), (13, .val (.int .i64 _)), (14, .val (.str _)), (15, .val (.bool _)), (16, .val (.str _)), (17, .val (.bool _)), (18, .val (.str _)), (19, .val (.int .i64 _)), (20, .val (.bool _)), (21, .val (.int .i64 _)), (22, .val (.bool _)), (23, .val (.str _)), (24, .val (.str _)), (25, .val (.bool _))]) ?_ (imp_covers ⟨rfl, rfl, rfl, rfl, rfl, rfl, rfl, rfl, rfl, rfl, rfl, rfl, rfl, rfl, rfl, rfl, rfl, rfl, rfl, rfl, rfl, rfl, rfl, rfl, rfl, trivial⟩)
          refine code_seq (fun K27 hK27 => ?_)
          refine code_seq (fun K28 hK28 => ?_)
          refine code_region ?_
          refine list_cons rfl (op_q (q_move rfl (by decide)) ?_)
          refine list_cons rfl (op_call _ (spec_MirroredWord _ (by omega)) rfl rfl (by decide) (by decide) (by decide) rfl ?_)
          rintro _ rfl
          refine list_cons rfl (op_q (q_move rfl (by decide)) ?_)
          refine list_cons rfl (op_q (q_extract rfl rfl (by decide)) ?_)
          refine list_cons rfl (op_q (q_extract rfl rfl (by decide)) ?_)
          refine list_cons rfl (op_q (q_assign rfl (by decide)) ?_)
          refine list_cons rfl (op_q (q_assign rfl (by decide)) ?_)
          refine list_nil ?_
          refine hK28 _ ?_; clear hK28 K28
          refine codeT.imp (σ' := [(0, .ext _), (2, .val (.bool _)), (3, .val (.str _)), (4, .own 67 3 1 _ _), (5, .val (.bool _)), (6, .own 72 3 1 _ _), (7, .val (.bool _)), (8, .own 85 3 1 _ _), (9, .val (.str _)), (10, .val (.bool _)), (11, .val (.str _)), (12, .val (.bool _)), (13, .val (.int .i64 _)), (14, .val (.str _)), (15, .val (.bool _)), (16, .val (.str _)), (17, .val (.bool _)), (18, .val (.str _)), (19, .val (.int .i64 _)), (20, .val (.bool _)), (21, .val (.int .i64 _)), (22, .val (.bool _)), (23, .val (.str _)), (24, .val (.str _)), (25, .val (.bool _)), (26, .val (.str _)), (27, .val (.bool _))]) ?_ (imp_covers ⟨rfl, rfl, rfl, rfl, rfl, rfl, rfl, rfl, rfl, rfl, rfl, rfl, rfl, rfl, rfl, rfl, rfl, rfl, rfl, rfl, rfl, rfl, rfl, rfl, rfl, rfl, rfl, trivial⟩)
          refine code_seq (fun K29 hK29 => ?_)
          refine code_region ?_
          refine list_cons rfl (op_q (q_move rfl (by decide)) ?_)
          refine list_cons rfl (op_q (q_move rfl (by decide)) ?_)
          refine list_cons rfl (op_q (q_sne rfl rfl (by decide)) ?_)
          refine list_cons rfl (op_q (q_move rfl (by decide)) ?_)
          refine list_guard_d rfl rfl rfl rfl (by decide) rfl (by decide) (fun h10 => ?_) (fun h10 => ?_)
          · simp only [Bool.false_eq_true, if_true, if_false, Decidable.not_not] at h10
            refine id (op_q (q_move rfl (by decide)) ?_)
            refine list_guard_y rfl rfl rfl rfl (by decide) rfl ?_
            refine id (op_q (q_move rfl (by decide)) ?_)
            refine list_guard_y rfl rfl rfl rfl (by decide) rfl ?_
            refine id (op_q (q_bne Tryz.underlying4 rfl rfl (by decide)) ?_)
            refine list_cons rfl (op_q (q_pick rfl rfl (by decide)) ?_)
            refine list_nil ?_
            refine hK29 _ ?_; clear hK29 K29
            refine codeT.imp (σ' := [(0, .ext _), (2, .val (.bool _)), (3, .val (.str _)), (4, .own 67 3 1 _ _), (5, .val (.bool _)), (6, .own 72 3 1 _ _), (7, .val (.bool _)), (8, .own 85 3 1 _ _), (9, .val (.str _)), (10, .val (.bool _)), (11, .val (.str _)), (12, .val (.bool _)), (13, .val (.int .i64 _)), (14, .val (.str _)), (15, .val (.bool _)), (16, .val (.str _)), (17, .val (.bool _)), (18, .val (.str _)), (19, .val (.int .i64 _)), (20, .val (.bool _)), (21, .val (.int .i64 _)), (22, .val (.bool _)), (23, .val (.str _)), (24, .val (.str _)), (25, .val (.bool _)), (26, .val (.str _)), (27, .val (.bool _)), (163, .val (.bool _))]) ?_ (imp_covers ⟨rfl, rfl, rfl, rfl, rfl, rfl, rfl, rfl, rfl, rfl, rfl, rfl, rfl, rfl, rfl, rfl, rfl, rfl, rfl, rfl, rfl, rfl, rfl, rfl, rfl, rfl, rfl, rfl, trivial⟩)
            refine code_cond_d rfl (fun h11 => ?_) (fun h11 => ?_)
            · skip
              (try simp only [Decidable.not_not] at h11)
              exfalso
              first | exact absurd rfl h11 | exact h11 trivial | (simp at h11; done)
            (try simp only [Decidable.not_not] at h11)
            refine code_skip ?_
            refine hK27 _ ?_; clear hK27 K27
            refine code_seq (fun K30 hK30 => ?_)
            refine code_region ?_
            refine list_cons rfl (op_q (q_move rfl (by decide)) ?_)
            refine list_cons rfl (op_callM (DrawLetterCell_c _ ?_) (.tmp 0) 0 [] [.tmp 164] _ rfl rfl (by intro y hy; cases hy) (by decide) (by decide) (by decide) rfl (by intro h; cases h) ?_)
            · first | assumption | omega | (simp; omega)
            rintro _ _ ⟨sD, hsD, rfl⟩
            refine list_cons rfl (op_q (q_assign rfl (by decide)) ?_)
            refine list_nil ?_
            refine hK30 _ ?_; clear hK30 K30
            refine codeT.imp (σ' := [(0, .ext _), (2, .val (.bool _)), (3, .val (.str _)), (4, .own 67 3 1 _ _), (5, .val (.bool _)), (6, .own 72 3 1 _ _), (7, .val (.bool _)), (8, .own 85 3 1 _ _), (9, .val (.str _)), (10, .val (.bool _)), (11, .val (.str _)), (12, .val (.bool _)), (13, .val (.int .i64 _)), (14, .val (.str _)), (15, .val (.bool _)), (16, .val (.str _)), (17, .val (.bool _)), (18, .val (.str _)), (19, .val (.int .i64 _)), (20, .val (.bool _)), (21, .val (.int .i64 _)), (22, .val (.bool _)), (23, .val (.str _)), (24, .val (.str _)), (25, .val (.bool _)), (26, .val (.str _)), (27, .val (.bool _)), (28, .val (.str _))]) ?_ (imp_covers ⟨rfl, rfl, rfl, rfl, rfl, rfl, rfl, rfl, rfl, rfl, rfl, rfl, rfl, rfl, rfl, rfl, rfl, rfl, rfl, rfl, rfl, rfl, rfl, rfl, rfl, rfl, rfl, rfl, trivial⟩)
            refine code_seq (fun K31 hK31 => ?_)
            refine code_region ?_
            refine list_cons rfl (op_q (q_move rfl (by decide)) ?_)
            refine list_cons rfl (op_call _ (impl_LetterCell _ (by omega)) rfl rfl (by decide) (by decide) (by decide) rfl ?_)
            rintro _ rfl
            refine list_cons rfl (op_q (q_move rfl (by decide)) ?_)
            refine list_cons rfl (op_q (q_extract rfl rfl (by decide)) ?_)
            refine list_cons rfl (op_q (q_extract rfl rfl (by decide)) ?_)
            refine list_cons rfl (op_q (q_assign rfl (by decide)) ?_)
            refine list_cons rfl (op_q (q_assign rfl (by decide)) ?_)
            refine list_nil ?_
            refine hK31 _ ?_; clear hK31 K31
            refine codeT.imp (σ' := ((0, .ext _) :: (2, .val (.bool _)) :: (3, .val (.str _)) :: (4, .own 67 3 1 _ _) :: (5, .val (.bool _)) :: (6, .own 72 3 1 _ _) :: (7, .val (.bool _)) :: (8, .own 85 3 1 _ _) :: (9, .val (.str _)) :: (10, .val (.bool _)) :: (11, .val (.str _)) :: (12, .val (.bool _)) :: (13, .val (.int .i64 _)) :: (14, .val (.str _)) :: (15, .val (.bool _)) :: (16, .val (.str _)) :: (17, .val (.bool _)) :: (18, .val (.str _)) :: (19, .val (.int .i64 _)) :: (20, .val (.bool _)) :: (21, .val (.int .i64 _)) :: (22, .val (.bool _)) :: (23, .val (.str _)) :: (24, .val (.str _)) :: (25, .val (.bool _)) :: (26, .val (.str _)) :: (27, .val (.bool _)) :: (28, .val (.str _)) :: (29, .val (.int .i64 _)) :: (30, .val (.bool _)) :: [])) ?_ (imp_covers ⟨rfl, rfl, rfl, rfl, rfl, rfl, rfl, rfl, rfl, rfl, rfl, rfl, rfl, rfl, rfl, rfl, rfl, rfl, rfl, rfl, rfl, rfl, rfl, rfl, rfl, rfl, rfl, rfl, rfl, rfl, trivial⟩)
            refine code_seq (fun K32 hK32 => ?_)
            refine code_seq (fun K33 hK33 => ?_)
            refine code_region ?_
            refine list_cons rfl (op_q (q_move rfl (by decide)) ?_)
            refine list_cons rfl (op_call _ (spec_LetterCell _ (by omega)) rfl rfl (by decide) (by decide) (by decide) rfl ?_)
            rintro _ rfl
            refine list_cons rfl (op_q (q_move rfl (by decide)) ?_)
            refine list_cons rfl (op_q (q_extract rfl rfl (by decide)) ?_)
            refine list_cons rfl (op_q (q_extract rfl rfl (by decide)) ?_)
            refine list_cons rfl (op_q (q_assign rfl (by decide)) ?_)
            refine list_cons rfl (op_q (q_assign rfl (by decide)) ?_)
            refine list_nil ?_
            refine hK33 _ ?_; clear hK33 K33
            refine codeT.imp (σ' := ((0, .ext _) :: (2, .val (.bool _)) :: (3, .val (.str _)) :: (4, .own 67 3 1 _ _) :: (5, .val (.bool _)) :: (6, .own 72 3 1 _ _) :: (7, .val (.bool _)) :: (8, .own 85 3 1 _ _) :: (9, .val (.str _)) :: (10, .val (.bool _)) :: (11, .val (.str _)) :: (12, .val (.bool _)) :: (13, .val (.int .i64 _)) :: (14, .val (.str _)) :: (15, .val (.bool _)) :: (16, .val (.str _)) :: (17, .val (.bool _)) :: (18, .val (.str _)) :: (19, .val (.int .i64 _)) :: (20, .val (.bool _)) :: (21, .val (.int .i64 _)) :: (22, .val (.bool _)) :: (23, .val (.str _)) :: (24, .val (.str _)) :: (25, .val (.bool _)) :: (26, .val (.str _)) :: (27, .val (.bool _)) :: (28, .val (.str _)) :: (29, .val (.int .i64 _)) :: (30, .val (.bool _)) :: (31, .val (.int .i64 _)) :: (32, .val (.bool _)) :: [])) ?_ (imp_covers ⟨rfl, rfl, rfl, rfl, rfl, rfl, rfl, rfl, rfl, rfl, rfl, rfl, rfl, rfl, rfl, rfl, rfl, rfl, rfl, rfl, rfl, rfl, rfl, rfl, rfl, rfl, rfl, rfl, rfl, rfl, rfl, rfl, trivial⟩)
            refine code_seq (fun K34 hK34 => ?_)
            refine code_region ?_
            refine list_cons rfl (op_q (q_move rfl (by decide)) ?_)
            refine list_cons rfl (op_q (q_move rfl (by decide)) ?_)
            refine list_cons rfl (op_q (q_ne rfl rfl (by decide)) ?_)
            refine list_cons rfl (op_q (q_move rfl (by decide)) ?_)
            refine list_guard_d rfl rfl rfl rfl (by decide) rfl (by decide) (fun h12 => ?_) (fun h12 => ?_)
            · simp only [Bool.false_eq_true, if_true, if_false, Decidable.not_not] at h12
              refine id (op_q (q_move rfl (by decide)) ?_)
              refine list_guard_y rfl rfl rfl rfl (by decide) rfl ?_
              refine id (op_q (q_move rfl (by decide)) ?_)
              refine list_guard_y rfl rfl rfl rfl (by decide) rfl ?_
              refine id (op_q (q_bne Tryz.underlying4 rfl rfl (by decide)) ?_)
              refine list_cons rfl (op_q (q_pick rfl rfl (by decide)) ?_)
              refine list_nil ?_
              refine hK34 _ ?_; clear hK34 K34
              refine codeT.imp (σ' := ((0, .ext _) :: (2, .val (.bool _)) :: (3, .val (.str _)) :: (4, .own 67 3 1 _ _) :: (5, .val (.bool _)) :: (6, .own 72 3 1 _ _) :: (7, .val (.bool _)) :: (8, .own 85 3 1 _ _) :: (9, .val (.str _)) :: (10, .val (.bool _)) :: (11, .val (.str _)) :: (12, .val (.bool _)) :: (13, .val (.int .i64 _)) :: (14, .val (.str _)) :: (15, .val (.bool _)) :: (16, .val (.str _)) :: (17, .val (.bool _)) :: (18, .val (.str _)) :: (19, .val (.int .i64 _)) :: (20, .val (.bool _)) :: (21, .val (.int .i64 _)) :: (22, .val (.bool _)) :: (23, .val (.str _)) :: (24, .val (.str _)) :: (25, .val (.bool _)) :: (26, .val (.str _)) :: (27, .val (.bool _)) :: (28, .val (.str _)) :: (29, .val (.int .i64 _)) :: (30, .val (.bool _)) :: (31, .val (.int .i64 _)) :: (32, .val (.bool _)) :: (183, .val (.bool _)) :: [])) ?_ (imp_covers ⟨rfl, rfl, rfl, rfl, rfl, rfl, rfl, rfl, rfl, rfl, rfl, rfl, rfl, rfl, rfl, rfl, rfl, rfl, rfl, rfl, rfl, rfl, rfl, rfl, rfl, rfl, rfl, rfl, rfl, rfl, rfl, rfl, rfl, trivial⟩)
              refine code_cond_d rfl (fun h13 => ?_) (fun h13 => ?_)
              · skip
                (try simp only [Decidable.not_not] at h13)
                exfalso
                first | exact absurd rfl h13 | exact h13 trivial | (simp at h13; done)
              (try simp only [Decidable.not_not] at h13)
              refine code_skip ?_
              refine hK32 _ ?_; clear hK32 K32
              refine code_seq (fun K35 hK35 => ?_)
              refine code_region ?_
              refine list_cons rfl (op_q (q_move rfl (by decide)) ?_)
              refine list_cons rfl (op_callM (DrawLetterOf_c _ ?_) (.tmp 0) 0 [] [.tmp 184] _ rfl rfl (by intro y hy; cases hy) (by decide) (by decide) (by decide) rfl (by intro h; cases h) ?_)
              · first | assumption | omega | (simp; omega)
              rintro _ _ ⟨cE, rfl⟩
              refine list_cons rfl (op_q (q_assign rfl (by decide)) ?_)
              refine list_nil ?_
              refine hK35 _ ?_; clear hK35 K35
              refine codeT.imp (σ' := ((0, .ext _) :: (2, .val (.bool _)) :: (3, .val (.str _)) :: (4, .own 67 3 1 _ _) :: (5, .val (.bool _)) :: (6, .own 72 3 1 _ _) :: (7, .val (.bool _)) :: (8, .own 85 3 1 _ _) :: (9, .val (.str _)) :: (10, .val (.bool _)) :: (11, .val (.str _)) :: (12, .val (.bool _)) :: (13, .val (.int .i64 _)) :: (14, .val (.str _)) :: (15, .val (.bool _)) :: (16, .val (.str _)) :: (17, .val (.bool _)) :: (18, .val (.str _)) :: (19, .val (.int .i64 _)) :: (20, .val (.bool _)) :: (21, .val (.int .i64 _)) :: (22, .val (.bool _)) :: (23, .val (.str _)) :: (24, .val (.str _)) :: (25, .val (.bool _)) :: (26, .val (.str _)) :: (27, .val (.bool _)) :: (28, .val (.str _)) :: (29, .val (.int .i64 _)) :: (30, .val (.bool _)) :: (31, .val (.int .i64 _)) :: (32, .val (.bool _)) :: (33, .val (.int .i64 _)) :: [])) ?_ (imp_covers ⟨rfl, rfl, rfl, rfl, rfl, rfl, rfl, rfl, rfl, rfl, rfl, rfl, rfl, rfl, rfl, rfl, rfl, rfl, rfl, rfl, rfl, rfl, rfl, rfl, rfl, rfl, rfl, rfl, rfl, rfl, rfl, rfl, rfl, trivial⟩)
              refine code_seq (fun K36 hK36 => ?_)
              refine code_region ?_
              refine list_cons rfl (op_q (q_move rfl (by decide)) ?_)
              refine list_cons rfl (op_call _ (impl_LetterOf _) rfl rfl (by decide) (by decide) (by decide) rfl ?_)
              rintro _ rfl
              refine list_cons rfl (op_q (q_move rfl (by decide)) ?_)
              refine list_cons rfl (op_q (q_extract rfl rfl (by decide)) ?_)
              refine list_cons rfl (op_q (q_extract rfl rfl (by decide)) ?_)
              refine list_cons rfl (op_q (q_assign rfl (by decide)) ?_)
              refine list_cons rfl (op_q (q_assign rfl (by decide)) ?_)
              refine list_nil ?_
              refine hK36 _ ?_; clear hK36 K36
              refine codeT.imp (σ' := ((0, .ext _) :: (2, .val (.bool _)) :: (3, .val (.str _)) :: (4, .own 67 3 1 _ _) :: (5, .val (.bool _)) :: (6, .own 72 3 1 _ _) :: (7, .val (.bool _)) :: (8, .own 85 3 1 _ _) :: (9, .val (.str _)) :: (10, .val (.bool _)) :: (11, .val (.str _)) :: (12, .val (.bool _)) :: (13, .val (.int .i64 _)) :: (14, .val (.str _)) :: (15, .val (.bool _)) :: (16, .val (.str _)) :: (17, .val (.bool _)) :: (18, .val (.str _)) :: (19, .val (.int .i64 _)) :: (20, .val (.bool _)) :: (21, .val (.int .i64 _)) :: (22, .val (.bool _)) :: (23, .val (.str _)) :: (24, .val (.str _)) :: (25, .val (.bool _)) :: (26, .val (.str _)) :: (27, .val (.bool _)) :: (28, .val (.str _)) :: (29, .val (.int .i64 _)) :: (30, .val (.bool _)) :: (31, .val (.int .i64 _)) :: (32, .val (.bool _)) :: (33, .val (.int .i64 _)) :: (34, .val (.str _)) :: (35, .val (.bool _)) :: [])) ?_ (imp_covers ⟨rfl, rfl, rfl, rfl, rfl, rfl, rfl, rfl, rfl, rfl, rfl, rfl, rfl, rfl, rfl, rfl, rfl, rfl, rfl, rfl, rfl, rfl, rfl, rfl, rfl, rfl, rfl, rfl, rfl, rfl, rfl, rfl, rfl, rfl, rfl, trivial⟩)
              refine code_seq (fun K37 hK37 => ?_)
              refine code_seq (fun K38 hK38 => ?_)
              refine code_region ?_
              refine list_cons rfl (op_q (q_move rfl (by decide)) ?_)
              refine list_cons rfl (op_call _ (spec_LetterOf _) rfl rfl (by decide) (by decide) (by decide) rfl ?_)
              rintro _ rfl
              refine list_cons rfl (op_q (q_move rfl (by decide)) ?_)
              refine list_cons rfl (op_q (q_extract rfl rfl (by decide)) ?_)
              refine list_cons rfl (op_q (q_extract rfl rfl (by decide)) ?_)
              refine list_cons rfl (op_q (q_assign rfl (by decide)) ?_)
              refine list_cons rfl (op_q (q_assign rfl (by decide)) ?_)
              refine list_nil ?_
              refine hK38 _ ?_; clear hK38 K38
              refine codeT.imp (σ' := ((0, .ext _) :: (2, .val (.bool _)) :: (3, .val (.str _)) :: (4, .own 67 3 1 _ _) :: (5, .val (.bool _)) :: (6, .own 72 3 1 _ _) :: (7, .val (.bool _)) :: (8, .own 85 3 1 _ _) :: (9, .val (.str _)) :: (10, .val (.bool _)) :: (11, .val (.str _)) :: (12, .val (.bool _)) :: (13, .val (.int .i64 _)) :: (14, .val (.str _)) :: (15, .val (.bool _)) :: (16, .val (.str _)) :: (17, .val (.bool _)) :: (18, .val (.str _)) :: (19, .val (.int .i64 _)) :: (20, .val (.bool _)) :: (21, .val (.int .i64 _)) :: (22, .val (.bool _)) :: (23, .val (.str _)) :: (24, .val (.str _)) :: (25, .val (.bool _)) :: (26, .val (.str _)) :: (27, .val (.bool _)) :: (28, .val (.str _)) :: (29, .val (.int .i64 _)) :: (30, .val (.bool _)) :: (31, .val (.int .i64 _)) :: (32, .val (.bool _)) :: (33, .val (.int .i64 _)) :: (34, .val (.str _)) :: (35, .val (.bool _)) :: (36, .val (.str _)) :: (37, .val (.bool _)) :: [])) ?_ (imp_covers ⟨rfl, rfl, rfl, rfl, rfl, rfl, rfl, rfl, rfl, rfl, rfl, rfl, rfl, rfl, rfl, rfl, rfl, rfl, rfl, rfl, rfl, rfl, rfl, rfl, rfl, rfl, rfl, rfl, rfl, rfl, rfl, rfl, rfl, rfl, rfl, rfl, rfl, trivial⟩)
              refine code_seq (fun K39 hK39 => ?_)
              refine code_region ?_
              refine list_cons rfl (op_q (q_move rfl (by decide)) ?_)
              refine list_cons rfl (op_q (q_move rfl (by decide)) ?_)
              refine list_cons rfl (op_q (q_sne rfl rfl (by decide)) ?_)
              refine list_cons rfl (op_q (q_move rfl (by decide)) ?_)
              refine list_guard_d rfl rfl rfl rfl (by decide) rfl (by decide) (fun h14 => ?_) (fun h14 => ?_)
              · simp only [Bool.false_eq_true, if_true, if_false, Decidable.not_not] at h14
                refine id (op_q (q_move rfl (by decide)) ?_)
                refine list_guard_y rfl rfl rfl rfl (by decide) rfl ?_
                refine id (op_q (q_move rfl (by decide)) ?_)
                refine list_guard_y rfl rfl rfl rfl (by decide) rfl ?_
                refine id (op_q (q_bne Tryz.underlying4 rfl rfl (by decide)) ?_)
                refine list_cons rfl (op_q (q_pick rfl rfl (by decide)) ?_)
                refine list_nil ?_
                refine hK39 _ ?_; clear hK39 K39
                refine codeT.imp (σ' := ((0, .ext _) :: (2, .val (.bool _)) :: (3, .val (.str _)) :: (4, .own 67 3 1 _ _) :: (5, .val (.bool _)) :: (6, .own 72 3 1 _ _) :: (7, .val (.bool _)) :: (8, .own 85 3 1 _ _) :: (9, .val (.str _)) :: (10, .val (.bool _)) :: (11, .val (.str _)) :: (12, .val (.bool _)) :: (13, .val (.int .i64 _)) :: (14, .val (.str _)) :: (15, .val (.bool _)) :: (16, .val (.str _)) :: (17, .val (.bool _)) :: (18, .val (.str _)) :: (19, .val (.int .i64 _)) :: (20, .val (.bool _)) :: (21, .val (.int .i64 _)) :: (22, .val (.bool _)) :: (23, .val (.str _)) :: (24, .val (.str _)) :: (25, .val (.bool _)) :: (26, .val (.str _)) :: (27, .val (.bool _)) :: (28, .val (.str _)) :: (29, .val (.int .i64 _)) :: (30, .val (.bool _)) :: (31, .val (.int .i64 _)) :: (32, .val (.bool _)) :: (33, .val (.int .i64 _)) :: (34, .val (.str _)) :: (35, .val (.bool _)) :: (36, .val (.str _)) :: (37, .val (.bool _)) :: (203, .val (.bool _)) :: [])) ?_ (imp_covers ⟨rfl, rfl, rfl, rfl, rfl, rfl, rfl, rfl, rfl, rfl, rfl, rfl, rfl, rfl, rfl, rfl, rfl, rfl, rfl, rfl, rfl, rfl, rfl, rfl, rfl, rfl, rfl, rfl, rfl, rfl, rfl, rfl, rfl, rfl, rfl, rfl, rfl, rfl, trivial⟩)
                refine code_cond_d rfl (fun h15 => ?_) (fun h15 => ?_)
                · skip
                  (try simp only [Decidable.not_not] at h15)
                  exfalso
                  first | exact absurd rfl h15 | exact h15 trivial | (simp at h15; done)
                (try simp only [Decidable.not_not] at h15)
                refine code_skip ?_
                refine hK37 _ ?_; clear hK37 K37
                refine code_seq (fun K40 hK40 => ?_)
                refine code_region ?_
                refine list_cons rfl (op_q (q_move rfl (by decide)) ?_)
                refine list_cons rfl (op_callM (DrawWordLit_c _ ?_) (.tmp 0) 0 [] [.tmp 204] _ rfl rfl (by intro y hy; cases hy) (by decide) (by decide) (by decide) rfl (by intro h; cases h) ?_)
                · first | assumption | omega | (simp; omega)
                rintro _ _ ⟨sC, hsC, rfl⟩
                refine list_cons rfl (op_q (q_assign rfl (by decide)) ?_)
                refine list_nil ?_
                refine hK40 _ ?_; clear hK40 K40
                refine codeT.imp (σ' := ((0, .ext _) :: (2, .val (.bool _)) :: (3, .val (.str _)) :: (4, .own 67 3 1 _ _) :: (5, .val (.bool _)) :: (6, .own 72 3 1 _ _) :: (7, .val (.bool _)) :: (8, .own 85 3 1 _ _) :: (9, .val (.str _)) :: (10, .val (.bool _)) :: (11, .val (.str _)) :: (12, .val (.bool _)) :: (13, .val (.int .i64 _)) :: (14, .val (.str _)) :: (15, .val (.bool _)) :: (16, .val (.str _)) :: (17, .val (.bool _)) :: (18, .val (.str _)) :: (19, .val (.int .i64 _)) :: (20, .val (.bool _)) :: (21, .val (.int .i64 _)) :: (22, .val (.bool _)) :: (23, .val (.str _)) :: (24, .val (.str _)) :: (25, .val (.bool _)) :: (26, .val (.str _)) :: (27, .val (.bool _)) :: (28, .val (.str _)) :: (29, .val (.int .i64 _)) :: (30, .val (.bool _)) :: (31, .val (.int .i64 _)) :: (32, .val (.bool _)) :: (33, .val (.int .i64 _)) :: (34, .val (.str _)) :: (35, .val (.bool _)) :: (36, .val (.str _)) :: (37, .val (.bool _)) :: (38, .val (.str _)) :: [])) ?_ (imp_covers ⟨rfl, rfl, rfl, rfl, rfl, rfl, rfl, rfl, rfl, rfl, rfl, rfl, rfl, rfl, rfl, rfl, rfl, rfl, rfl, rfl, rfl, rfl, rfl, rfl, rfl, rfl, rfl, rfl, rfl, rfl, rfl, rfl, rfl, rfl, rfl, rfl, rfl, rfl, trivial⟩)
                refine code_seq (fun K41 hK41 => ?_)
                refine code_region ?_
                refine list_cons rfl (op_q (q_move rfl (by decide)) ?_)
                refine list_cons rfl (op_call _ (impl_WordLit _ (by omega)) rfl rfl (by decide) (by decide) (by decide) rfl ?_)
                rintro _ rfl
                refine list_cons rfl (op_q (q_move rfl (by decide)) ?_)
                refine list_cons rfl (op_q (q_extract rfl rfl (by decide)) ?_)
                refine list_cons rfl (op_q (q_extract rfl rfl (by decide)) ?_)
                refine list_cons rfl (op_q (q_assign rfl (by decide)) ?_)
                refine list_cons rfl (op_q (q_assign rfl (by decide)) ?_)
                refine list_nil ?_
                refine hK41 _ ?_; clear hK41 K41
                refine codeT.imp (σ' := ((0, .ext _) :: (2, .val (.bool _)) :: (3, .val (.str _)) :: (4, .own 67 3 1 _ _) :: (5, .val (.bool _)) :: (6, .own 72 3 1 _ _) :: (7, .val (.bool _)) :: (8, .own 85 3 1 _ _) :: (9, .val (.str _)) :: (10, .val (.bool _)) :: (11, .val (.str _)) :: (12, .val (.bool _)) :: (13, .val (.int .i64 _)) :: (14, .val (.str _)) :: (15, .val (.bool _)) :: (16, .val (.str _)) :: (17, .val (.bool _)) :: (18, .val (.str _)) :: (19, .val (.int .i64 _)) :: (20, .val (.bool _)) :: (21, .val (.int .i64 _)) :: (22, .val (.bool _)) :: (23, .val (.str _)) :: (24, .val (.str _)) :: (25, .val (.bool _)) :: (26, .val (.str _)) :: (27, .val (.bool _)) :: (28, .val (.str _)) :: (29, .val (.int .i64 _)) :: (30, .val (.bool _)) :: (31, .val (.int .i64 _)) :: (32, .val (.bool _)) :: (33, .val (.int .i64 _)) :: (34, .val (.str _)) :: (35, .val (.bool _)) :: (36, .val (.str _)) :: (37, .val (.bool _)) :: (38, .val (.str _)) :: (39, .val (.int .i64 _)) :: (40, .val (.bool _)) :: [])) ?_ (imp_covers ⟨rfl, rfl, rfl, rfl, rfl, rfl, rfl, rfl, rfl, rfl, rfl, rfl, rfl, rfl, rfl, rfl, rfl, rfl, rfl, rfl, rfl, rfl, rfl, rfl, rfl, rfl, rfl, rfl, rfl, rfl, rfl, rfl, rfl, rfl, rfl, rfl, rfl, rfl, rfl, rfl, trivial⟩)
                refine code_seq (fun K42 hK42 => ?_)
                refine code_seq (fun K43 hK43 => ?_)
                refine code_region ?_
                refine list_cons rfl (op_q (q_move rfl (by decide)) ?_)
                refine list_cons rfl (op_call _ (spec_WordLit _ (by omega)) rfl rfl (by decide) (by decide) (by decide) rfl ?_)
                rintro _ rfl
                refine list_cons rfl (op_q (q_move rfl (by decide)) ?_)
                refine list_cons rfl (op_q (q_extract rfl rfl (by decide)) ?_)
                refine list_cons rfl (op_q (q_extract rfl rfl (by decide)) ?_)
                refine list_cons rfl (op_q (q_assign rfl (by decide)) ?_)
                refine list_cons rfl (op_q (q_assign rfl (by decide)) ?_)
                refine list_nil ?_
                refine hK43 _ ?_; clear hK43 K43
                refine codeT.imp (σ' := ((0, .ext _) :: (2, .val (.bool _)) :: (3, .val (.str _)) :: (4, .own 67 3 1 _ _) :: (5, .val (.bool _)) :: (6, .own 72 3 1 _ _) :: (7, .val (.bool _)) :: (8, .own 85 3 1 _ _) :: (9, .val (.str _)) :: (10, .val (.bool _)) :: (11, .val (.str _)) :: (12, .val (.bool _)) :: (13, .val (.int .i64 _)) :: (14, .val (.str _)) :: (15, .val (.bool _)) :: (16, .val (.str _)) :: (17, .val (.bool _)) :: (18, .val (.str _)) :: (19, .val (.int .i64 _)) :: (20, .val (.bool _)) :: (21, .val (.int .i64 _)) :: (22, .val (.bool _)) :: (23, .val (.str _)) :: (24, .val (.str _)) :: (25, .val (.bool _)) :: (26, .val (.str _)) :: (27, .val (.bool _)) :: (28, .val (.str _)) :: (29, .val (.int .i64 _)) :: (30, .val (.bool _)) :: (31, .val (.int .i64 _)) :: (32, .val (.bool _)) :: (33, .val (.int .i64 _)) :: (34, .val (.str _)) :: (35, .val (.bool _)) :: (36, .val (.str _)) :: (37, .val (.bool _)) :: (38, .val (.str _)) :: (39, .val (.int .i64 _)) :: (40, .val (.bool _)) :: (41, .val (.int .i64 _)) :: (42, .val (.bool _)) :: [])) ?_ (imp_covers ⟨rfl, rfl, rfl, rfl, rfl, rfl, rfl, rfl, rfl, rfl, rfl, rfl, rfl, rfl, rfl, rfl, rfl, rfl, rfl, rfl, rfl, rfl, rfl, rfl, rfl, rfl, rfl, rfl, rfl, rfl, rfl, rfl, rfl, rfl, rfl, rfl, rfl, rfl, rfl, rfl, rfl, rfl, trivial⟩)
                refine code_seq (fun K44 hK44 => ?_)
                refine code_region ?_
                refine list_cons rfl (op_q (q_move rfl (by decide)) ?_)
                refine list_cons rfl (op_q (q_move rfl (by decide)) ?_)
                refine list_cons rfl (op_q (q_ne rfl rfl (by decide)) ?_)
                refine list_cons rfl (op_q (q_move rfl (by decide)) ?_)
                refine list_guard_d rfl rfl rfl rfl (by decide) rfl (by decide) (fun h16 => ?_) (fun h16 => ?_)
                · simp only [Bool.false_eq_true, if_true, if_false, Decidable.not_not] at h16
                  refine id (op_q (q_move rfl (by decide)) ?_)
                  refine list_guard_y rfl rfl rfl rfl (by decide) rfl ?_
                  refine id (op_q (q_move rfl (by decide)) ?_)
                  refine list_guard_y rfl rfl rfl rfl (by decide) rfl ?_
                  refine id (op_q (q_bne Tryz.underlying4 rfl rfl (by decide)) ?_)
                  refine list_cons rfl (op_q (q_pick rfl rfl (by decide)) ?_)
                  refine list_cons rfl (op_q (q_move rfl (by decide)) ?_)
                  refine list_guard_d rfl rfl rfl rfl (by decide) rfl (by decide) (fun h17 => ?_) (fun h17 => ?_)
                  · simp only [Bool.false_eq_true, if_true, if_false, Decidable.not_not] at h17
                    refine id (op_q (q_move rfl (by decide)) ?_)
                    refine list_guard_y rfl rfl rfl rfl (by decide) rfl ?_
                    refine id (op_q (q_move rfl (by decide)) ?_)
                    refine list_guard_y rfl rfl rfl rfl (by decide) rfl ?_
                    refine id (op_call _ (impl_IsWord _ (by omega)) rfl rfl (by decide) (by decide) (by decide) rfl ?_)
                    rintro _ rfl
                    refine list_guard_y rfl rfl rfl rfl (by decide) rfl ?_
                    refine id (op_q (q_bne Tryz.underlying4 rfl rfl (by decide)) ?_)
                    refine list_cons rfl (op_q (q_pick rfl rfl (by decide)) ?_)
                    refine list_nil ?_
                    refine hK44 _ ?_; clear hK44 K44
                    refine codeT.imp (σ' := ((0, .ext _) :: (2, .val (.bool _)) :: (3, .val (.str _)) :: (4, .own 67 3 1 _ _) :: (5, .val (.bool _)) :: (6, .own 72 3 1 _ _) :: (7, .val (.bool _)) :: (8, .own 85 3 1 _ _) :: (9, .val (.str _)) :: (10, .val (.bool _)) :: (11, .val (.str _)) :: (12, .val (.bool _)) :: (13, .val (.int .i64 _)) :: (14, .val (.str _)) :: (15, .val (.bool _)) :: (16, .val (.str _)) :: (17, .val (.bool _)) :: (18, .val (.str _)) :: (19, .val (.int .i64 _)) :: (20, .val (.bool _)) :: (21, .val (.int .i64 _)) :: (22, .val (.bool _)) :: (23, .val (.str _)) :: (24, .val (.str _)) :: (25, .val (.bool _)) :: (26, .val (.str _)) :: (27, .val (.bool _)) :: (28, .val (.str _)) :: (29, .val (.int .i64 _)) :: (30, .val (.bool _)) :: (31, .val (.int .i64 _)) :: (32, .val (.bool _)) :: (33, .val (.int .i64 _)) :: (34, .val (.str _)) :: (35, .val (.bool _)) :: (36, .val (.str _)) :: (37, .val (.bool _)) :: (38, .val (.str _)) :: (39, .val (.int .i64 _)) :: (40, .val (.bool _)) :: (41, .val (.int .i64 _)) :: (42, .val (.bool _)) :: (229, .val (.bool _)) :: [])) ?_ (imp_covers ⟨rfl, rfl, rfl, rfl, rfl, rfl, rfl, rfl, rfl, rfl, rfl, rfl, rfl, rfl, rfl, rfl, rfl, rfl, rfl, rfl, rfl, rfl, rfl, rfl, rfl, rfl, rfl, rfl, rfl, rfl, rfl, rfl, rfl, rfl, rfl, rfl, rfl, rfl, rfl, rfl, rfl, rfl, rfl, trivial⟩)
                    refine code_cond_d rfl (fun h18 => ?_) (fun h18 => ?_)
                    · skip
                      (try simp only [Decidable.not_not] at h18)
                      exfalso
                      first | exact absurd rfl h18 | exact h18 trivial | (simp at h18; done)
                    (try simp only [Decidable.not_not] at h18)
                    refine code_skip ?_
                    refine hK42 _ ?_; clear hK42 K42
                    refine code_seq (fun K45 hK45 => ?_)
                    refine code_region ?_
                    refine list_cons rfl (op_q (q_move rfl (by decide)) ?_)
                    refine list_cons rfl (op_callM (DrawWordChanges_c _ ?_) (.tmp 0) 0 [] [.tmp 231] _ rfl rfl (by intro y hy; cases hy) (by decide) (by decide) (by decide) rfl (by intro h; cases h) ?_)
                    · first | assumption | omega | (simp; omega)
                    rintro _ _ ⟨aJ, bJ, haJ, hbJ, rfl⟩
                    refine list_cons rfl (op_q (q_move rfl (by decide)) ?_)
                    refine list_cons rfl (op_q (q_extract rfl rfl (by decide)) ?_)
                    refine list_cons rfl (op_q (q_extract rfl rfl (by decide)) ?_)
                    refine list_cons rfl (op_q (q_assign rfl (by decide)) ?_)
                    refine list_cons rfl (op_q (q_assign rfl (by decide)) ?_)
                    refine list_nil ?_
                    refine hK45 _ ?_; clear hK45 K45
                    refine codeT.imp (σ' := ((0, .ext _) :: (2, .val (.bool _)) :: (3, .val (.str _)) :: (4, .own 67 3 1 _ _) :: (5, .val (.bool _)) :: (6, .own 72 3 1 _ _) :: (7, .val (.bool _)) :: (8, .own 85 3 1 _ _) :: (9, .val (.str _)) :: (10, .val (.bool _)) :: (11, .val (.str _)) :: (12, .val (.bool _)) :: (13, .val (.int .i64 _)) :: (14, .val (.str _)) :: (15, .val (.bool _)) :: (16, .val (.str _)) :: (17, .val (.bool _)) :: (18, .val (.str _)) :: (19, .val (.int .i64 _)) :: (20, .val (.bool _)) :: (21, .val (.int .i64 _)) :: (22, .val (.bool _)) :: (23, .val (.str _)) :: (24, .val (.str _)) :: (25, .val (.bool _)) :: (26, .val (.str _)) :: (27, .val (.bool _)) :: (28, .val (.str _)) :: (29, .val (.int .i64 _)) :: (30, .val (.bool _)) :: (31, .val (.int .i64 _)) :: (32, .val (.bool _)) :: (33, .val (.int .i64 _)) :: (34, .val (.str _)) :: (35, .val (.bool _)) :: (36, .val (.str _)) :: (37, .val (.bool _)) :: (38, .val (.str _)) :: (39, .val (.int .i64 _)) :: (40, .val (.bool _)) :: (41, .val (.int .i64 _)) :: (42, .val (.bool _)) :: (43, .val (.str _)) :: (44, .val (.str _)) :: [])) ?_ (imp_covers ⟨rfl, rfl, rfl, rfl, rfl, rfl, rfl, rfl, rfl, rfl, rfl, rfl, rfl, rfl, rfl, rfl, rfl, rfl, rfl, rfl, rfl, rfl, rfl, rfl, rfl, rfl, rfl, rfl, rfl, rfl, rfl, rfl, rfl, rfl, rfl, rfl, rfl, rfl, rfl, rfl, rfl, rfl, rfl, rfl, trivial⟩)
                    refine code_seq (fun K46 hK46 => ?_)
                    refine code_region ?_
                    refine list_cons rfl (op_q (q_move rfl (by decide)) ?_)
                    refine list_cons rfl (op_q (q_move rfl (by decide)) ?_)
                    refine list_cons rfl (op_call _ (impl_WordChanges _ _ (by omega) (by omega)) rfl rfl (by decide) (by decide) (by decide) rfl ?_)
                    rintro _ rfl
                    refine list_cons rfl (op_q (q_move rfl (by decide)) ?_)
                    refine list_cons rfl (op_q (q_extract rfl rfl (by decide)) ?_)
                    refine list_cons rfl (op_q (q_extract rfl rfl (by decide)) ?_)
                    refine list_cons rfl (op_q (q_assign rfl (by decide)) ?_)
                    refine list_cons rfl (op_q (q_assign rfl (by decide)) ?_)
                    refine list_nil ?_
                    refine hK46 _ ?_; clear hK46 K46
                    refine codeT.imp (σ' := ((0, .ext _) :: (2, .val (.bool _)) :: (3, .val (.str _)) :: (4, .own 67 3 1 _ _) :: (5, .val (.bool _)) :: (6, .own 72 3 1 _ _) :: (7, .val (.bool _)) :: (8, .own 85 3 1 _ _) :: (9, .val (.str _)) :: (10, .val (.bool _)) :: (11, .val (.str _)) :: (12, .val (.bool _)) :: (13, .val (.int .i64 _)) :: (14, .val (.str _)) :: (15, .val (.bool _)) :: (16, .val (.str _)) :: (17, .val (.bool _)) :: (18, .val (.str _)) :: (19, .val (.int .i64 _)) :: (20, .val (.bool _)) :: (21, .val (.int .i64 _)) :: (22, .val (.bool _)) :: (23, .val (.str _)) :: (24, .val (.str _)) :: (25, .val (.bool _)) :: (26, .val (.str _)) :: (27, .val (.bool _)) :: (28, .val (.str _)) :: (29, .val (.int .i64 _)) :: (30, .val (.bool _)) :: (31, .val (.int .i64 _)) :: (32, .val (.bool _)) :: (33, .val (.int .i64 _)) :: (34, .val (.str _)) :: (35, .val (.bool _)) :: (36, .val (.str _)) :: (37, .val (.bool _)) :: (38, .val (.str _)) :: (39, .val (.int .i64 _)) :: (40, .val (.bool _)) :: (41, .val (.int .i64 _)) :: (42, .val (.bool _)) :: (43, .val (.str _)) :: (44, .val (.str _)) :: (45, .val (.int .i64 _)) :: (46, .val (.bool _)) :: [])) ?_ (imp_covers ⟨rfl, rfl, rfl, rfl, rfl, rfl, rfl, rfl, rfl, rfl, rfl, rfl, rfl, rfl, rfl, rfl, rfl, rfl, rfl, rfl, rfl, rfl, rfl, rfl, rfl, rfl, rfl, rfl, rfl, rfl, rfl, rfl, rfl, rfl, rfl, rfl, rfl, rfl, rfl, rfl, rfl, rfl, rfl, rfl, rfl, rfl, trivial⟩)
                    refine code_seq (fun K47 hK47 => ?_)
                    refine code_seq (fun K48 hK48 => ?_)
                    refine code_region ?_
                    refine list_cons rfl (op_q (q_move rfl (by decide)) ?_)
                    refine list_cons rfl (op_q (q_move rfl (by decide)) ?_)
                    refine list_cons rfl (op_call _ (spec_WordChanges _ _ (by omega) (by omega)) rfl rfl (by decide) (by decide) (by decide) rfl ?_)
                    rintro _ rfl
                    refine list_cons rfl (op_q (q_move rfl (by decide)) ?_)
                    refine list_cons rfl (op_q (q_extract rfl rfl (by decide)) ?_)
                    refine list_cons rfl (op_q (q_extract rfl rfl (by decide)) ?_)
                    refine list_cons rfl (op_q (q_assign rfl (by decide)) ?_)
                    refine list_cons rfl (op_q (q_assign rfl (by decide)) ?_)
                    refine list_nil ?_
                    refine hK48 _ ?_; clear hK48 K48
                    refine codeT.imp (σ' := ((0, .ext _) :: (2, .val (.bool _)) :: (3, .val (.str _)) :: (4, .own 67 3 1 _ _) :: (5, .val (.bool _)) :: (6, .own 72 3 1 _ _) :: (7, .val (.bool _)) :: (8, .own 85 3 1 _ _) :: (9, .val (.str _)) :: (10, .val (.bool _)) :: (11, .val (.str _)) :: (12, .val (.bool _)) :: (13, .val (.int .i64 _)) :: (14, .val (.str _)) :: (15, .val (.bool _)) :: (16, .val (.str _)) :: (17, .val (.bool _)) :: (18, .val (.str _)) :: (19, .val (.int .i64 _)) :: (20, .val (.bool _)) :: (21, .val (.int .i64 _)) :: (22, .val (.bool _)) :: (23, .val (.str _)) :: (24, .val (.str _)) :: (25, .val (.bool _)) :: (26, .val (.str _)) :: (27, .val (.bool _)) :: (28, .val (.str _)) :: (29, .val (.int .i64 _)) :: (30, .val (.bool _)) :: (31, .val (.int .i64 _)) :: (32, .val (.bool _)) :: (33, .val (.int .i64 _)) :: (34, .val (.str _)) :: (35, .val (.bool _)) :: (36, .val (.str _)) :: (37, .val (.bool _)) :: (38, .val (.str _)) :: (39, .val (.int .i64 _)) :: (40, .val (.bool _)) :: (41, .val (.int .i64 _)) :: (42, .val (.bool _)) :: (43, .val (.str _)) :: (44, .val (.str _)) :: (45, .val (.int .i64 _)) :: (46, .val (.bool _)) :: (47, .val (.int .i64 _)) :: (48, .val (.bool _)) :: [])) ?_ (imp_covers ⟨rfl, rfl, rfl, rfl, rfl, rfl, rfl, rfl, rfl, rfl, rfl, rfl, rfl, rfl, rfl, rfl, rfl, rfl, rfl, rfl, rfl, rfl, rfl, rfl, rfl, rfl, rfl, rfl, rfl, rfl, rfl, rfl, rfl, rfl, rfl, rfl, rfl, rfl, rfl, rfl, rfl, rfl, rfl, rfl, rfl, rfl, rfl, rfl, trivial⟩)
                    refine code_seq (fun K49 hK49 => ?_)
                    refine code_region ?_
                    refine list_cons rfl (op_q (q_move rfl (by decide)) ?_)
                    refine list_cons rfl (op_q (q_move rfl (by decide)) ?_)
                    refine list_cons rfl (op_q (q_ne rfl rfl (by decide)) ?_)
                    refine list_cons rfl (op_q (q_move rfl (by decide)) ?_)
                    refine list_guard_d rfl rfl rfl rfl (by decide) rfl (by decide) (fun h19 => ?_) (fun h19 => ?_)
                    · simp only [Bool.false_eq_true, if_true, if_false, Decidable.not_not] at h19
                      refine id (op_q (q_move rfl (by decide)) ?_)
                      refine list_guard_y rfl rfl rfl rfl (by decide) rfl ?_
                      refine id (op_q (q_move rfl (by decide)) ?_)
                      refine list_guard_y rfl rfl rfl rfl (by decide) rfl ?_
                      refine id (op_q (q_bne Tryz.underlying4 rfl rfl (by decide)) ?_)
                      refine list_cons rfl (op_q (q_pick rfl rfl (by decide)) ?_)
                      refine list_nil ?_
                      refine hK49 _ ?_; clear hK49 K49
                      refine codeT.imp (σ' := ((0, .ext _) :: (2, .val (.bool _)) :: (3, .val (.str _)) :: (4, .own 67 3 1 _ _) :: (5, .val (.bool _)) :: (6, .own 72 3 1 _ _) :: (7, .val (.bool _)) :: (8, .own 85 3 1 _ _) :: (9, .val (.str _)) :: (10, .val (.bool _)) :: (11, .val (.str _)) :: (12, .val (.bool _)) :: (13, .val (.int .i64 _)) :: (14, .val (.str _)) :: (15, .val (.bool _)) :: (16, .val (.str _)) :: (17, .val (.bool _)) :: (18, .val (.str _)) :: (19, .val (.int .i64 _)) :: (20, .val (.bool _)) :: (21, .val (.int .i64 _)) :: (22, .val (.bool _)) :: (23, .val (.str _)) :: (24, .val (.str _)) :: (25, .val (.bool _)) :: (26, .val (.str _)) :: (27, .val (.bool _)) :: (28, .val (.str _)) :: (29, .val (.int .i64 _)) :: (30, .val (.bool _)) :: (31, .val (.int .i64 _)) :: (32, .val (.bool _)) :: (33, .val (.int .i64 _)) :: (34, .val (.str _)) :: (35, .val (.bool _)) :: (36, .val (.str _)) :: (37, .val (.bool _)) :: (38, .val (.str _)) :: (39, .val (.int .i64 _)) :: (40, .val (.bool _)) :: (41, .val (.int .i64 _)) :: (42, .val (.bool _)) :: (43, .val (.str _)) :: (44, .val (.str _)) :: (45, .val (.int .i64 _)) :: (46, .val (.bool _)) :: (47, .val (.int .i64 _)) :: (48, .val (.bool _)) :: (254, .val (.bool _)) :: [])) ?_ (imp_covers ⟨rfl, rfl, rfl, rfl, rfl, rfl, rfl, rfl, rfl, rfl, rfl, rfl, rfl, rfl, rfl, rfl, rfl, rfl, rfl, rfl, rfl, rfl, rfl, rfl, rfl, rfl, rfl, rfl, rfl, rfl, rfl, rfl, rfl, rfl, rfl, rfl, rfl, rfl, rfl, rfl, rfl, rfl, rfl, rfl, rfl, rfl, rfl, rfl, rfl, trivial⟩)
                      refine code_cond_d rfl (fun h20 => ?_) (fun h20 => ?_)
                      · skip
                        (try simp only [Decidable.not_not] at h20)
                        exfalso
                        first | exact absurd rfl h20 | exact h20 trivial | (simp at h20; done)
                      (try simp only [Decidable.not_not] at h20)
                      refine code_skip ?_
                      refine hK47 _ ?_; clear hK47 K47
                      refine codeT.imp (σ' := [(2, .val (.bool _)), (3, .val (.str _)), (4, .own 67 3 1 _ _), (5, .val (.bool _)), (13, .val (.int .i64 _)), (14, .val (.str _)), (15, .val (.bool _)), (18, .val (.str _)), (19, .val (.int .i64 _)), (20, .val (.bool _)), (23, .val (.str _)), (24, .val (.str _)), (25, .val (.bool _)), (28, .val (.str _)), (29, .val (.int .i64 _)), (30, .val (.bool _)), (43, .val (.str _)), (44, .val (.str _)), (45, .val (.int .i64 _)), (46, .val (.bool _))]) ?_ (imp_covers ⟨rfl, rfl, rfl, rfl, rfl, rfl, rfl, rfl, rfl, rfl, rfl, rfl, rfl, rfl, rfl, rfl, rfl, rfl, rfl, rfl, trivial⟩)
                      refine code_seq_same ?_ ?_
                      · skip
                        refine code_seq (fun K50 hK50 => ?_)
                        refine code_region ?_
                        refine list_cons rfl (op_q (q_move rfl (by decide)) ?_)
                        refine list_nil ?_
                        refine hK50 _ ?_; clear hK50 K50
                        refine code_cond_d rfl (fun h21 => ?_) (fun h21 => ?_)
                        · skip
                          (try simp only [Decidable.not_not] at h21)
                          refine code_seq (fun K51 hK51 => ?_)
                          refine code_region ?_
                          refine list_cons rfl (op_q (q_move rfl (by decide)) ?_)
                          refine list_cons rfl (op_call _ (impl_NumberOfWord (WnT nG) (by have := WnT_len nG; omega)) rfl rfl (by decide) (by decide) (by decide) rfl ?_)
                          rintro _ rfl
                          refine list_cons rfl (op_q (q_move rfl (by decide)) ?_)
                          refine list_cons rfl (op_q (q_extract rfl rfl (by decide)) ?_)
                          refine list_cons rfl (op_q (q_extract rfl rfl (by decide)) ?_)
                          refine list_cons rfl (op_q (q_assign rfl (by decide)) ?_)
                          refine list_cons rfl (op_q (q_assign rfl (by decide)) ?_)
                          refine list_nil ?_
                          refine hK51 _ ?_; clear hK51 K51
                          refine codeT.imp (σ' := [(2, .val (.bool _)), (3, .val (.str _)), (4, .own 67 3 1 _ _), (5, .val (.bool _)), (13, .val (.int .i64 _)), (14, .val (.str _)), (15, .val (.bool _)), (18, .val (.str _)), (19, .val (.int .i64 _)), (20, .val (.bool _)), (23, .val (.str _)), (24, .val (.str _)), (25, .val (.bool _)), (28, .val (.str _)), (29, .val (.int .i64 _)), (30, .val (.bool _)), (43, .val (.str _)), (44, .val (.str _)), (45, .val (.int .i64 _)), (46, .val (.bool _)), (49, .val (.int .i64 _)), (50, .val (.bool _))]) ?_ (imp_covers ⟨rfl, rfl, rfl, rfl, rfl, rfl, rfl, rfl, rfl, rfl, rfl, rfl, rfl, rfl, rfl, rfl, rfl, rfl, rfl, rfl, rfl, rfl, trivial⟩)
                          refine code_seq (fun K52 hK52 => ?_)
                          refine code_region ?_
                          refine list_cons rfl (op_q (q_move rfl (by decide)) ?_)
                          refine list_cons rfl (op_q (by first | exact q_notd rfl (by decide) | exact q_not rfl (by decide)) ?_)
                          refine list_cons rfl (op_q (q_move rfl (by decide)) ?_)
                          refine list_guard_d rfl rfl rfl rfl (by decide) rfl (by decide) (fun h22 => ?_) (fun h22 => ?_)
                          · simp only [Bool.false_eq_true, if_true, if_false, Decidable.not_not] at h22
                            refine id (op_q (q_move rfl (by decide)) ?_)
                            refine list_guard_y rfl rfl rfl rfl (by decide) rfl ?_
                            refine id (op_q (q_move rfl (by decide)) ?_)
                            refine list_guard_y rfl rfl rfl rfl (by decide) rfl ?_
                            refine id (op_q (q_ne rfl rfl (by decide)) ?_)
                            refine list_cons rfl (op_q (q_pick rfl rfl (by decide)) ?_)
                            refine list_nil ?_
                            refine hK52 _ ?_; clear hK52 K52
                            refine code_cond_d rfl (fun h23 => ?_) (fun h23 => ?_)
                            · skip
                              (try simp only [Decidable.not_not] at h23)
                              exfalso
                              exact h23 (fw2 (show ((0 ≤ nG ∧ nG ≤ 999999) ∧ SpP (turnL (rowN nG.toNat))) by assumption))
                            (try simp only [Decidable.not_not] at h23)
                            refine code_skip ?_
                            exact then_n (imp_covers ⟨rfl, rfl, rfl, rfl, rfl, rfl, rfl, rfl, rfl, rfl, rfl, rfl, rfl, rfl, rfl, rfl, rfl, rfl, rfl, rfl, trivial⟩)
                          simp only [Bool.false_eq_true, if_true, if_false, Decidable.not_not] at h22
                          exfalso
                          exact h22 (fw1 (show ((0 ≤ nG ∧ nG ≤ 999999) ∧ SpP (turnL (rowN nG.toNat))) by assumption))
                        (try simp only [Decidable.not_not] at h21)
                        refine code_skip ?_
                        exact then_n (imp_covers ⟨rfl, rfl, rfl, rfl, rfl, rfl, rfl, rfl, rfl, rfl, rfl, rfl, rfl, rfl, rfl, rfl, rfl, rfl, rfl, rfl, trivial⟩)
                      refine codeT.imp (σ' := [(2, .val (.bool _)), (3, .val (.str _)), (4, .own 67 3 1 _ _), (5, .val (.bool _)), (18, .val (.str _)), (19, .val (.int .i64 _)), (20, .val (.bool _)), (23, .val (.str _)), (24, .val (.str _)), (25, .val (.bool _)), (28, .val (.str _)), (29, .val (.int .i64 _)), (30, .val (.bool _)), (43, .val (.str _)), (44, .val (.str _)), (45, .val (.int .i64 _)), (46, .val (.bool _))]) ?_ (imp_covers ⟨rfl, rfl, rfl, rfl, rfl, rfl, rfl, rfl, rfl, rfl, rfl, rfl, rfl, rfl, rfl, rfl, rfl, trivial⟩)
                      refine code_seq_same ?_ ?_
                      · skip
                        refine code_seq (fun K53 hK53 => ?_)
                        refine code_region ?_
                        refine list_cons rfl (op_q (q_move rfl (by decide)) ?_)
                        refine list_nil ?_
                        refine hK53 _ ?_; clear hK53 K53
                        refine code_cond_d rfl (fun h24 => ?_) (fun h24 => ?_)
                        · skip
                          (try simp only [Decidable.not_not] at h24)
                          refine code_seq (fun K54 hK54 => ?_)
                          refine code_region ?_
                          refine list_cons rfl (op_q (q_move rfl (by decide)) ?_)
                          refine list_cons rfl (op_call _ (impl_WordOfNumber (NwV xH)) rfl rfl (by decide) (by decide) (by decide) rfl ?_)
                          rintro _ rfl
                          refine list_cons rfl (op_q (q_move rfl (by decide)) ?_)
                          refine list_cons rfl (op_q (q_extract rfl rfl (by decide)) ?_)
                          refine list_cons rfl (op_q (q_extract rfl rfl (by decide)) ?_)
                          refine list_cons rfl (op_q (q_assign rfl (by decide)) ?_)
                          refine list_cons rfl (op_q (q_assign rfl (by decide)) ?_)
                          refine list_nil ?_
                          refine hK54 _ ?_; clear hK54 K54
                          refine codeT.imp (σ' := [(2, .val (.bool _)), (3, .val (.str _)), (4, .own 67 3 1 _ _), (5, .val (.bool _)), (18, .val (.str _)), (19, .val (.int .i64 _)), (20, .val (.bool _)), (23, .val (.str _)), (24, .val (.str _)), (25, .val (.bool _)), (28, .val (.str _)), (29, .val (.int .i64 _)), (30, .val (.bool _)), (43, .val (.str _)), (44, .val (.str _)), (45, .val (.int .i64 _)), (46, .val (.bool _)), (51, .val (.str _)), (52, .val (.bool _))]) ?_ (imp_covers ⟨rfl, rfl, rfl, rfl, rfl, rfl, rfl, rfl, rfl, rfl, rfl, rfl, rfl, rfl, rfl, rfl, rfl, rfl, rfl, trivial⟩)
                          refine code_seq (fun K55 hK55 => ?_)
                          refine code_region ?_
                          refine list_cons rfl (op_q (q_move rfl (by decide)) ?_)
                          refine list_cons rfl (op_q (by first | exact q_notd rfl (by decide) | exact q_not rfl (by decide)) ?_)
                          refine list_cons rfl (op_q (q_move rfl (by decide)) ?_)
                          refine list_guard_d rfl rfl rfl rfl (by decide) rfl (by decide) (fun h25 => ?_) (fun h25 => ?_)
                          · simp only [Bool.false_eq_true, if_true, if_false, Decidable.not_not] at h25
                            refine id (op_q (q_move rfl (by decide)) ?_)
                            refine list_guard_y rfl rfl rfl rfl (by decide) rfl ?_
                            refine id (op_q (q_move rfl (by decide)) ?_)
                            refine list_guard_y rfl rfl rfl rfl (by decide) rfl ?_
                            refine id (op_q (q_sne rfl rfl (by decide)) ?_)
                            refine list_cons rfl (op_q (q_pick rfl rfl (by decide)) ?_)
                            refine list_nil ?_
                            refine hK55 _ ?_; clear hK55 K55
                            refine code_cond_d rfl (fun h26 => ?_) (fun h26 => ?_)
                            · skip
                              (try simp only [Decidable.not_not] at h26)
                              exfalso
                              exact h26 (fw4 (show NwP xH by assumption))
                            (try simp only [Decidable.not_not] at h26)
                            refine code_skip ?_
                            exact then_n (imp_covers ⟨rfl, rfl, rfl, rfl, rfl, rfl, rfl, rfl, rfl, rfl, rfl, rfl, rfl, rfl, rfl, rfl, rfl, trivial⟩)
                          simp only [Bool.false_eq_true, if_true, if_false, Decidable.not_not] at h25
                          exfalso
                          exact h25 (fw3 (show NwP xH by assumption))
                        (try simp only [Decidable.not_not] at h24)
                        refine code_skip ?_
                        exact then_n (imp_covers ⟨rfl, rfl, rfl, rfl, rfl, rfl, rfl, rfl, rfl, rfl, rfl, rfl, rfl, rfl, rfl, rfl, rfl, trivial⟩)
                      refine codeT.imp (σ' := [(2, .val (.bool _)), (3, .val (.str _)), (4, .own 67 3 1 _ _), (5, .val (.bool _)), (23, .val (.str _)), (24, .val (.str _)), (25, .val (.bool _)), (28, .val (.str _)), (29, .val (.int .i64 _)), (30, .val (.bool _)), (43, .val (.str _)), (44, .val (.str _)), (45, .val (.int .i64 _)), (46, .val (.bool _))]) ?_ (imp_covers ⟨rfl, rfl, rfl, rfl, rfl, rfl, rfl, rfl, rfl, rfl, rfl, rfl, rfl, rfl, trivial⟩)
                      refine code_seq_same ?_ ?_
                      · skip
                        refine code_seq (fun K56 hK56 => ?_)
                        refine code_region ?_
                        refine list_cons rfl (op_q (q_move rfl (by decide)) ?_)
                        refine list_nil ?_
                        refine hK56 _ ?_; clear hK56 K56
                        refine code_cond_d rfl (fun h27 => ?_) (fun h27 => ?_)
                        · skip
                          (try simp only [Decidable.not_not] at h27)
                          refine code_seq (fun K57 hK57 => ?_)
                          refine code_region ?_
                          refine list_cons rfl (op_q (q_move rfl (by decide)) ?_)
                          refine list_cons rfl (op_call _ (impl_MirroredWord (MwT yI) (by have := MwT_len yI; omega)) rfl rfl (by decide) (by decide) (by decide) rfl ?_)
                          rintro _ rfl
                          refine list_cons rfl (op_q (q_move rfl (by decide)) ?_)
                          refine list_cons rfl (op_q (q_extract rfl rfl (by decide)) ?_)
                          refine list_cons rfl (op_q (q_extract rfl rfl (by decide)) ?_)
                          refine list_cons rfl (op_q (q_assign rfl (by decide)) ?_)
                          refine list_cons rfl (op_q (q_assign rfl (by decide)) ?_)
                          refine list_nil ?_
                          refine hK57 _ ?_; clear hK57 K57
                          refine codeT.imp (σ' := [(2, .val (.bool _)), (3, .val (.str _)), (4, .own 67 3 1 _ _), (5, .val (.bool _)), (23, .val (.str _)), (24, .val (.str _)), (25, .val (.bool _)), (28, .val (.str _)), (29, .val (.int .i64 _)), (30, .val (.bool _)), (43, .val (.str _)), (44, .val (.str _)), (45, .val (.int .i64 _)), (46, .val (.bool _)), (53, .val (.str _)), (54, .val (.bool _))]) ?_ (imp_covers ⟨rfl, rfl, rfl, rfl, rfl, rfl, rfl, rfl, rfl, rfl, rfl, rfl, rfl, rfl, rfl, rfl, trivial⟩)
                          refine code_seq (fun K58 hK58 => ?_)
                          refine code_region ?_
                          refine list_cons rfl (op_q (q_move rfl (by decide)) ?_)
                          refine list_cons rfl (op_q (by first | exact q_notd rfl (by decide) | exact q_not rfl (by decide)) ?_)
                          refine list_cons rfl (op_q (q_move rfl (by decide)) ?_)
                          refine list_guard_d rfl rfl rfl rfl (by decide) rfl (by decide) (fun h28 => ?_) (fun h28 => ?_)
                          · simp only [Bool.false_eq_true, if_true, if_false, Decidable.not_not] at h28
                            refine id (op_q (q_move rfl (by decide)) ?_)
                            refine list_guard_y rfl rfl rfl rfl (by decide) rfl ?_
                            refine id (op_q (q_move rfl (by decide)) ?_)
                            refine list_guard_y rfl rfl rfl rfl (by decide) rfl ?_
                            refine id (op_q (q_sne rfl rfl (by decide)) ?_)
                            refine list_cons rfl (op_q (q_pick rfl rfl (by decide)) ?_)
                            refine list_nil ?_
                            refine hK58 _ ?_; clear hK58 K58
                            refine code_cond_d rfl (fun h29 => ?_) (fun h29 => ?_)
                            · skip
                              (try simp only [Decidable.not_not] at h29)
                              exfalso
                              exact h29 (fw6 (show (WrdP yI 6 ∧ SpP (mirL (rowW yI))) by assumption))
                            (try simp only [Decidable.not_not] at h29)
                            refine code_skip ?_
                            exact then_n (imp_covers ⟨rfl, rfl, rfl, rfl, rfl, rfl, rfl, rfl, rfl, rfl, rfl, rfl, rfl, rfl, trivial⟩)
                          simp only [Bool.false_eq_true, if_true, if_false, Decidable.not_not] at h28
                          exfalso
                          exact h28 (fw5 (show (WrdP yI 6 ∧ SpP (mirL (rowW yI))) by assumption))
                        (try simp only [Decidable.not_not] at h27)
                        refine code_skip ?_
                        exact then_n (imp_covers ⟨rfl, rfl, rfl, rfl, rfl, rfl, rfl, rfl, rfl, rfl, rfl, rfl, rfl, rfl, trivial⟩)
                      refine codeT.imp (σ' := [(2, .val (.bool _)), (3, .val (.str _)), (4, .own 67 3 1 _ _), (5, .val (.bool _)), (28, .val (.str _)), (29, .val (.int .i64 _)), (30, .val (.bool _)), (43, .val (.str _)), (44, .val (.str _)), (45, .val (.int .i64 _)), (46, .val (.bool _))]) ?_ (imp_covers ⟨rfl, rfl, rfl, rfl, rfl, rfl, rfl, rfl, rfl, rfl, rfl, trivial⟩)
                      refine code_seq_same ?_ ?_
                      · skip
                        refine code_seq (fun K59 hK59 => ?_)
                        refine code_region ?_
                        refine list_cons rfl (op_q (q_move rfl (by decide)) ?_)
                        refine list_nil ?_
                        refine hK59 _ ?_; clear hK59 K59
                        refine code_cond_d rfl (fun h30 => ?_) (fun h30 => ?_)
                        · skip
                          (try simp only [Decidable.not_not] at h30)
                          refine code_seq (fun K60 hK60 => ?_)
                          refine code_region ?_
                          refine list_cons rfl (op_q (q_move rfl (by decide)) ?_)
                          refine list_cons rfl (op_call _ (impl_LetterOf (LcV sD)) rfl rfl (by decide) (by decide) (by decide) rfl ?_)
                          rintro _ rfl
                          refine list_cons rfl (op_q (q_move rfl (by decide)) ?_)
                          refine list_cons rfl (op_q (q_extract rfl rfl (by decide)) ?_)
                          refine list_cons rfl (op_q (q_extract rfl rfl (by decide)) ?_)
                          refine list_cons rfl (op_q (q_assign rfl (by decide)) ?_)
                          refine list_cons rfl (op_q (q_assign rfl (by decide)) ?_)
                          refine list_nil ?_
                          refine hK60 _ ?_; clear hK60 K60
                          refine codeT.imp (σ' := [(2, .val (.bool _)), (3, .val (.str _)), (4, .own 67 3 1 _ _), (5, .val (.bool _)), (28, .val (.str _)), (29, .val (.int .i64 _)), (30, .val (.bool _)), (43, .val (.str _)), (44, .val (.str _)), (45, .val (.int .i64 _)), (46, .val (.bool _)), (55, .val (.str _)), (56, .val (.bool _))]) ?_ (imp_covers ⟨rfl, rfl, rfl, rfl, rfl, rfl, rfl, rfl, rfl, rfl, rfl, rfl, rfl, trivial⟩)
                          refine code_seq (fun K61 hK61 => ?_)
                          refine code_region ?_
                          refine list_cons rfl (op_q (q_move rfl (by decide)) ?_)
                          refine list_cons rfl (op_q (by first | exact q_notd rfl (by decide) | exact q_not rfl (by decide)) ?_)
                          refine list_cons rfl (op_q (q_move rfl (by decide)) ?_)
                          refine list_guard_d rfl rfl rfl rfl (by decide) rfl (by decide) (fun h31 => ?_) (fun h31 => ?_)
                          · simp only [Bool.false_eq_true, if_true, if_false, Decidable.not_not] at h31
                            refine id (op_q (q_move rfl (by decide)) ?_)
                            refine list_guard_y rfl rfl rfl rfl (by decide) rfl ?_
                            refine id (op_q (q_move rfl (by decide)) ?_)
                            refine list_guard_y rfl rfl rfl rfl (by decide) rfl ?_
                            refine id (op_q (q_sne rfl rfl (by decide)) ?_)
                            refine list_cons rfl (op_q (q_pick rfl rfl (by decide)) ?_)
                            refine list_nil ?_
                            refine hK61 _ ?_; clear hK61 K61
                            refine code_cond_d rfl (fun h32 => ?_) (fun h32 => ?_)
                            · skip
                              (try simp only [Decidable.not_not] at h32)
                              exfalso
                              exact h32 (fw8 (show (sD.length = 1 ∧ LtP sD) by assumption))
                            (try simp only [Decidable.not_not] at h32)
                            refine code_skip ?_
                            exact then_n (imp_covers ⟨rfl, rfl, rfl, rfl, rfl, rfl, rfl, rfl, rfl, rfl, rfl, trivial⟩)
                          simp only [Bool.false_eq_true, if_true, if_false, Decidable.not_not] at h31
                          exfalso
                          exact h31 (fw7 (show (sD.length = 1 ∧ LtP sD) by assumption))
                        (try simp only [Decidable.not_not] at h30)
                        refine code_skip ?_
                        exact then_n (imp_covers ⟨rfl, rfl, rfl, rfl, rfl, rfl, rfl, rfl, rfl, rfl, rfl, trivial⟩)
                      refine codeT.imp (σ' := [(2, .val (.bool _)), (3, .val (.str _)), (4, .own 67 3 1 _ _), (5, .val (.bool _)), (43, .val (.str _)), (44, .val (.str _)), (45, .val (.int .i64 _)), (46, .val (.bool _))]) ?_ (imp_covers ⟨rfl, rfl, rfl, rfl, rfl, rfl, rfl, rfl, trivial⟩)
                      refine code_seq_same ?_ ?_
                      · skip
                        refine code_seq (fun K62 hK62 => ?_)
                        refine code_region ?_
                        refine list_cons rfl (op_q (q_move rfl (by decide)) ?_)
                        refine list_nil ?_
                        refine hK62 _ ?_; clear hK62 K62
                        refine code_cond_d rfl (fun h33 => ?_) (fun h33 => ?_)
                        · skip
                          (try simp only [Decidable.not_not] at h33)
                          refine code_seq (fun K63 hK63 => ?_)
                          refine code_region ?_
                          refine list_cons rfl (op_q (q_move rfl (by decide)) ?_)
                          refine list_cons rfl (op_q (q_move rfl (by decide)) ?_)
                          refine list_cons rfl (op_call _ (impl_WordChanges _ _ (by omega) (by omega)) rfl rfl (by decide) (by decide) (by decide) rfl ?_)
                          rintro _ rfl
                          refine list_cons rfl (op_q (q_move rfl (by decide)) ?_)
                          refine list_cons rfl (op_q (q_extract rfl rfl (by decide)) ?_)
                          refine list_cons rfl (op_q (q_extract rfl rfl (by decide)) ?_)
                          refine list_cons rfl (op_q (q_assign rfl (by decide)) ?_)
                          refine list_cons rfl (op_q (q_assign rfl (by decide)) ?_)
                          refine list_nil ?_
                          refine hK63 _ ?_; clear hK63 K63
                          refine codeT.imp (σ' := [(2, .val (.bool _)), (3, .val (.str _)), (4, .own 67 3 1 _ _), (5, .val (.bool _)), (43, .val (.str _)), (44, .val (.str _)), (45, .val (.int .i64 _)), (46, .val (.bool _)), (57, .val (.int .i64 _)), (58, .val (.bool _))]) ?_ (imp_covers ⟨rfl, rfl, rfl, rfl, rfl, rfl, rfl, rfl, rfl, rfl, trivial⟩)
                          refine code_seq (fun K64 hK64 => ?_)
                          refine code_region ?_
                          refine list_cons rfl (op_q (q_move rfl (by decide)) ?_)
                          refine list_cons rfl (op_q (by first | exact q_notd rfl (by decide) | exact q_not rfl (by decide)) ?_)
                          refine list_cons rfl (op_q (q_move rfl (by decide)) ?_)
                          refine list_guard_d rfl rfl rfl rfl (by decide) rfl (by decide) (fun h34 => ?_) (fun h34 => ?_)
                          · simp only [Bool.false_eq_true, if_true, if_false, Decidable.not_not] at h34
                            refine id (op_q (q_move rfl (by decide)) ?_)
                            refine list_guard_y rfl rfl rfl rfl (by decide) rfl ?_
                            refine id (op_q (q_move rfl (by decide)) ?_)
                            refine list_guard_y rfl rfl rfl rfl (by decide) rfl ?_
                            refine id (op_q (q_ne rfl rfl (by decide)) ?_)
                            refine list_cons rfl (op_q (q_pick rfl rfl (by decide)) ?_)
                            refine list_cons rfl (op_q (q_move rfl (by decide)) ?_)
                            refine list_guard_d rfl rfl rfl rfl (by decide) rfl (by decide) (fun h35 => ?_) (fun h35 => ?_)
                            · simp only [Bool.false_eq_true, if_true, if_false, Decidable.not_not] at h35
                              refine id (op_q (q_move rfl (by decide)) ?_)
                              refine list_guard_y rfl rfl rfl rfl (by decide) rfl ?_
                              refine id (op_q (q_eq rfl rfl (by decide)) ?_)
                              refine list_guard_y rfl rfl rfl rfl (by decide) rfl ?_
                              refine id (op_q (q_move rfl (by decide)) ?_)
                              refine list_guard_y rfl rfl rfl rfl (by decide) rfl ?_
                              refine id (op_q (q_move rfl (by decide)) ?_)
                              refine list_guard_y rfl rfl rfl rfl (by decide) rfl ?_
                              refine id (op_q (q_seq rfl rfl (by decide)) ?_)
                              refine list_guard_y rfl rfl rfl rfl (by decide) rfl ?_
                              refine id (op_q (q_bne Tryz.underlying4 rfl rfl (by decide)) ?_)
                              refine list_cons rfl (op_q (q_pick rfl rfl (by decide)) ?_)
                              refine list_nil ?_
                              refine hK64 _ ?_; clear hK64 K64
                              refine codeT.imp (σ' := [(2, .val (.bool _)), (3, .val (.str _)), (4, .own 67 3 1 _ _), (5, .val (.bool _)), (43, .val (.str _)), (44, .val (.str _)), (45, .val (.int .i64 _)), (46, .val (.bool _)), (57, .val (.int .i64 _)), (58, .val (.bool _)), (328, .val (.bool _))]) ?_ (imp_covers ⟨rfl, rfl, rfl, rfl, rfl, rfl, rfl, rfl, rfl, rfl, rfl, trivial⟩)
                              refine code_cond_d rfl (fun h36 => ?_) (fun h36 => ?_)
                              · skip
                                (try simp only [Decidable.not_not] at h36)
                                exfalso
                                exact h36 (fw11 (show (WrdP aJ 6 ∧ WrdP bJ 6) by assumption))
                              (try simp only [Decidable.not_not] at h36)
                              refine code_skip ?_
                              exact then_n (imp_covers ⟨rfl, rfl, rfl, rfl, rfl, rfl, rfl, rfl, trivial⟩)
                            simp only [Bool.false_eq_true, if_true, if_false, Decidable.not_not] at h35
                            exfalso
                            exact h35 (fw10 aJ bJ)
                          simp only [Bool.false_eq_true, if_true, if_false, Decidable.not_not] at h34
                          exfalso
                          exact h34 (fw9 (show (WrdP aJ 6 ∧ WrdP bJ 6) by assumption))
                        (try simp only [Decidable.not_not] at h33)
                        refine code_skip ?_
                        exact then_n (imp_covers ⟨rfl, rfl, rfl, rfl, rfl, rfl, rfl, rfl, trivial⟩)
                      refine code_seq (fun K65 hK65 => ?_)
                      refine code_seq (fun K66 hK66 => ?_)
                      refine code_region ?_
                      refine list_cons rfl (op_q (q_move rfl (by decide)) ?_)
                      refine list_cons rfl (op_q (by first | exact q_notd rfl (by decide) | exact q_not rfl (by decide)) ?_)
                      refine list_nil ?_
                      refine hK66 _ ?_; clear hK66 K66
                      refine code_cond_d rfl (fun h37 => ?_) (fun h37 => ?_)
                      · skip
                        (try simp only [Decidable.not_not] at h37)
                        refine code_seq (fun K67 hK67 => ?_)
                        refine code_region ?_
                        refine list_cons rfl (op_q (q_assign rfl (by decide)) ?_)
                        refine list_nil ?_
                        refine hK67 _ ?_; clear hK67 K67
                        refine code_ret ?_
                        refine then_r ?_; clear hK65 K65
                        refine ends_ret (cs := []) rfl rfl rfl rfl trivial ?_
                        first | rfl | rw [decide_eq_true (fw13 (show WrdP sB 6 by assumption))]
                      (try simp only [Decidable.not_not] at h37)
                      refine code_skip ?_
                      refine hK65 _ ?_; clear hK65 K65
                      refine code_seq (fun K68 hK68 => ?_)
                      refine code_region ?_
                      refine list_cons rfl (op_q (q_move rfl (by decide)) ?_)
                      refine list_cons rfl (op_call _ (impl_WordOfRow (RwL sB) (by have := RwL_len sB; omega)) rfl rfl (by decide) (by decide) (by decide) rfl ?_)
                      rintro _ rfl
                      refine list_cons rfl (op_q (q_move rfl (by decide)) ?_)
                      refine list_cons rfl (op_q (q_extract rfl rfl (by decide)) ?_)
                      refine list_cons rfl (op_q (q_extract rfl rfl (by decide)) ?_)
                      refine list_cons rfl (op_q (q_assign rfl (by decide)) ?_)
                      refine list_cons rfl (op_q (q_assign rfl (by decide)) ?_)
                      refine list_nil ?_
                      refine hK68 _ ?_; clear hK68 K68
                      refine codeT.imp (σ' := [(2, .val (.bool _)), (3, .val (.str _)), (4, .own 67 3 1 _ _), (5, .val (.bool _)), (43, .val (.str _)), (44, .val (.str _)), (45, .val (.int .i64 _)), (46, .val (.bool _)), (59, .val (.str _)), (60, .val (.bool _))]) ?_ (imp_covers ⟨rfl, rfl, rfl, rfl, rfl, rfl, rfl, rfl, rfl, rfl, trivial⟩)
                      refine code_seq (fun K69 hK69 => ?_)
                      refine code_region ?_
                      refine list_cons rfl (op_q (q_move rfl (by decide)) ?_)
                      refine list_cons rfl (op_q (q_move rfl (by decide)) ?_)
                      refine list_guard_d rfl rfl rfl rfl (by decide) rfl (by decide) (fun h38 => ?_) (fun h38 => ?_)
                      · simp only [Bool.false_eq_true, if_true, if_false, Decidable.not_not] at h38
                        refine id (op_q (q_move rfl (by decide)) ?_)
                        refine list_guard_y rfl rfl rfl rfl (by decide) rfl ?_
                        refine id (op_q (q_move rfl (by decide)) ?_)
                        refine list_guard_y rfl rfl rfl rfl (by decide) rfl ?_
                        refine id (op_q (q_seq rfl rfl (by decide)) ?_)
                        refine list_cons rfl (op_q (q_pick rfl rfl (by decide)) ?_)
                        refine list_cons rfl (op_q (q_assign rfl (by decide)) ?_)
                        refine list_nil ?_
                        refine hK69 _ ?_; clear hK69 K69
                        refine code_ret ?_
                        refine ends_ret (cs := []) rfl rfl rfl rfl trivial ?_
                        first | rfl | rw [decide_eq_true (fw13 (show WrdP sB 6 by assumption))]
                      simp only [Bool.false_eq_true, if_true, if_false, Decidable.not_not] at h38
                      exfalso
                      exact h38 (fw12 (show WrdP sB 6 by assumption))
                    simp only [Bool.false_eq_true, if_true, if_false, Decidable.not_not] at h19
                    exfalso
                    first | exact absurd rfl h19 | exact h19 trivial | (simp at h19; done)
                  simp only [Bool.false_eq_true, if_true, if_false, Decidable.not_not] at h17
                  exfalso
                  first | exact absurd rfl h17 | exact h17 trivial | (simp at h17; done)
                simp only [Bool.false_eq_true, if_true, if_false, Decidable.not_not] at h16
                exfalso
                first | exact absurd rfl h16 | exact h16 trivial | (simp at h16; done)
              simp only [Bool.false_eq_true, if_true, if_false, Decidable.not_not] at h14
              exfalso
              first | exact absurd rfl h14 | exact h14 trivial | (simp at h14; done)
            simp only [Bool.false_eq_true, if_true, if_false, Decidable.not_not] at h12
            exfalso
            first | exact absurd rfl h12 | exact h12 trivial | (simp at h12; done)
          simp only [Bool.false_eq_true, if_true, if_false, Decidable.not_not] at h10
          exfalso
          first | exact absurd rfl h10 | exact h10 trivial | (simp at h10; done)
        simp only [Bool.false_eq_true, if_true, if_false, Decidable.not_not] at h8
        exfalso
        first | exact absurd rfl h8 | exact h8 trivial | (simp at h8; done)
      simp only [Bool.false_eq_true, if_true, if_false, Decidable.not_not] at h6
      exfalso
      first | exact absurd rfl h6 | exact h6 trivial | (simp at h6; done)
    simp only [Bool.false_eq_true, if_true, if_false, Decidable.not_not] at h4
    exfalso
    first | exact absurd rfl h4 | exact h4 trivial | (simp at h4; done)
  simp only [Bool.false_eq_true, if_true, if_false, Decidable.not_not] at h2
  exfalso
  first | exact absurd rfl h2 | exact h2 trivial | (simp at h2; done)
end Go.Proofs.YtgpgjaebhfhjoabGreatDoor
