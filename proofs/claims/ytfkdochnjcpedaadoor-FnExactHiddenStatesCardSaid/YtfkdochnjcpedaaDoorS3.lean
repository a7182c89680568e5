/- Contracts of functions, walked over the pure layer; each says for which arguments. -/
import Derived.Test.YtfkdochnjcpedaaDoorS3Ty
import Derived.Test.YtfkdochnjcpedaaDoorTf
import Derived.Test.YtfkdochnjcpedaaDoorSp
namespace Go.Proofs.YtfkdochnjcpedaaDoor
open Go.RowKit S3Ty
set_option linter.unusedVariables false
set_option linter.unusedSimpArgs false

def FaultP (fx fy : Int) : Prop := (0 ≤ fx ∧ fx ≤ 127) ∧ (0 ≤ fy ∧ fy ≤ 127) ∧ fx.toNat &&& fy.toNat = 0
instance (fx fy : Int) : Decidable (FaultP fx fy) := by unfold FaultP; infer_instance
def shB (fx fy c : Nat) : Nat := (c - (c &&& fx)) ||| fy
def shF (fx fy c : Int) : Int := ((shB fx.toNat fy.toNat c.toNat : Nat) : Int)
theorem shF_cell {fx fy c : Int} (hy : 0 ≤ fy ∧ fy ≤ 127) (hc : 0 ≤ c ∧ c ≤ 127) : 0 ≤ shF fx fy c ∧ shF fx fy c ≤ 127 := by
  have h := @Nat.or_lt_two_pow (c.toNat - (c.toNat &&& fx.toNat)) fy.toNat 7 (by omega) (by omega)
  unfold shF shB
  omega
theorem FaultP.b {fx fy : Int} (h : FaultP fx fy) : 0 ≤ fx ∧ fx ≤ 127 ∧ 0 ≤ fy ∧ fy ≤ 127 := by
  have h1 := h.1
  have h2 := h.2.1
  omega
theorem or7b {fx fy : Int} (hx : 0 ≤ fx ∧ fx ≤ 127) (hy : 0 ≤ fy ∧ fy ≤ 127) : 0 ≤ ((fx.toNat ||| fy.toNat : Nat) : Int) ∧ ((fx.toNat ||| fy.toNat : Nat) : Int) ≤ 127 := by
  have h := @Nat.or_lt_two_pow fx.toNat fy.toNat 7 (by omega) (by omega)
  omega

/-- The digits below k that show a cell. -/
def digsK (fx fy c : Int) (k : Nat) : List Int := ((List.range k).filter fun (d : Nat) => shF fx fy (digT.getD d 0) = c).map fun (d : Nat) => (d : Int)
theorem digsK_succ (fx fy c : Int) (k : Nat) : digsK fx fy c (k + 1) = digsK fx fy c k ++ if shF fx fy (digT.getD k 0) = c then [(k : Int)] else [] := by
  unfold digsK
  rw [List.range_succ, List.filter_append, List.map_append]
  congr 1
  rw [List.filter_cons]
  by_cases h : shF fx fy (digT.getD k 0) = c
  · rw [if_pos (decide_eq_true h), if_pos h]; rfl
  · rw [if_neg (fun e => h (of_decide_eq_true e)), if_neg h]; rfl
theorem digsK_len (fx fy c : Int) (k : Nat) : (digsK fx fy c k).length ≤ k := by
  unfold digsK
  rw [List.length_map]
  exact Nat.le_trans (List.length_filter_le _ _) (by simp)
def digs (fx fy c : Int) : List Int := digsK fx fy c 10
theorem digs_len (fx fy c : Int) : (digs fx fy c).length ≤ 10 := digsK_len fx fy c 10

set_option maxRecDepth 4000 in
theorem spec_l3Shown (fx fy c : Int) (hx : 0 ≤ fx ∧ fx ≤ 127) (hy : 0 ≤ fy ∧ fy ≤ 127) (hc : 0 ≤ c ∧ c ≤ 127) : PCalls Tryd.prog 89 [.agg [.int .i64 fx, .int .i64 fy], .int .i64 c] (· = [.val (.int .i64 (shF fx fy c))]) := by
  refine pcalls_of_code (n := 14) az Tryd.func89 (by kernel_rfl) rfl rfl (Nat.le_of_ble_eq_true rfl) (by intro t u h; simp [Tryd.f89] at h) ?_
  have ha : c.toNat &&& fx.toNat ≤ c.toNat := Nat.and_le_left
  refine code_seq (fun K1 hK1 => ?_)
  refine code_region ?_
  refine list_cons rfl (op_box rfl (.inl ⟨rfl, rfl⟩) (by decide) (by decide) rfl ?_)
  refine list_cons rfl (op_q (q_assign rfl (by decide)) ?_)
  refine list_nil ?_
  refine hK1 _ ?_; clear hK1 K1
  refine code_seq (fun K2 hK2 => ?_)
  refine code_region ?_
  refine list_cons rfl (op_q (q_move rfl (by decide)) ?_)
  refine list_cons rfl (op_q (q_move rfl (by decide)) ?_)
  refine list_cons rfl (op_q (q_fieldAddr fi_91_0 rfl rfl (by decide)) ?_)
  refine list_cons rfl (op_q (q_load one_3 2 rfl rfl rfl (by first | rfl | exact get_map1 _ 0 _ (by first | omega | (simp; omega))) (by decide)) ?_)
  refine list_cons rfl (op_q (by first | exact q_andI rfl rfl (by decide) (by omega) (by omega) (by omega) (by omega) | exact q_ib rfl rfl rfl (by decide)) ?_)
  refine list_cons rfl (op_q (by first | exact q_subI rfl rfl (by decide) (by omega) (by omega) | exact q_ib rfl rfl rfl (by decide)) ?_)
  refine list_cons rfl (op_q (q_fieldAddr fi_91_1 rfl rfl (by decide)) ?_)
  refine list_cons rfl (op_q (q_load one_3 2 rfl rfl rfl (by first | rfl | exact get_map1 _ 0 _ (by first | omega | (simp; omega))) (by decide)) ?_)
  refine list_cons rfl (op_q (by first | exact q_orI rfl rfl (by decide) (by omega) (by omega) (by omega) (by omega) | exact q_ib rfl rfl rfl (by decide)) ?_)
  refine list_cons rfl (op_q (q_assign rfl (by decide)) ?_)
  refine list_nil ?_
  refine hK2 _ ?_; clear hK2 K2
  refine codeT.imp (σ' := [(0, _), (1, _), (2, _), (4, _)]) ?_ (imp_covers ⟨rfl, rfl, rfl, rfl, trivial⟩)
  refine code_ret ?_
  refine ends_ret (cs := []) rfl rfl rfl rfl trivial ?_
  unfold shF shB
  rw [show (c - ((c.toNat &&& fx.toNat : Nat) : Int)).toNat = c.toNat - (c.toNat &&& fx.toNat) by omega]

end Go.Proofs.YtfkdochnjcpedaaDoor
