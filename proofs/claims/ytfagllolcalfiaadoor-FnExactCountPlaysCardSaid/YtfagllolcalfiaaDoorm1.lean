/- Contracts of functions, walked over the pure layer; each says for which arguments. -/
import Derived.Test.YtfagllolcalfiaaDoorm1Ty
import Derived.Test.YtfagllolcalfiaaDoorTf
namespace Go.Proofs.YtfagllolcalfiaaDoor
open Go.RowKit m1Ty
set_option linter.unusedVariables false
set_option linter.unusedSimpArgs false

theorem list_eq_ofI {α : Type} (d : α) (a b : List α) (h : a.length = b.length) (k : ∀ j, j < a.length → a.getD j d = b.getD j d) : a = b := by
  apply List.ext_getElem h
  intro j h1 h2
  have := k j h1
  simpa [h1, h2] using this
theorem take_snocI {α : Type} (d : α) (l : List α) (k : Nat) (h : k < l.length) : l.take (k + 1) = l.take k ++ [l.getD k d] := by
  rw [List.take_succ_eq_append_getElem h]; simp [h]
theorem fill_mapI {α : Type} (f : α → PV) (d : α) (a : List α) {k : Nat} (h : k < a.length) : putAt ((a.take k ++ List.replicate (a.length - k) d).map f) (k * 1) [f (a.getD k d)] = (a.take (k + 1) ++ List.replicate (a.length - (k + 1)) d).map f := by
  rw [put_map1 f _ (by simp; omega), take_snocI d a k h, List.set_append_right _ _ (by simp; omega), show k - (a.take k).length = 0 by simp; omega, show a.length - k = a.length - (k + 1) + 1 by omega, List.replicate_succ, List.set_cons_zero]
  simp
theorem list_ne_ofI {α : Type} (d : α) {a b : List α} (j : Nat) (k : a.getD j d ≠ b.getD j d) : a ≠ b := fun h => k (by rw [h])
def markI (n : Nat) (k : Int) : List Int := (List.range n).map fun (j : Nat) => k + j
theorem markI_len (n : Nat) (k : Int) : (markI n k).length = n := by simp [markI]
theorem markI_get (n : Nat) (k : Int) {j : Nat} (h : j < n) : (markI n k).getD j 0 = k + j := by
  simp [markI, h]
theorem markI_fill (l : List Int) (k : Int) {j : Nat} (h : j < l.length) : putAt ((markI j k ++ l.drop j).map (.int .i64)) (j * 1) [PV.int .i64 (k + j)] = (markI (j + 1) k ++ l.drop (j + 1)).map (.int .i64) := by
  rw [put_map1 (PV.int .i64) _ (by simp [markI]; omega), List.set_append_right _ _ (by simp [markI]), show j - (markI j k).length = 0 by simp [markI], List.drop_eq_getElem_cons h, List.set_cons_zero]
  simp [markI, List.range_succ]

set_option maxRecDepth 4000 in
theorem eqIntS_c (a b : List Int) (ha : a.length ≤ 4611686018427387904) : PCalls Tryd.prog 34 [.sl a.length (a.map (.int .i64)), .sl b.length (b.map (.int .i64))] (· = [.val (.bool (decide (a = b)))]) := by
  refine pcalls_of_code (n := 26) az Tryd.func34 (by kernel_rfl) rfl rfl (Nat.le_of_ble_eq_true rfl) (by intro t u h; simp [Tryd.f34] at h) ?_
  refine code_seq (fun K1 hK1 => ?_)
  refine code_region ?_
  refine list_cons rfl (op_q (q_assign rfl (by decide)) ?_)
  refine list_nil ?_
  refine hK1 _ ?_; clear hK1 K1
  refine code_seq (fun K2 hK2 => ?_)
  refine code_seq (fun K3 hK3 => ?_)
  refine code_region ?_
  refine list_cons rfl (op_q (q_move rfl (by decide)) ?_)
  refine list_cons rfl (op_q (q_len_sl Tryd.underlying24 rfl rfl (by decide)) ?_)
  refine list_cons rfl (op_q (q_move rfl (by decide)) ?_)
  refine list_cons rfl (op_q (q_len_sl Tryd.underlying24 rfl rfl (by decide)) ?_)
  refine list_cons rfl (op_q (q_ne rfl rfl (by decide)) ?_)
  refine list_nil ?_
  refine hK3 _ ?_; clear hK3 K3
  refine code_cond_d rfl (fun h1 => ?_) (fun h1 => ?_)
  · skip
    (try simp only [Decidable.not_not] at h1)
    refine code_seq (fun K4 hK4 => ?_)
    refine code_region ?_
    refine list_cons rfl (op_q (q_assign rfl (by decide)) ?_)
    refine list_nil ?_
    refine hK4 _ ?_; clear hK4 K4
    refine code_ret ?_
    refine then_r ?_; clear hK2 K2
    refine ends_ret (cs := []) rfl rfl rfl rfl trivial ?_
    rw [decide_eq_false (fun e => h1 (by rw [e]))]
  (try simp only [Decidable.not_not] at h1)
  refine code_skip ?_
  refine hK2 _ ?_; clear hK2 K2
  refine code_seq (fun K5 hK5 => ?_)
  refine code_seq (fun K6 hK6 => ?_)
  refine code_region ?_
  refine list_cons rfl (op_q (q_assign rfl (by decide)) ?_)
  refine list_nil ?_
  refine hK6 _ ?_; clear hK6 K6
  refine code_block ?_
  refine code_loop (X := Bool × Int) (fun x => [(0, .par 0 (.sl a.length (a.map (.int .i64)))), (1, .par 1 (.sl b.length (b.map (.int .i64)))), (4, .val (.bool x.1)), (5, .val (.int .i64 x.2))]) (fun x => 0 ≤ x.2 ∧ x.2 ≤ a.length ∧ ∀ j, j < x.2.toNat → a.getD j 0 = b.getD j 0) (fun x => a.length - x.2.toNat) (_, _) (imp_covers ⟨rfl, rfl, rfl, rfl, trivial⟩) ?_ ?_
  · (try dsimp only)
    refine ⟨by omega, by omega, fun j hj => by simp at hj⟩
  · intro x hI
    obtain ⟨t4, i⟩ := x
    replace hI : 0 ≤ i ∧ i ≤ a.length ∧ ∀ j, j < i.toNat → a.getD j 0 = b.getD j 0 := hI
    show codeT _ _ _ [(0, .par 0 (.sl a.length (a.map (.int .i64)))), (1, .par 1 (.sl b.length (b.map (.int .i64)))), (4, .val (.bool t4)), (5, .val (.int .i64 i))] _
    obtain ⟨i1, i2, i3⟩ := hI
    refine code_seq (fun K7 hK7 => ?_)
    refine code_seq (fun K8 hK8 => ?_)
    refine code_region ?_
    refine list_cons rfl (op_q (q_move rfl (by decide)) ?_)
    refine list_cons rfl (op_q (q_move rfl (by decide)) ?_)
    refine list_cons rfl (op_q (q_len_sl Tryd.underlying24 rfl rfl (by decide)) ?_)
    refine list_cons rfl (op_q (q_lt rfl rfl (by decide)) ?_)
    refine list_nil ?_
    refine hK8 _ ?_; clear hK8 K8
    refine code_cond_d rfl (fun h2 => ?_) (fun h2 => ?_)
    · skip
      (try simp only [Decidable.not_not] at h2)
      refine code_skip ?_
      refine hK7 _ ?_; clear hK7 K7
      refine code_seq (fun K9 hK9 => ?_)
      refine code_block ?_
      refine code_seq (fun K10 hK10 => ?_)
      refine code_draw (by kernel_rfl) (by kernel_rfl) ?_
      refine draw_q rfl (q_move rfl (by decide)) ?_
      refine draw_q rfl (q_move rfl (by decide)) ?_
      refine draw_q rfl (q_indexAddr_rd sl_24 rfl (.inl ⟨_, rfl, rfl⟩) rfl (by omega) (by omega) (by decide)) ?_
      refine draw_q rfl (q_load_rd one_3 rfl (.inl ⟨_, (by first | rfl | exact congrArg (SV.rpar _) (drop_map1 _ 0 _ (by first | omega | (simp; omega)))), rfl⟩) (by decide)) ?_
      refine draw_q rfl (q_move rfl (by decide)) ?_
      refine draw_q rfl (q_move rfl (by decide)) ?_
      refine draw_q rfl (q_indexAddr_rd sl_24 rfl (.inl ⟨_, rfl, rfl⟩) rfl (by omega) (by omega) (by decide)) ?_
      refine draw_q rfl (q_load_rd one_3 rfl (.inl ⟨_, (by first | rfl | exact congrArg (SV.rpar _) (drop_map1 _ 0 _ (by first | omega | (simp; omega)))), rfl⟩) (by decide)) ?_
      refine draw_q rfl (q_ne rfl rfl (by decide)) ?_
      refine draw_nil ?_
      refine hK10 _ ?_; clear hK10 K10
      refine codeT.imp (σ' := [(0, _), (1, _), (4, _), (5, _), (25, _)]) ?_ (imp_covers ⟨rfl, rfl, rfl, rfl, rfl, trivial⟩)
      refine code_cond_d rfl (fun h3 => ?_) (fun h3 => ?_)
      · skip
        (try simp only [Decidable.not_not] at h3)
        refine code_seq (fun K11 hK11 => ?_)
        refine code_region ?_
        refine list_cons rfl (op_q (q_assign rfl (by decide)) ?_)
        refine list_nil ?_
        refine hK11 _ ?_; clear hK11 K11
        refine code_ret ?_
        refine blk_r ?_
        refine then_r ?_; clear hK9 K9
        refine then_r ?_
        refine blk_r ?_
        refine then_r ?_; clear hK5 K5
        refine ends_ret (cs := []) rfl rfl rfl rfl trivial ?_
        rw [decide_eq_false (list_ne_ofI 0 _ h3)]
      (try simp only [Decidable.not_not] at h3)
      refine code_skip ?_
      refine blk_n ?_
      refine hK9 _ ?_; clear hK9 K9
      refine code_region ?_
      refine list_cons rfl (op_q (q_move rfl (by decide)) ?_)
      refine list_cons rfl (op_q (by first | exact q_addI rfl rfl (by decide) (by omega) (by omega) | exact q_ib rfl rfl rfl (by decide)) ?_)
      refine list_cons rfl (op_q (q_assign rfl (by decide)) ?_)
      refine list_nil ?_
      refine then_n ⟨(_, _), imp_covers ⟨rfl, rfl, rfl, rfl, trivial⟩, ?_, ?_⟩
      · (try dsimp only)
        refine ⟨by omega, by omega, fun j hj => ?_⟩
        by_cases e : j = i.toNat
        · subst e; exact h3
        · exact i3 j (by omega)
      · (try dsimp only); omega
    (try simp only [Decidable.not_not] at h2)
    refine code_exit ?_
    refine then_x ?_; clear hK7 K7
    refine then_x ?_
    refine blk_hit ?_
    refine hK5 _ ?_; clear hK5 K5
    refine code_seq (fun K12 hK12 => ?_)
    refine code_region ?_
    refine list_cons rfl (op_q (q_assign rfl (by decide)) ?_)
    refine list_nil ?_
    refine hK12 _ ?_; clear hK12 K12
    refine code_ret ?_
    refine ends_ret (cs := []) rfl rfl rfl rfl trivial ?_
    rw [decide_eq_true (list_eq_ofI 0 a b (by omega) fun j hj => i3 j (by omega))]

set_option maxRecDepth 4000 in
theorem toIntS_c (a : List Int) (ha : a.length ≤ 1099511627776) : PCalls Tryd.prog 33 [.sl a.length (a.map (.int .i64))] (· = [.own 0 3 1 a.length (a.map (.int .i64))]) := by
  refine pcalls_of_code (n := 22) az Tryd.func33 (by kernel_rfl) rfl rfl (Nat.le_of_ble_eq_true rfl) (by intro t u h; simp [Tryd.f33] at h) ?_
  refine code_seq (fun K1 hK1 => ?_)
  refine code_region ?_
  refine list_cons rfl (op_q (q_assign rfl (by decide)) ?_)
  refine list_nil ?_
  refine hK1 _ ?_; clear hK1 K1
  refine code_seq (fun K2 hK2 => ?_)
  refine code_region ?_
  refine list_cons rfl (op_q (q_move rfl (by decide)) ?_)
  refine list_cons rfl (op_q (q_len_sl Tryd.underlying24 rfl rfl (by decide)) ?_)
  refine list_cons rfl (op_make sl_24 rfl rfl (by omega) (by decide) (by decide) rfl ?_)
  refine list_cons rfl (op_q (q_assign rfl (by decide)) ?_)
  refine list_nil ?_
  refine hK2 _ ?_; clear hK2 K2
  refine code_seq (fun K3 hK3 => ?_)
  refine code_seq (fun K4 hK4 => ?_)
  refine code_region ?_
  refine list_cons rfl (op_q (q_assign rfl (by decide)) ?_)
  refine list_nil ?_
  refine hK4 _ ?_; clear hK4 K4
  refine code_block ?_
  refine code_loop (X := PV × Nat × List PV × Int) (fun x => [(0, .par 0 (.sl a.length (a.map (.int .i64)))), (2, .val x.1), (3, .own 7 3 1 x.2.1 x.2.2.1), (4, .val (.int .i64 x.2.2.2))]) (fun x => 0 ≤ x.2.2.2 ∧ x.2.2.2 ≤ a.length ∧ x.2.1 = a.length ∧ x.2.2.1 = (a.take x.2.2.2.toNat ++ List.replicate (a.length - x.2.2.2.toNat) 0).map (.int .i64)) (fun x => a.length - x.2.2.2.toNat) (_, _, _, _) (imp_covers ⟨rfl, rfl, rfl, rfl, trivial⟩) ?_ ?_
  · (try dsimp only)
    refine ⟨by omega, by omega, rfl, ?_⟩
    exact zeros_map1 (PV.int .i64) 0 _
  · intro x hI
    obtain ⟨t2_p, out_n, out_c, i⟩ := x
    replace hI : 0 ≤ i ∧ i ≤ a.length ∧ out_n = a.length ∧ out_c = (a.take i.toNat ++ List.replicate (a.length - i.toNat) 0).map (.int .i64) := hI
    show codeT _ _ _ [(0, .par 0 (.sl a.length (a.map (.int .i64)))), (2, .val t2_p), (3, .own 7 3 1 out_n out_c), (4, .val (.int .i64 i))] _
    obtain ⟨i1, i2, rfl, rfl⟩ := hI
    refine code_seq (fun K5 hK5 => ?_)
    refine code_seq (fun K6 hK6 => ?_)
    refine code_region ?_
    refine list_cons rfl (op_q (q_move rfl (by decide)) ?_)
    refine list_cons rfl (op_q (q_move rfl (by decide)) ?_)
    refine list_cons rfl (op_q (q_len_sl Tryd.underlying24 rfl rfl (by decide)) ?_)
    refine list_cons rfl (op_q (q_lt rfl rfl (by decide)) ?_)
    refine list_nil ?_
    refine hK6 _ ?_; clear hK6 K6
    refine code_cond_d rfl (fun h1 => ?_) (fun h1 => ?_)
    · skip
      (try simp only [Decidable.not_not] at h1)
      refine code_skip ?_
      refine hK5 _ ?_; clear hK5 K5
      refine code_seq (fun K7 hK7 => ?_)
      refine code_block ?_
      refine code_region ?_
      refine list_cons rfl (op_q (q_move rfl (by decide)) ?_)
      refine list_cons rfl (op_q (q_move rfl (by decide)) ?_)
      refine list_cons rfl (op_q (q_move rfl (by decide)) ?_)
      refine list_cons rfl (op_q (q_move rfl (by decide)) ?_)
      refine list_cons rfl (op_q (q_indexAddr_rd sl_24 rfl (.inl ⟨_, rfl, rfl⟩) rfl (by omega) (by omega) (by decide)) ?_)
      refine list_cons rfl (op_q (q_load_rd one_3 rfl (.inl ⟨_, (by first | rfl | exact congrArg (SV.rpar _) (drop_map1 _ 0 _ (by first | omega | (simp; omega)))), rfl⟩) (by decide)) ?_)
      refine list_cons rfl (op_q (q_indexAddr_own sl_24 rfl rfl (by omega) (by omega) (by decide)) ?_)
      refine list_cons rfl (op_store (one_3).2 3 [3, 14] (by intro t ht; simp only [List.mem_cons, List.not_mem_nil, or_false] at ht; rcases ht with rfl | rfl <;> rfl) (.inl rfl) rfl rfl rfl rfl rfl rfl (by first | decide | omega | exact Nat.le_refl _ | (simp; done) | (simp; omega)) (by decide) rfl ?_)
      refine list_nil ?_
      refine blk_n ?_
      refine hK7 _ ?_; clear hK7 K7
      refine codeT.imp (σ' := [(0, _), (2, _), (3, _), (4, _)]) ?_ (imp_covers ⟨rfl, rfl, rfl, rfl, trivial⟩)
      refine code_region ?_
      refine list_cons rfl (op_q (q_move rfl (by decide)) ?_)
      refine list_cons rfl (op_q (by first | exact q_addI rfl rfl (by decide) (by omega) (by omega) | exact q_ib rfl rfl rfl (by decide)) ?_)
      refine list_cons rfl (op_q (q_assign rfl (by decide)) ?_)
      refine list_nil ?_
      refine then_n ⟨(_, _, _, _), imp_covers ⟨rfl, rfl, rfl, rfl, trivial⟩, ?_, ?_⟩
      · (try dsimp only)
        refine ⟨by omega, by omega, rfl, ?_⟩
        rw [show (i + 1).toNat = i.toNat + 1 by omega]
        exact fill_mapI (PV.int .i64) 0 a (by omega)
      · (try dsimp only); omega
    (try simp only [Decidable.not_not] at h1)
    refine code_exit ?_
    refine then_x ?_; clear hK5 K5
    refine then_x ?_
    refine blk_hit ?_
    refine hK3 _ ?_; clear hK3 K3
    refine code_seq (fun K8 hK8 => ?_)
    refine code_region ?_
    refine list_cons rfl (op_q (q_move rfl (by decide)) ?_)
    refine list_cons rfl (op_q (q_assign rfl (by decide)) ?_)
    refine list_nil ?_
    refine hK8 _ ?_; clear hK8 K8
    refine code_ret ?_
    refine ends_ret (cs := []) rfl rfl rfl rfl trivial ?_
    rw [show i.toNat = a.length by omega]; simp

def digT : List Int := [63, 6, 91, 79, 102, 109, 125, 7, 127, 111]
def digOf (c : Int) : Int := if c = 63 then 0 else if c = 6 then 1 else if c = 91 then 2 else if c = 79 then 3 else if c = 102 then 4 else if c = 109 then 5 else if c = 125 then 6 else if c = 7 then 7 else if c = 127 then 8 else if c = 111 then 9 else -1
theorem digOf_at {d : Int} {c : Int} (h0 : 0 ≤ d) (h1 : d ≤ 9) (h : digT.getD d.toNat 0 = c) : digOf c = d := by
  have : d = 0 ∨ d = 1 ∨ d = 2 ∨ d = 3 ∨ d = 4 ∨ d = 5 ∨ d = 6 ∨ d = 7 ∨ d = 8 ∨ d = 9 := by omega
  subst h
  rcases this with rfl | rfl | rfl | rfl | rfl | rfl | rfl | rfl | rfl | rfl <;> rfl
theorem digOf_none {c : Int} (h : ∀ j : Nat, j < 10 → digT.getD j 0 ≠ c) : digOf c = -1 := by
  have k0 := h 0 (by omega); have k1 := h 1 (by omega); have k2 := h 2 (by omega); have k3 := h 3 (by omega); have k4 := h 4 (by omega)
  have k5 := h 5 (by omega); have k6 := h 6 (by omega); have k7 := h 7 (by omega); have k8 := h 8 (by omega); have k9 := h 9 (by omega)
  simp [digT] at k0 k1 k2 k3 k4 k5 k6 k7 k8 k9
  unfold digOf
  repeat rw [if_neg (by omega)]
theorem digOf_le (c : Int) : -1 ≤ digOf c ∧ digOf c ≤ 9 := by
  unfold digOf
  repeat' split
  all_goals omega
def RowP (l : List Int) : Prop := l.length ≤ 6 ∧ ∀ x ∈ l, 0 ≤ x ∧ x ≤ 127
instance (l : List Int) : Decidable (RowP l) := by unfold RowP; infer_instance
theorem RowP.at {l : List Int} (h : RowP l) {j : Nat} (hj : j < l.length) : 0 ≤ l.getD j 0 ∧ l.getD j 0 ≤ 127 := by
  have : l.getD j 0 = l[j] := by simp [hj]
  rw [this]; exact h.2 _ (List.getElem_mem hj)
theorem RowP.of {l : List Int} (h0 : l.length ≤ 6) (h : ∀ j, j < l.length → 0 ≤ l.getD j 0 ∧ l.getD j 0 ≤ 127) : RowP l := ⟨h0, fun x hx => by
  obtain ⟨j, hj, rfl⟩ := List.getElem_of_mem hx
  have := h j hj
  simpa [hj] using this⟩
def cnt7 (n : Nat) : Nat := n % 2 + n / 2 % 2 + n / 4 % 2 + n / 8 % 2 + n / 16 % 2 + n / 32 % 2 + n / 64 % 2
def turn7 (n : Nat) : Nat := n / 8 % 2 + 2 * (n / 16 % 2) + 4 * (n / 32 % 2) + 8 * (n % 2) + 16 * (n / 2 % 2) + 32 * (n / 4 % 2) + 64 * (n / 64 % 2)
def mir7 (n : Nat) : Nat := n % 2 + 2 * (n / 32 % 2) + 4 * (n / 16 % 2) + 8 * (n / 8 % 2) + 16 * (n / 4 % 2) + 32 * (n / 2 % 2) + 64 * (n / 64 % 2)
def bars7 (n : Nat) : List UInt8 := ((List.range 7).filter (fun k => Nat.beq (n / 2 ^ k % 2) 1)).map fun k => UInt8.ofNat (97 + k)

set_option maxRecDepth 4000 in
theorem spec_l1In (x a b : Int) : PCalls Tryd.prog 101 [.int .i64 x, .int .i64 a, .int .i64 b] (· = [.val (.bool (decide (a ≤ x ∧ x ≤ b)))]) := by
  refine pcalls_of_code (n := 15) az Tryd.func101 (by kernel_rfl) rfl rfl (Nat.le_of_ble_eq_true rfl) (by intro t u h; simp [Tryd.f101] at h) ?_
  refine code_seq (fun K1 hK1 => ?_)
  refine code_region ?_
  refine list_cons rfl (op_q (q_assign rfl (by decide)) ?_)
  refine list_nil ?_
  refine hK1 _ ?_; clear hK1 K1
  refine code_seq (fun K2 hK2 => ?_)
  refine code_region ?_
  refine list_cons rfl (op_q (q_move rfl (by decide)) ?_)
  refine list_cons rfl (op_q (q_move rfl (by decide)) ?_)
  refine list_cons rfl (op_q (q_ge rfl rfl (by decide)) ?_)
  refine list_cons rfl (op_q (q_move rfl (by decide)) ?_)
  refine list_guard_d rfl rfl rfl rfl (by decide) rfl (by decide) (fun h1 => ?_) (fun h1 => ?_)
  · simp only [Bool.false_eq_true, if_true, if_false, Decidable.not_not] at h1
    refine id (op_q (q_move rfl (by decide)) ?_)
    refine list_guard_y rfl rfl rfl rfl (by decide) rfl ?_
    refine id (op_q (q_move rfl (by decide)) ?_)
    refine list_guard_y rfl rfl rfl rfl (by decide) rfl ?_
    refine id (op_q (q_le rfl rfl (by decide)) ?_)
    refine list_cons rfl (op_q (q_pick rfl rfl (by decide)) ?_)
    refine list_cons rfl (op_q (q_assign rfl (by decide)) ?_)
    refine list_nil ?_
    refine hK2 _ ?_; clear hK2 K2
    refine codeT.imp (σ' := [(0, _), (1, _), (2, _), (6, _)]) ?_ (imp_covers ⟨rfl, rfl, rfl, rfl, trivial⟩)
    refine code_ret ?_
    refine ends_ret (cs := []) rfl rfl rfl rfl trivial ?_
    simp [h1]
  simp only [Bool.false_eq_true, if_true, if_false, Decidable.not_not] at h1
  refine list_guard_n rfl rfl rfl rfl (by decide) rfl ?_
  refine list_guard_n rfl rfl rfl rfl (by decide) rfl ?_
  refine list_cons rfl (op_q (q_pick rfl rfl (by decide)) ?_)
  refine list_cons rfl (op_q (q_assign rfl (by decide)) ?_)
  refine list_nil ?_
  refine hK2 _ ?_; clear hK2 K2
  refine code_ret ?_
  refine ends_ret (cs := []) rfl rfl rfl rfl trivial ?_
  simp [h1]

set_option maxRecDepth 4000 in
theorem spec_l1Most (a b : Int) : PCalls Tryd.prog 90 [.int .i64 a, .int .i64 b] (· = [.val (.int .i64 (if b < a then a else b))]) := by
  refine pcalls_of_code (n := 10) az Tryd.func90 (by kernel_rfl) rfl rfl (Nat.le_of_ble_eq_true rfl) (by intro t u h; simp [Tryd.f90] at h) ?_
  refine code_seq (fun K1 hK1 => ?_)
  refine code_region ?_
  refine list_cons rfl (op_q (q_assign rfl (by decide)) ?_)
  refine list_nil ?_
  refine hK1 _ ?_; clear hK1 K1
  refine code_seq (fun K2 hK2 => ?_)
  refine code_seq (fun K3 hK3 => ?_)
  refine code_region ?_
  refine list_cons rfl (op_q (q_move rfl (by decide)) ?_)
  refine list_cons rfl (op_q (q_move rfl (by decide)) ?_)
  refine list_cons rfl (op_q (q_gt rfl rfl (by decide)) ?_)
  refine list_nil ?_
  refine hK3 _ ?_; clear hK3 K3
  refine code_cond_d rfl (fun h1 => ?_) (fun h1 => ?_)
  · skip
    (try simp only [Decidable.not_not] at h1)
    refine code_seq (fun K4 hK4 => ?_)
    refine code_region ?_
    refine list_cons rfl (op_q (q_move rfl (by decide)) ?_)
    refine list_cons rfl (op_q (q_assign rfl (by decide)) ?_)
    refine list_nil ?_
    refine hK4 _ ?_; clear hK4 K4
    refine code_ret ?_
    refine then_r ?_; clear hK2 K2
    refine ends_ret (cs := []) rfl rfl rfl rfl trivial ?_
    rw [if_pos h1]
  (try simp only [Decidable.not_not] at h1)
  refine code_skip ?_
  refine hK2 _ ?_; clear hK2 K2
  refine code_seq (fun K5 hK5 => ?_)
  refine code_region ?_
  refine list_cons rfl (op_q (q_move rfl (by decide)) ?_)
  refine list_cons rfl (op_q (q_assign rfl (by decide)) ?_)
  refine list_nil ?_
  refine hK5 _ ?_; clear hK5 K5
  refine code_ret ?_
  refine ends_ret (cs := []) rfl rfl rfl rfl trivial ?_
  rw [if_neg h1]

set_option maxRecDepth 4000 in
theorem spec_l2Cell (c : Int) : PCalls Tryd.prog 70 [.int .i64 c] (· = [.val (.bool (decide (0 ≤ c ∧ c ≤ 127)))]) := by
  refine pcalls_of_code (n := 5) az Tryd.func70 (by kernel_rfl) rfl rfl (Nat.le_of_ble_eq_true rfl) (by intro t u h; simp [Tryd.f70] at h) ?_
  refine code_seq (fun K1 hK1 => ?_)
  refine code_region ?_
  refine list_cons rfl (op_q (q_assign rfl (by decide)) ?_)
  refine list_nil ?_
  refine hK1 _ ?_; clear hK1 K1
  refine code_seq (fun K2 hK2 => ?_)
  refine code_region ?_
  refine list_cons rfl (op_q (q_move rfl (by decide)) ?_)
  refine list_cons rfl (op_call _ (spec_l1In _ _ _) rfl rfl (by decide) (by decide) (by decide) rfl ?_)
  rintro _ rfl
  refine list_cons rfl (op_q (q_assign rfl (by decide)) ?_)
  refine list_nil ?_
  refine hK2 _ ?_; clear hK2 K2
  refine codeT.imp (σ' := [(0, _), (2, _)]) ?_ (imp_covers ⟨rfl, rfl, trivial⟩)
  refine code_ret ?_
  refine ends_ret (cs := []) rfl rfl rfl rfl trivial ?_
  rfl

set_option maxRecDepth 100000 in
theorem spec_l2Digit (c : Int) (h0 : 0 ≤ c) (h1 : c ≤ 9) : PCalls Tryd.prog 87 [.int .i64 c] (· = [.val (.int .i64 (digT.getD c.toNat 0))]) := by
  have h := below_int (p := fun i => oneInt (crun Tf.tf noExt 200 6 87 [.int .i64 (Int.ofNat i)]) (digT.getD i 0)) (k := 10) (by kernel_rfl) h0 (by omega)
  have e : Int.ofNat c.toNat = c := Int.toNat_of_nonneg h0
  rw [e] at h
  exact pcalls_run Tf.tf (oneInt_ok h)

theorem foldl_take {α β : Type} (f : β → α → β) (d : α) (l : List α) (b : β) {k : Nat} (h : k < l.length) : (l.take (k + 1)).foldl f b = f ((l.take k).foldl f b) (l.getD k d) := by
  rw [take_snocI d l k h, List.foldl_append]; rfl
theorem map_take {α β : Type} (f : α → β) (d : α) (l : List α) {k : Nat} (h : k < l.length) : (l.take (k + 1)).map f = (l.take k).map f ++ [f (l.getD k d)] := by
  rw [take_snocI d l k h, List.map_append]; rfl
theorem rev_drop {α : Type} (d : α) (l : List α) {k : Nat} (h : k < l.length) : (l.drop k).reverse = (l.drop (k + 1)).reverse ++ [l.getD k d] := by
  rw [List.drop_eq_getElem_cons h, List.reverse_cons]; simp [h]
theorem xor7 {a b : Int} (ha : 0 ≤ a ∧ a ≤ 127) (hb : 0 ≤ b ∧ b ≤ 127) : ((a.toNat ^^^ b.toNat : Nat) : Int) ≤ 127 := by
  have := @Nat.xor_lt_two_pow a.toNat b.toNat 7 (by omega) (by omega)
  omega
theorem cnt7_le (n : Nat) : cnt7 n ≤ 7 := by unfold cnt7; omega
theorem turn7_le (n : Nat) : turn7 n ≤ 127 := by unfold turn7; omega
theorem mir7_le (n : Nat) : mir7 n ≤ 127 := by unfold mir7; omega
def turnC (x : Int) : Int := ((turn7 x.toNat : Nat) : Int)
def mirC (x : Int) : Int := ((mir7 x.toNat : Nat) : Int)
theorem turnC_cell (x : Int) : 0 ≤ turnC x ∧ turnC x ≤ 127 := by have := turn7_le x.toNat; unfold turnC; omega
theorem mirC_cell (x : Int) : 0 ≤ mirC x ∧ mirC x ≤ 127 := by have := mir7_le x.toNat; unfold mirC; omega
def turnL (l : List Int) : List Int := l.reverse.map turnC
def mirL (l : List Int) : List Int := l.reverse.map mirC
theorem turnL_len (l : List Int) : (turnL l).length = l.length := by simp [turnL]
theorem mirL_len (l : List Int) : (mirL l).length = l.length := by simp [mirL]
/-- The row of a number. -/
def rowN (n : Nat) : List Int := if h : n < 10 then [digT.getD n 0] else rowN (n / 10) ++ [digT.getD (n % 10) 0]
termination_by n
decreasing_by omega
theorem rowN_lt {n : Nat} (h : n < 10) : rowN n = [digT.getD n 0] := by rw [rowN, dif_pos h]
theorem rowN_ge {n : Nat} (h : ¬ n < 10) : rowN n = rowN (n / 10) ++ [digT.getD (n % 10) 0] := by rw [rowN, dif_neg h]
/-- What of the row stands ahead of its last cell. -/
def rowP (n : Nat) : List Int := if n < 10 then [] else rowN (n / 10)
theorem rowP_cat (n : Nat) : rowN n = rowP n ++ [digT.getD (n % 10) 0] := by
  unfold rowP
  by_cases h : n < 10
  · rw [if_pos h, rowN_lt h, Nat.mod_eq_of_lt h]; rfl
  · rw [if_neg h, rowN_ge h]
theorem rowN_len : ∀ (k n : Nat), 1 ≤ k → n < 10 ^ k → (rowN n).length ≤ k ∧ 1 ≤ (rowN n).length
  | 0, n, h, _ => by omega
  | k + 1, n, _, h => by
    by_cases hn : n < 10
    · rw [rowN_lt hn]; simp
    · rw [rowN_ge hn]
      have h1 : 1 ≤ k := by
        rcases Nat.eq_zero_or_pos k with e | e
        · subst e; simp at h; omega
        · exact e
      have h2 : n / 10 < 10 ^ k := by rw [Nat.pow_succ] at h; omega
      have := rowN_len k (n / 10) h1 h2
      simp; omega
theorem digT_cell (n : Nat) : 0 ≤ digT.getD n 0 ∧ digT.getD n 0 ≤ 127 := by
  by_cases h : n < 10
  · have : n = 0 ∨ n = 1 ∨ n = 2 ∨ n = 3 ∨ n = 4 ∨ n = 5 ∨ n = 6 ∨ n = 7 ∨ n = 8 ∨ n = 9 := by omega
    rcases this with rfl | rfl | rfl | rfl | rfl | rfl | rfl | rfl | rfl | rfl <;> decide
  · have : digT.getD n 0 = 0 := by unfold List.getD; rw [List.getElem?_eq_none (by simp [digT]; omega)]; rfl
    rw [this]; omega
theorem rowN_cells : ∀ (k n : Nat), n < k → ∀ x ∈ rowN n, 0 ≤ x ∧ x ≤ 127
  | 0, n, h => by omega
  | k + 1, n, h => by
    intro x hx
    by_cases hn : n < 10
    · rw [rowN_lt hn] at hx; simp only [List.mem_singleton] at hx; subst hx; exact digT_cell _
    · rw [rowN_ge hn] at hx
      rcases List.mem_append.1 hx with hx | hx
      · exact rowN_cells k (n / 10) (by omega) x hx
      · simp only [List.mem_singleton] at hx; subst hx; exact digT_cell _
theorem rowN_row {n : Nat} (h : n ≤ 999999) : RowP (rowN n) := ⟨(rowN_len 6 n (by omega) (by omega)).1, rowN_cells (n + 1) n (by omega)⟩
def DigsP (l : List Int) : Prop := ∀ x ∈ l, 0 ≤ digOf x
instance (l : List Int) : Decidable (DigsP l) := by unfold DigsP; infer_instance
def numF (l : List Int) : Int := l.foldl (fun n x => 10 * n + digOf x) 0
theorem DigsP.at {l : List Int} (h : DigsP l) {j : Nat} (hj : j < l.length) : 0 ≤ digOf (l.getD j 0) := by
  have : l.getD j 0 = l[j] := by simp [hj]
  rw [this]; exact h _ (List.getElem_mem hj)
theorem DigsP.of {l : List Int} (h : ∀ j, j < l.length → 0 ≤ digOf (l.getD j 0)) : DigsP l := fun x hx => by
  obtain ⟨j, hj, rfl⟩ := List.getElem_of_mem hx
  have := h j hj
  simpa [hj] using this
theorem pow10_le {i : Nat} (h : i ≤ 6) : 10 ^ i ≤ 1000000 := Nat.pow_le_pow_right (n := 10) (by omega) h
def litF (l : List Int) : Int := l.foldl (fun n x => n + ((cnt7 x.toNat : Nat) : Int)) 0
def cntAlike : Nat → Nat
  | 0 => if turnL (rowN 0) = rowN 0 then 1 else 0
  | k + 1 => cntAlike k + if turnL (rowN (k + 1)) = rowN (k + 1) then 1 else 0
def alikeTo (k : Nat) : Nat := ((List.range k).filter fun j => turnL (rowN j) = rowN j).length
theorem alikeTo_succ (k : Nat) : alikeTo (k + 1) = alikeTo k + if turnL (rowN k) = rowN k then 1 else 0 := by
  unfold alikeTo
  rw [List.range_succ, List.filter_append, List.length_append]
  by_cases h : turnL (rowN k) = rowN k <;> simp [h]
theorem alikeTo_le (k : Nat) : alikeTo k ≤ k := by
  have := List.length_filter_le (fun j => decide (turnL (rowN j) = rowN j)) (List.range k)
  simpa [alikeTo] using this

theorem list_eqI {α : Type} (d : α) (a b : List α) (h : a.length = b.length) (k : ∀ j, j < a.length → a.getD j d = b.getD j d) : a = b := by
  apply List.ext_getElem h
  intro j h1 h2
  have := k j h1
  simpa [h1, h2] using this
/-- Letters of bars in order. -/
def OrdP (s : List UInt8) : Prop := ∀ i, i < s.length → 97 ≤ (s.getD i 0).toNat ∧ (s.getD i 0).toNat ≤ 103 ∧ (0 < i → (s.getD (i - 1) 0).toNat < (s.getD i 0).toNat)
instance (s : List UInt8) : Decidable (OrdP s) := by unfold OrdP; infer_instance
def orF (s : List UInt8) : Nat := s.foldl (fun c b => c ||| 2 ^ (b.toNat - 97)) 0
theorem orF_snoc (s : List UInt8) {k : Nat} (h : k < s.length) : orF (s.take (k + 1)) = orF (s.take k) ||| 2 ^ ((s.getD k 0).toNat - 97) := by
  unfold orF; rw [foldl_take _ 0 _ _ h]
theorem or7 {a k : Nat} (ha : a < 128) (hk : k ≤ 6) : a ||| 2 ^ k < 128 := by
  have : 2 ^ k < 2 ^ 7 := Nat.pow_lt_pow_right (by omega) (by omega)
  exact @Nat.or_lt_two_pow a (2 ^ k) 7 (by omega) this
theorem orF_lt (s : List UInt8) (h : OrdP s) : ∀ k, k ≤ s.length → orF (s.take k) < 128
  | 0, _ => by rw [List.take_zero]; decide
  | k + 1, hk => by
    rw [orF_snoc s (by omega)]
    have h1 := (h k (by omega)).2.1
    exact or7 (orF_lt s h k (by omega)) (by omega)
theorem orF_all {s : List UInt8} (h : OrdP s) : orF s < 128 := by have := orF_lt s h s.length (Nat.le_refl _); rwa [List.take_length] at this
def pieceT (x : Int) : List UInt8 := (if x = 0 then [45] else []) ++ bars7 x.toNat
def textG (l : List Int) : Nat → List UInt8
  | 0 => []
  | k + 1 => (if 0 < k then textG l k ++ [32] else []) ++ pieceT (l.getD k 0)
def textF (l : List Int) : List UInt8 := textG l l.length
theorem bars7_len (n : Nat) : (bars7 n).length ≤ 7 := by
  unfold bars7
  rw [List.length_map]
  exact Nat.le_trans (List.length_filter_le _ _) (by simp)
theorem textG_len (l : List Int) : ∀ k, (textG l k).length ≤ 9 * k
  | 0 => by simp [textG]
  | k + 1 => by
    have := textG_len l k
    have h2 := bars7_len (l.getD k 0).toNat
    rw [textG]
    by_cases hk : 0 < k
    · rw [if_pos hk]; unfold pieceT; split <;> simp only [List.length_append, List.length_cons, List.length_nil] <;> omega
    · rw [if_neg hk]; unfold pieceT; split <;> simp only [List.length_append, List.length_cons, List.length_nil] <;> omega


/-- The changes from the cell of a digit to that of another one. -/
def dgt (a b : Nat) : Int := ((cnt7 ((digT.getD a 0).toNat ^^^ (digT.getD b 0).toNat) : Nat) : Int)
theorem dgt_le (a b : Nat) : 0 ≤ dgt a b ∧ dgt a b ≤ 7 := by
  have := cnt7_le ((digT.getD a 0).toNat ^^^ (digT.getD b 0).toNat)
  unfold dgt; omega
/-- A list of so many zeros, its first k places filled by f. -/
def filN (m : Nat) (f : Nat → Int) : Nat → List Int
  | 0 => List.replicate m 0
  | k + 1 => (filN m f k).set k (f k)
theorem filN_len (m : Nat) (f : Nat → Int) : ∀ k, (filN m f k).length = m
  | 0 => by simp [filN]
  | k + 1 => by simp [filN, filN_len m f k]
theorem filN_at (m : Nat) (f : Nat → Int) : ∀ (k s : Nat), s < m → (filN m f k).getD s 0 = if s < k then f s else 0
  | 0, s, h => by simp [filN, h]
  | k + 1, s, h => by
    have ih := filN_at m f k s h
    have hl := filN_len m f k
    rw [List.getD_eq_getElem?_getD] at ih ⊢
    rw [filN, List.getElem?_set]
    by_cases e : k = s
    · subst e; simp [hl, h]
    · rw [if_neg e, ih]
      by_cases h2 : s < k
      · rw [if_pos h2, if_pos (by omega)]
      · rw [if_neg h2, if_neg (by omega)]
theorem filN_put (m : Nat) (f : Nat → Int) {k o : Nat} {v : Int} (ho : o = k) (hk : k < m) (hv : v = f k) : putAt ((filN m f k).map (PV.int .i64)) o [PV.int .i64 v] = (filN m f (k + 1)).map (PV.int .i64) := by
  subst ho; subst hv
  have := put_map1 (PV.int .i64) (filN m f o) (k := o) (by rw [filN_len]; exact hk) (f o)
  rw [Nat.mul_one] at this
  exact this
theorem put_all {a b : List PV} {n : Nat} (ha : a.length = n) (hb : b.length = n) : putAt a 0 (PV.agg ((b.drop 0).take n)).cells = b := by
  unfold putAt PV.cells
  simp only [List.drop_zero, List.take_zero, List.nil_append, Nat.zero_add]
  rw [List.take_of_length_le (by omega), hb, List.drop_of_length_le (by omega), List.append_nil]
theorem res_agg1 {az : TypeId → Nat} {σ : St} {t u l e : Nat} {cs : List PV} (h : σ.at t = some (.box l e cs)) (haz : (az u == 0) = false) (hf : PV.flatL cs = true) (hl : cs.length = az u) : St.res az σ [.cell t u] = some [.val (.agg cs)] := by
  simp only [St.res, h, haz, hf, hl, BEq.rfl, Bool.and_self, if_true, Bool.false_eq_true, if_false]
/-- The nearest digits: one digit more is looked at. -/
def near1 (d : Nat) (s : List Int × Int) (z : Nat) : List Int × Int :=
  if z = d ∨ s.2 < dgt d z then s else if dgt d z < s.2 then ([(z : Int)], dgt d z) else (s.1 ++ [(z : Int)], s.2)
def nearK (d : Nat) (m : Int) : Nat → List Int × Int
  | 0 => ([], m)
  | k + 1 => near1 d (nearK d m k) k
theorem nearK_le (d : Nat) {m : Int} (hm : 0 ≤ m) : ∀ k, 0 ≤ (nearK d m k).2 ∧ (nearK d m k).2 ≤ m ∧ (nearK d m k).1.length ≤ k
  | 0 => by simp [nearK, hm]
  | k + 1 => by
    have ih := nearK_le d hm k
    have hd := dgt_le d k
    unfold nearK near1
    split
    · exact ⟨ih.1, ih.2.1, by omega⟩
    · split
      · exact ⟨hd.1, by simp only; omega, by simp⟩
      · exact ⟨ih.1, ih.2.1, by simp; omega⟩
set_option maxRecDepth 100000 in
theorem near_87 : ∀ d, d < 10 → nearK d 7 10 = nearK d 8 10 := by decide
/-- Whether a bar of a digit's cell lights. -/
def btD (d b : Nat) : Int := ((((shN (digT.getD d 0).toNat b : Nat) : Int).toNat &&& Int.toNat 1 : Nat) : Int)
theorem btD_le (d b : Nat) : 0 ≤ btD d b ∧ btD d b ≤ 1 := by
  unfold btD
  have : ((shN (digT.getD d 0).toNat b : Nat) : Int).toNat &&& Int.toNat 1 ≤ 1 := Nat.and_le_right
  omega
def shS : Nat → List Int
  | 0 => List.replicate 7 0
  | s + 1 => (shS s).set (s % 7) ((shS s).getD (s % 7) 0 + btD (s / 7) (s % 7))
theorem shS_len : ∀ s, (shS s).length = 7
  | 0 => rfl
  | s + 1 => by simp [shS, shS_len s]
theorem shS_le : ∀ (s j : Nat), 0 ≤ (shS s).getD j 0 ∧ (shS s).getD j 0 ≤ s
  | 0, j => by
    have : (shS 0).getD j 0 = 0 := by
      unfold shS
      rw [List.getD_eq_getElem?_getD, List.getElem?_replicate]
      split <;> rfl
    rw [this]; omega
  | s + 1, j => by
    have h1 := shS_le s j
    have h2 := shS_le s (s % 7)
    have h3 := btD_le (s / 7) (s % 7)
    have hl := shS_len s
    have : (shS (s + 1)).getD j 0 = if s % 7 = j then (shS s).getD (s % 7) 0 + btD (s / 7) (s % 7) else (shS s).getD j 0 := by
      rw [shS, List.getD_eq_getElem?_getD, List.getElem?_set]
      by_cases e : s % 7 = j
      · rw [if_pos e, if_pos e, if_pos (by omega)]; rfl
      · rw [if_neg e, if_neg e, ← List.getD_eq_getElem?_getD]
    rw [this]
    split <;> omega
theorem shS_put {s o : Nat} {v : Int} (ho : o = s % 7) (hv : v = (shS s).getD (s % 7) 0 + btD (s / 7) (s % 7)) : putAt ((shS s).map (PV.int .i64)) o [PV.int .i64 v] = (shS (s + 1)).map (PV.int .i64) := by
  subst ho; subst hv
  have := put_map1 (PV.int .i64) (shS s) (k := s % 7) (by rw [shS_len]; omega) ((shS s).getD (s % 7) 0 + btD (s / 7) (s % 7))
  rw [Nat.mul_one] at this
  exact this
def tabF (s : Nat) : Int := dgt (s / 10) (s % 10)
def tabS (k : Nat) : List Int := filN 100 tabF k
theorem tab_at {a b : Nat} (ha : a < 10) (hb : b < 10) : (tabS 100).getD (a * 10 + b) 0 = dgt a b := by
  unfold tabS
  rw [filN_at 100 tabF 100 _ (by omega), if_pos (by omega)]
  unfold tabF
  rw [show (a * 10 + b) / 10 = a by omega, show (a * 10 + b) % 10 = b by omega]

def hasK (l : List Int) (n : Int) : Nat → Bool
  | 0 => false
  | k + 1 => hasK l n k || decide (l.getD k 0 = n)
def ordK (l : List Int) : Nat → Bool
  | 0 => true
  | k + 1 => ordK l k && (decide (0 ≤ l.getD k 0 ∧ l.getD k 0 ≤ 9) && !hasK l (l.getD k 0) k)
theorem ordK_mono {l : List Int} : ∀ {m k : Nat}, k ≤ m → ordK l m = true → ordK l k = true
  | 0, k, h, h1 => by rw [show k = 0 by omega]; rfl
  | m + 1, k, h, h1 => by
    by_cases e : k = m + 1
    · rw [e]; exact h1
    · simp only [ordK, Bool.and_eq_true] at h1
      exact ordK_mono (by omega) h1.1
theorem ordK_at {l : List Int} {m j : Nat} (h : ordK l m = true) (hj : j < m) : (0 ≤ l.getD j 0 ∧ l.getD j 0 ≤ 9) ∧ hasK l (l.getD j 0) j = false := by
  have := ordK_mono (k := j + 1) (by omega) h
  simp only [ordK, Bool.and_eq_true, decide_eq_true_eq, Bool.not_eq_true'] at this
  exact this.2
theorem ordK_not {l : List Int} {m j : Nat} (hj : j < m) (h : ¬ ((0 ≤ l.getD j 0 ∧ l.getD j 0 ≤ 9) ∧ hasK l (l.getD j 0) j = false)) : ordK l m = false := by
  cases hb : ordK l m with
  | false => rfl
  | true => exact absurd (ordK_at hb hj) h
theorem ordK_succ {l : List Int} {k : Nat} (h : ordK l k = true) (h1 : 0 ≤ l.getD k 0 ∧ l.getD k 0 ≤ 9) (h2 : hasK l (l.getD k 0) k = false) : ordK l (k + 1) = true := by
  simp only [ordK, h, h2, decide_eq_true h1, Bool.and_self, Bool.not_false]
theorem hasK_take (l : List Int) (n : Int) {i : Nat} (hi : i ≤ l.length) : ∀ k, k ≤ i → hasK (l.take i) n k = hasK l n k
  | 0, _ => rfl
  | k + 1, h => by
    have e : (l.take i).getD k 0 = l.getD k 0 := by
      simp only [List.getD_eq_getElem?_getD]
      rw [List.getElem?_take, if_pos (by omega)]
    rw [hasK, hasK, hasK_take l n hi k (by omega), e]
def ten (l : List Int) (m : Nat) (d : Int) : Nat := if hasK l d m then 1 else 0
theorem ten_le (l : List Int) (m : Nat) (d : Int) : ten l m d ≤ 1 := by unfold ten; split <;> omega
theorem ten_succ (l : List Int) (m : Nat) (d : Int) (h : hasK l (l.getD m 0) m = false) : ten l (m + 1) d = ten l m d + if l.getD m 0 = d then 1 else 0 := by
  unfold ten
  rw [hasK]
  by_cases e : l.getD m 0 = d
  · rw [← e, h]; simp
  · rw [decide_eq_false e, Bool.or_false, if_neg e, Nat.add_zero]
/-- An order has at most ten digits. -/
theorem ord_ten {l : List Int} : ∀ m, ordK l m = true → ten l m 0 + ten l m 1 + ten l m 2 + ten l m 3 + ten l m 4 + ten l m 5 + ten l m 6 + ten l m 7 + ten l m 8 + ten l m 9 = m
  | 0, _ => by simp [ten, hasK]
  | m + 1, h => by
    have ih := ord_ten m (ordK_mono (by omega) h)
    obtain ⟨h1, h2⟩ := ordK_at h (Nat.lt_succ_self m)
    have s := fun d => ten_succ l m d h2
    have hv : l.getD m 0 = 0 ∨ l.getD m 0 = 1 ∨ l.getD m 0 = 2 ∨ l.getD m 0 = 3 ∨ l.getD m 0 = 4 ∨ l.getD m 0 = 5 ∨ l.getD m 0 = 6 ∨ l.getD m 0 = 7 ∨ l.getD m 0 = 8 ∨ l.getD m 0 = 9 := by omega
    rw [s 0, s 1, s 2, s 3, s 4, s 5, s 6, s 7, s 8, s 9]
    rcases hv with e | e | e | e | e | e | e | e | e | e <;> rw [e] <;> simp <;> omega
theorem ord_len {l : List Int} {m : Nat} (h : ordK l m = true) : m ≤ 10 := by
  have := ord_ten m h
  have t := ten_le l m
  have := t 0; have := t 1; have := t 2; have := t 3; have := t 4; have := t 5; have := t 6; have := t 7; have := t 8; have := t 9
  omega
def cstK (l : List Int) : Nat → Int
  | 0 => 0
  | k + 1 => cstK l k + dgt (l.getD k 0).toNat (l.getD ((k + 1) % l.length) 0).toNat
theorem cstK_le (l : List Int) : ∀ k : Nat, 0 ≤ cstK l k ∧ cstK l k ≤ 7 * k
  | 0 => by simp [cstK]
  | k + 1 => by
    have := cstK_le l k
    have := dgt_le (l.getD k 0).toNat (l.getD ((k + 1) % l.length) 0).toNat
    unfold cstK; omega
def costO (l : List Int) (ring : Bool) : Int := cstK l (if ring then l.length else l.length - 1)

set_option maxRecDepth 4000 in
theorem spec_l1Has (l : List Int) (n : Int) (hl : l.length ≤ 4611686018427387904) : PCalls Tryd.prog 86 [.sl l.length (l.map (.int .i64)), .int .i64 n] (· = [.val (.bool (decide (hasK l n l.length = true)))]) := by
  refine pcalls_of_code (n := 18) az Tryd.func86 (by kernel_rfl) rfl rfl (Nat.le_of_ble_eq_true rfl) (by intro t u h; simp [Tryd.f86] at h) ?_
  refine code_seq (fun K1 hK1 => ?_)
  refine code_region ?_
  refine list_cons rfl (op_q (q_assign rfl (by decide)) ?_)
  refine list_nil ?_
  refine hK1 _ ?_; clear hK1 K1
  refine code_seq (fun K2 hK2 => ?_)
  refine code_seq (fun K3 hK3 => ?_)
  refine code_region ?_
  refine list_cons rfl (op_q (q_assign rfl (by decide)) ?_)
  refine list_nil ?_
  refine hK3 _ ?_; clear hK3 K3
  refine code_block ?_
  refine code_loop (X := Bool × Int) (fun x => [(0, .par 0 (.sl l.length (l.map (.int .i64)))), (1, .val (.int .i64 n)), (4, .val (.bool x.1)), (5, .val (.int .i64 x.2))]) (fun x => 0 ≤ x.2 ∧ x.2 ≤ l.length ∧ hasK l n x.2.toNat = false) (fun x => (l.length - x.2).toNat) (_, _) (imp_covers ⟨rfl, rfl, rfl, rfl, trivial⟩) ?_ ?_
  · (try dsimp only)
    exact ⟨by omega, by omega, rfl⟩
  · intro x hI
    obtain ⟨t4, i⟩ := x
    replace hI : 0 ≤ i ∧ i ≤ l.length ∧ hasK l n i.toNat = false := hI
    show codeT _ _ _ [(0, .par 0 (.sl l.length (l.map (.int .i64)))), (1, .val (.int .i64 n)), (4, .val (.bool t4)), (5, .val (.int .i64 i))] _
    obtain ⟨i1, i2, i3⟩ := hI
    refine code_seq (fun K4 hK4 => ?_)
    refine code_seq (fun K5 hK5 => ?_)
    refine code_region ?_
    refine list_cons rfl (op_q (q_move rfl (by decide)) ?_)
    refine list_cons rfl (op_q (q_move rfl (by decide)) ?_)
    refine list_cons rfl (op_q (q_len_sl Tryd.underlying24 rfl rfl (by decide)) ?_)
    refine list_cons rfl (op_q (q_lt rfl rfl (by decide)) ?_)
    refine list_nil ?_
    refine hK5 _ ?_; clear hK5 K5
    refine code_cond_d rfl (fun h1 => ?_) (fun h1 => ?_)
    · skip
      (try simp only [Decidable.not_not] at h1)
      refine code_skip ?_
      refine hK4 _ ?_; clear hK4 K4
      refine code_seq (fun K6 hK6 => ?_)
      refine code_block ?_
      refine code_seq (fun K7 hK7 => ?_)
      refine code_region ?_
      refine list_cons rfl (op_q (q_move rfl (by decide)) ?_)
      refine list_cons rfl (op_q (q_move rfl (by decide)) ?_)
      refine list_cons rfl (op_q (q_indexAddr_rd sl_24 rfl (.inl ⟨_, rfl, rfl⟩) rfl (by omega) (by omega) (by decide)) ?_)
      refine list_cons rfl (op_q (q_load_rd one_3 rfl (.inl ⟨_, (by first | rfl | exact congrArg (SV.rpar _) (drop_map1 _ 0 _ (by first | omega | (simp; omega)))), rfl⟩) (by decide)) ?_)
      refine list_cons rfl (op_q (q_move rfl (by decide)) ?_)
      refine list_cons rfl (op_q (q_eq rfl rfl (by decide)) ?_)
      refine list_nil ?_
      refine hK7 _ ?_; clear hK7 K7
      refine codeT.imp (σ' := [(0, _), (1, _), (4, _), (5, _), (17, _)]) ?_ (imp_covers ⟨rfl, rfl, rfl, rfl, rfl, trivial⟩)
      refine code_cond_d rfl (fun h2 => ?_) (fun h2 => ?_)
      · skip
        (try simp only [Decidable.not_not] at h2)
        refine code_seq (fun K8 hK8 => ?_)
        refine code_region ?_
        refine list_cons rfl (op_q (q_assign rfl (by decide)) ?_)
        refine list_nil ?_
        refine hK8 _ ?_; clear hK8 K8
        refine code_ret ?_
        refine blk_r ?_
        refine then_r ?_; clear hK6 K6
        refine then_r ?_
        refine blk_r ?_
        refine then_r ?_; clear hK2 K2
        refine ends_ret (cs := []) rfl rfl rfl rfl trivial ?_
        have e : hasK l n l.length = true := by
          have : ∀ m, i.toNat < m → hasK l n m = true := by
            intro m
            induction m with
            | zero => intro h; omega
            | succ m ih =>
              intro h
              rw [hasK]
              by_cases e : i.toNat = m
              · rw [← e]; simp; right; simpa using h2
              · rw [ih (by omega)]; rfl
          exact this _ (by omega)
        rw [e]; rfl
      (try simp only [Decidable.not_not] at h2)
      refine code_skip ?_
      refine blk_n ?_
      refine hK6 _ ?_; clear hK6 K6
      refine code_region ?_
      refine list_cons rfl (op_q (q_move rfl (by decide)) ?_)
      refine list_cons rfl (op_q (by first | exact q_addI rfl rfl (by decide) (by omega) (by omega) | exact q_ib rfl rfl rfl (by decide)) ?_)
      refine list_cons rfl (op_q (q_assign rfl (by decide)) ?_)
      refine list_nil ?_
      refine then_n ⟨(_, _), imp_covers ⟨rfl, rfl, rfl, rfl, trivial⟩, ?_, ?_⟩
      · (try dsimp only)
        exact ⟨by omega, by omega, by rw [show (i + 1).toNat = i.toNat + 1 by omega, hasK, i3]; simpa using h2⟩
      · (try dsimp only); omega
    (try simp only [Decidable.not_not] at h1)
    refine code_exit ?_
    refine then_x ?_; clear hK4 K4
    refine then_x ?_
    refine blk_hit ?_
    refine hK2 _ ?_; clear hK2 K2
    refine code_seq (fun K9 hK9 => ?_)
    refine code_region ?_
    refine list_cons rfl (op_q (q_assign rfl (by decide)) ?_)
    refine list_nil ?_
    refine hK9 _ ?_; clear hK9 K9
    refine code_ret ?_
    refine ends_ret (cs := []) rfl rfl rfl rfl trivial ?_
    rw [show l.length = i.toNat by omega, i3]; rfl

theorem spec_l1HasT (l : List Int) (n i : Int) (h0 : 0 ≤ i) (h1 : i ≤ l.length) (hl : l.length ≤ 4611686018427387904) : PCalls Tryd.prog 86 [.sl (i.toNat - Int.toNat 0) (List.take ((i.toNat - Int.toNat 0) * 1) (List.drop (Int.toNat 0 * 1) (l.map (PV.int .i64)))), .int .i64 n] (· = [.val (.bool (decide (hasK l n i.toNat = true)))]) := by
  have h2 := spec_l1Has (l.take i.toNat) n (by simp; omega)
  have e : (l.take i.toNat).length = i.toNat := by simp; omega
  rw [e, hasK_take l n (by omega) i.toNat (Nat.le_refl _), List.map_take] at h2
  rw [show i.toNat - Int.toNat 0 = i.toNat by omega, show Int.toNat 0 * 1 = 0 from rfl, List.drop_zero, Nat.mul_one]
  exact h2

set_option maxRecDepth 4000 in
theorem spec_l4Order (l : List Int) (hl : l.length ≤ 4611686018427387904) : PCalls Tryd.prog 100 [.sl l.length (l.map (.int .i64))] (· = [.val (.bool (decide (ordK l l.length = true)))]) := by
  refine pcalls_of_code (n := 33) az Tryd.func100 (by kernel_rfl) rfl rfl (Nat.le_of_ble_eq_true rfl) (by intro t u h; simp [Tryd.f100] at h) ?_
  refine code_seq (fun K1 hK1 => ?_)
  refine code_region ?_
  refine list_cons rfl (op_q (q_assign rfl (by decide)) ?_)
  refine list_nil ?_
  refine hK1 _ ?_; clear hK1 K1
  refine code_seq (fun K2 hK2 => ?_)
  refine code_seq (fun K3 hK3 => ?_)
  refine code_region ?_
  refine list_cons rfl (op_q (q_assign rfl (by decide)) ?_)
  refine list_nil ?_
  refine hK3 _ ?_; clear hK3 K3
  refine code_block ?_
  refine code_loop (X := Bool × Int) (fun x => [(0, .par 0 (.sl l.length (l.map (.int .i64)))), (2, .val (.bool x.1)), (3, .val (.int .i64 x.2))]) (fun x => 0 ≤ x.2 ∧ x.2 ≤ 11 ∧ x.2 ≤ l.length ∧ ordK l x.2.toNat = true) (fun x => (12 - x.2).toNat) (_, _) (imp_covers ⟨rfl, rfl, rfl, trivial⟩) ?_ ?_
  · (try dsimp only)
    exact ⟨by omega, by omega, by omega, rfl⟩
  · intro x hI
    obtain ⟨t2, i⟩ := x
    replace hI : 0 ≤ i ∧ i ≤ 11 ∧ i ≤ l.length ∧ ordK l i.toNat = true := hI
    show codeT _ _ _ [(0, .par 0 (.sl l.length (l.map (.int .i64)))), (2, .val (.bool t2)), (3, .val (.int .i64 i))] _
    obtain ⟨i1, i2, i2l, i3⟩ := hI
    refine code_seq (fun K4 hK4 => ?_)
    refine code_seq (fun K5 hK5 => ?_)
    refine code_region ?_
    refine list_cons rfl (op_q (q_move rfl (by decide)) ?_)
    refine list_cons rfl (op_q (q_move rfl (by decide)) ?_)
    refine list_cons rfl (op_q (q_len_sl Tryd.underlying24 rfl rfl (by decide)) ?_)
    refine list_cons rfl (op_q (q_lt rfl rfl (by decide)) ?_)
    refine list_cons rfl (op_q (q_move rfl (by decide)) ?_)
    refine list_guard_d rfl rfl rfl rfl (by decide) rfl (by decide) (fun h1 => ?_) (fun h1 => ?_)
    · simp only [Bool.false_eq_true, if_true, if_false, Decidable.not_not] at h1
      refine id (op_q (q_move rfl (by decide)) ?_)
      refine list_guard_y rfl rfl rfl rfl (by decide) rfl ?_
      refine id (op_q (q_le rfl rfl (by decide)) ?_)
      refine list_cons rfl (op_q (q_pick rfl rfl (by decide)) ?_)
      refine list_nil ?_
      refine hK5 _ ?_; clear hK5 K5
      refine codeT.imp (σ' := [(0, _), (2, _), (3, _), (11, _)]) ?_ (imp_covers ⟨rfl, rfl, rfl, rfl, trivial⟩)
      refine code_cond_d rfl (fun h2 => ?_) (fun h2 => ?_)
      · skip
        (try simp only [Decidable.not_not] at h2)
        refine code_skip ?_
        refine hK4 _ ?_; clear hK4 K4
        refine code_seq (fun K6 hK6 => ?_)
        refine code_block ?_
        refine code_seq (fun K7 hK7 => ?_)
        refine code_draw (by kernel_rfl) (by kernel_rfl) ?_
        refine draw_q rfl (q_move rfl (by decide)) ?_
        refine draw_q rfl (q_move rfl (by decide)) ?_
        refine draw_q rfl (q_indexAddr_rd sl_24 rfl (.inl ⟨_, rfl, rfl⟩) rfl (by omega) (by omega) (by decide)) ?_
        refine draw_q rfl (q_load_rd one_3 rfl (.inl ⟨_, (by first | rfl | exact congrArg (SV.rpar _) (drop_map1 _ 0 _ (by first | omega | (simp; omega)))), rfl⟩) (by decide)) ?_
        refine draw_call _ (spec_l1In _ _ _) rfl rfl rfl (by decide) ?_
        refine draw_q rfl (by first | exact q_notd rfl (by decide) | exact q_not rfl (by decide)) ?_
        refine draw_q rfl (q_move rfl (by decide)) ?_
        refine draw_guard_d rfl rfl rfl rfl (by decide) rfl (by decide) (fun h3 => q_move rfl (by decide)) (fun h3 => ?_) (fun h3 => ?_)
        · simp only [Bool.false_eq_true, if_true, if_false, Decidable.not_not] at h3
          refine draw_guard_y rfl rfl rfl rfl (by decide) rfl (q_move rfl (by decide)) ?_
          refine draw_guard_y rfl rfl rfl rfl (by decide) rfl (q_slice_sl sl_24 rfl rfl rfl ⟨_, rfl⟩ (by omega) (by omega) (by omega) rfl (by decide)) ?_
          refine draw_guard_y rfl rfl rfl rfl (by decide) rfl (q_move rfl (by decide)) ?_
          refine draw_guard_y rfl rfl rfl rfl (by decide) rfl (q_move rfl (by decide)) ?_
          refine draw_guard_y rfl rfl rfl rfl (by decide) rfl (q_indexAddr_rd sl_24 rfl (.inl ⟨_, rfl, rfl⟩) rfl (by omega) (by omega) (by decide)) ?_
          refine draw_guard_y rfl rfl rfl rfl (by decide) rfl (q_load_rd one_3 rfl (.inl ⟨_, (by first | rfl | exact congrArg (SV.rpar _) (drop_map1 _ 0 _ (by first | omega | (simp; omega)))), rfl⟩) (by decide)) ?_
          refine draw_callW _ (spec_l1HasT l _ i i1 (by omega) hl) rfl rfl rfl (by decide) (wanted_of rfl rfl rfl (by decide)) ?_
          refine draw_q rfl (q_pick rfl rfl (by decide)) ?_
          refine draw_nil ?_
          refine hK7 _ ?_; clear hK7 K7
          refine codeT.imp (σ' := [(0, _), (2, _), (3, _), (29, _)]) ?_ (imp_covers ⟨rfl, rfl, rfl, rfl, trivial⟩)
          refine code_cond_d rfl (fun h4 => ?_) (fun h4 => ?_)
          · skip
            (try simp only [Decidable.not_not] at h4)
            refine code_seq (fun K8 hK8 => ?_)
            refine code_region ?_
            refine list_cons rfl (op_q (q_assign rfl (by decide)) ?_)
            refine list_nil ?_
            refine hK8 _ ?_; clear hK8 K8
            refine code_ret ?_
            refine blk_r ?_
            refine then_r ?_; clear hK6 K6
            refine then_r ?_
            refine blk_r ?_
            refine then_r ?_; clear hK2 K2
            refine ends_ret (cs := []) rfl rfl rfl rfl trivial ?_
            first
              | (rw [ordK_not (l := l) (m := l.length) (j := i.toNat) (by omega) (fun h => absurd h.1 (by assumption))]; rfl)
              | (have hx := h4
                 rw [ordK_not (l := l) (m := l.length) (j := i.toNat) (by omega) (fun h => by rw [h.2] at hx; exact absurd hx (by simp))]; rfl)
              | (cases hb : ordK l l.length with
                 | true => rw [decide_eq_true (by have := ord_len hb; omega)]; rfl
                 | false =>
                   by_cases hi : i = l.length
                   · rw [show i.toNat = l.length by omega, hb] at i3; cases i3
                   · rw [decide_eq_false (by omega)]; rfl)
          (try simp only [Decidable.not_not] at h4)
          refine code_skip ?_
          refine blk_n ?_
          refine hK6 _ ?_; clear hK6 K6
          refine code_region ?_
          refine list_cons rfl (op_q (q_move rfl (by decide)) ?_)
          refine list_cons rfl (op_q (by first | exact q_addI rfl rfl (by decide) (by omega) (by omega) | exact q_ib rfl rfl rfl (by decide)) ?_)
          refine list_cons rfl (op_q (q_assign rfl (by decide)) ?_)
          refine list_nil ?_
          refine then_n ⟨(_, _), imp_covers ⟨rfl, rfl, rfl, trivial⟩, ?_, ?_⟩
          · (try dsimp only)
            exact ⟨by omega, by omega, by omega, by rw [show (i + 1).toNat = i.toNat + 1 by omega]; exact ordK_succ i3 (by assumption) (by simpa using h4)⟩
          · (try dsimp only); omega
        simp only [Bool.false_eq_true, if_true, if_false, Decidable.not_not] at h3
        refine draw_guard_n rfl rfl rfl rfl (by decide) rfl ?_
        refine draw_guard_n rfl rfl rfl rfl (by decide) rfl ?_
        refine draw_guard_n rfl rfl rfl rfl (by decide) rfl ?_
        refine draw_guard_n rfl rfl rfl rfl (by decide) rfl ?_
        refine draw_guard_n rfl rfl rfl rfl (by decide) rfl ?_
        refine draw_guard_n rfl rfl rfl rfl (by decide) rfl ?_
        refine draw_guard_n rfl rfl rfl rfl (by decide) rfl ?_
        refine draw_q rfl (q_pick rfl rfl (by decide)) ?_
        refine draw_nil ?_
        refine hK7 _ ?_; clear hK7 K7
        refine codeT.imp (σ' := [(0, _), (2, _), (3, _), (29, _)]) ?_ (imp_covers ⟨rfl, rfl, rfl, rfl, trivial⟩)
        refine code_cond_t rfl ?_
        refine code_seq (fun K9 hK9 => ?_)
        refine code_region ?_
        refine list_cons rfl (op_q (q_assign rfl (by decide)) ?_)
        refine list_nil ?_
        refine hK9 _ ?_; clear hK9 K9
        refine code_ret ?_
        refine blk_r ?_
        refine then_r ?_; clear hK6 K6
        refine then_r ?_
        refine blk_r ?_
        refine then_r ?_; clear hK2 K2
        refine ends_ret (cs := []) rfl rfl rfl rfl trivial ?_
        first
          | (rw [ordK_not (l := l) (m := l.length) (j := i.toNat) (by omega) (fun h => absurd h.1 (by assumption))]; rfl)
          | (have hx := h3
             rw [ordK_not (l := l) (m := l.length) (j := i.toNat) (by omega) (fun h => by rw [h.2] at hx; exact absurd hx (by simp))]; rfl)
          | (cases hb : ordK l l.length with
             | true => rw [decide_eq_true (by have := ord_len hb; omega)]; rfl
             | false =>
               by_cases hi : i = l.length
               · rw [show i.toNat = l.length by omega, hb] at i3; cases i3
               · rw [decide_eq_false (by omega)]; rfl)
      (try simp only [Decidable.not_not] at h2)
      refine code_exit ?_
      refine then_x ?_; clear hK4 K4
      refine then_x ?_
      refine blk_hit ?_
      refine hK2 _ ?_; clear hK2 K2
      refine code_seq (fun K10 hK10 => ?_)
      refine code_region ?_
      refine list_cons rfl (op_q (q_move rfl (by decide)) ?_)
      refine list_cons rfl (op_q (q_len_sl Tryd.underlying24 rfl rfl (by decide)) ?_)
      refine list_cons rfl (op_q (q_le rfl rfl (by decide)) ?_)
      refine list_cons rfl (op_q (q_assign rfl (by decide)) ?_)
      refine list_nil ?_
      refine hK10 _ ?_; clear hK10 K10
      refine code_ret ?_
      refine ends_ret (cs := []) rfl rfl rfl rfl trivial ?_
      first
        | (rw [ordK_not (l := l) (m := l.length) (j := i.toNat) (by omega) (fun h => absurd h.1 (by assumption))]; rfl)
        | (have hx := h2
           rw [ordK_not (l := l) (m := l.length) (j := i.toNat) (by omega) (fun h => by rw [h.2] at hx; exact absurd hx (by simp))]; rfl)
        | (cases hb : ordK l l.length with
           | true => rw [decide_eq_true (by have := ord_len hb; omega)]; rfl
           | false =>
             by_cases hi : i = l.length
             · rw [show i.toNat = l.length by omega, hb] at i3; cases i3
             · rw [decide_eq_false (by omega)]; rfl)
    simp only [Bool.false_eq_true, if_true, if_false, Decidable.not_not] at h1
    refine list_guard_n rfl rfl rfl rfl (by decide) rfl ?_
    refine list_cons rfl (op_q (q_pick rfl rfl (by decide)) ?_)
    refine list_nil ?_
    refine hK5 _ ?_; clear hK5 K5
    refine code_cond_f rfl ?_
    refine code_exit ?_
    refine then_x ?_; clear hK4 K4
    refine then_x ?_
    refine blk_hit ?_
    refine hK2 _ ?_; clear hK2 K2
    refine code_seq (fun K11 hK11 => ?_)
    refine code_region ?_
    refine list_cons rfl (op_q (q_move rfl (by decide)) ?_)
    refine list_cons rfl (op_q (q_len_sl Tryd.underlying24 rfl rfl (by decide)) ?_)
    refine list_cons rfl (op_q (q_le rfl rfl (by decide)) ?_)
    refine list_cons rfl (op_q (q_assign rfl (by decide)) ?_)
    refine list_nil ?_
    refine hK11 _ ?_; clear hK11 K11
    refine codeT.imp (σ' := [(0, _), (2, _), (3, _)]) ?_ (imp_covers ⟨rfl, rfl, rfl, trivial⟩)
    refine code_ret ?_
    refine ends_ret (cs := []) rfl rfl rfl rfl trivial ?_
    first
      | (rw [ordK_not (l := l) (m := l.length) (j := i.toNat) (by omega) (fun h => absurd h.1 (by assumption))]; rfl)
      | (have hx := h1
         rw [ordK_not (l := l) (m := l.length) (j := i.toNat) (by omega) (fun h => by rw [h.2] at hx; exact absurd hx (by simp))]; rfl)
      | (cases hb : ordK l l.length with
         | true => rw [decide_eq_true (by have := ord_len hb; omega)]; rfl
         | false =>
           by_cases hi : i = l.length
           · rw [show i.toNat = l.length by omega, hb] at i3; cases i3
           · rw [decide_eq_false (by omega)]; rfl)

def farC (a b : Int) : Int := ((cnt7 (a.toNat ^^^ b.toNat) : Nat) : Int)
theorem farC_le (a b : Int) : 0 ≤ farC a b ∧ farC a b ≤ 7 := by have := cnt7_le (a.toNat ^^^ b.toNat); unfold farC; omega
theorem farC_comm (a b : Int) : farC a b = farC b a := by unfold farC; rw [Nat.xor_comm]
def codK (l : List Int) : Nat → Bool
  | 0 => true
  | k + 1 => codK l k && (decide (0 ≤ l.getD k 0 ∧ l.getD k 0 ≤ 127) && !hasK l (l.getD k 0) k)
theorem codK_mono {l : List Int} : ∀ {m k : Nat}, k ≤ m → codK l m = true → codK l k = true
  | 0, k, h, h1 => by rw [show k = 0 by omega]; rfl
  | m + 1, k, h, h1 => by
    by_cases e : k = m + 1
    · rw [e]; exact h1
    · simp only [codK, Bool.and_eq_true] at h1
      exact codK_mono (by omega) h1.1
theorem codK_at {l : List Int} {m j : Nat} (h : codK l m = true) (hj : j < m) : (0 ≤ l.getD j 0 ∧ l.getD j 0 ≤ 127) ∧ hasK l (l.getD j 0) j = false := by
  have := codK_mono (k := j + 1) (by omega) h
  simp only [codK, Bool.and_eq_true, decide_eq_true_eq, Bool.not_eq_true'] at this
  exact this.2
theorem codK_succ {l : List Int} {k : Nat} (h : codK l k = true) (h1 : 0 ≤ l.getD k 0 ∧ l.getD k 0 ≤ 127) (h2 : hasK l (l.getD k 0) k = false) : codK l (k + 1) = true := by
  simp only [codK, h, h2, decide_eq_true h1, Bool.and_self, Bool.not_false]
def CodeP (l : List Int) : Prop := (1 ≤ l.length ∧ l.length ≤ 12) ∧ codK l l.length = true
instance (l : List Int) : Decidable (CodeP l) := by unfold CodeP; infer_instance
theorem CodeP.cell {l : List Int} (h : CodeP l) : ∀ j, j < l.length → 0 ≤ l.getD j 0 ∧ l.getD j 0 ≤ 127 := fun _ hj => (codK_at h.2 hj).1
def digC (d : Int) : Int := digT.getD d.toNat 0
def dcd (l : List Int) : List Int := l.map digC
theorem dcd_len (l : List Int) : (dcd l).length = l.length := by simp [dcd]
def DigP (l : List Int) : Prop := 1 ≤ l.length ∧ ordK l l.length = true
instance (l : List Int) : Decidable (DigP l) := by unfold DigP; infer_instance
theorem dig_len (l : List Int) : (if DigP l then dcd l else []).length ≤ 10 := by
  split
  · rename_i h; rw [dcd_len]; exact ord_len h.2
  · simp
/-- The nearest places: one more is looked at. -/
def nr1 (s : List Int × Int) (k : Nat) (f : Int) : List Int × Int := if f < s.2 then ([(k : Int)], f) else if f = s.2 then (s.1 ++ [(k : Int)], s.2) else s
def nrK (l : List Int) (c m : Int) : Nat → List Int × Int
  | 0 => ([], m)
  | k + 1 => nr1 (nrK l c m k) k (farC (l.getD k 0) c)
theorem nrK_le (l : List Int) (c : Int) {m : Int} (hm : 0 ≤ m) : ∀ k, 0 ≤ (nrK l c m k).2 ∧ (nrK l c m k).2 ≤ m ∧ (nrK l c m k).1.length ≤ k
  | 0 => by simp [nrK, hm]
  | k + 1 => by
    have ih := nrK_le l c hm k
    have hd := farC_le (l.getD k 0) c
    unfold nrK nr1
    split
    · exact ⟨hd.1, by simp only; omega, by simp⟩
    · split
      · exact ⟨ih.1, ih.2.1, by simp; omega⟩
      · exact ⟨ih.1, ih.2.1, by omega⟩
theorem nr_87 (l : List Int) (c : Int) : ∀ k, nrK l c 7 (k + 1) = nrK l c 8 (k + 1)
  | 0 => by
    have hd := farC_le (l.getD 0 0) c
    have e : ∀ m : Int, nrK l c m 1 = if farC (l.getD 0 0) c < m then ([((0 : Nat) : Int)], farC (l.getD 0 0) c) else if farC (l.getD 0 0) c = m then ([] ++ [((0 : Nat) : Int)], m) else ([], m) := fun m => rfl
    rw [e, e]
    by_cases h : farC (l.getD 0 0) c < 7
    · rw [if_pos h, if_pos (show farC (l.getD 0 0) c < 8 by omega)]
    · rw [if_neg h, if_pos (show farC (l.getD 0 0) c = 7 by omega), if_pos (show farC (l.getD 0 0) c < 8 by omega), show farC (l.getD 0 0) c = 7 by omega]; rfl
  | k + 1 => by rw [nrK, nr_87 l c k]; rfl
/-- How far the nearest cells are. -/
theorem nr_all (l : List Int) (c : Int) {d : Int} (hd : d ≤ 8) : ∀ k, (d ≤ (nrK l c 8 k).2 ↔ ∀ j, j < k → d ≤ farC (l.getD j 0) c)
  | 0 => by simp [nrK, hd]
  | k + 1 => by
    have ih := nr_all l c hd k
    have e : (nrK l c 8 (k + 1)).2 = if farC (l.getD k 0) c < (nrK l c 8 k).2 then farC (l.getD k 0) c else (nrK l c 8 k).2 := by
      rw [nrK, nr1]
      split
      · rfl
      · split <;> rfl
    rw [e]
    constructor
    · intro h j hj
      by_cases hjk : j = k
      · subst hjk; split at h <;> omega
      · exact ih.1 (by split at h <;> omega) j (by omega)
    · intro h
      have h1 := ih.2 (fun j hj => h j (by omega))
      have h2 := h k (by omega)
      split <;> omega
def ndS (l : List Int) (c : Nat) : Int := (nrK l (c : Int) 8 l.length).2
theorem ndS_le (l : List Int) (c : Nat) : 0 ≤ ndS l c ∧ ndS l c ≤ 8 := by have := nrK_le l (c : Int) (m := 8) (by omega) l.length; exact ⟨this.1, this.2.1⟩
theorem ndS_at (l : List Int) {c : Int} (h : 0 ≤ c) : (nrK l c 8 l.length).2 = ndS l c.toNat := by unfold ndS; rw [Int.toNat_of_nonneg h]
def cnN (l : List Int) (k : Int) : Nat → Nat
  | 0 => 0
  | c + 1 => cnN l k c + if ndS l c ≤ k then 1 else 0
theorem cnN_le (l : List Int) (k : Int) : ∀ n, cnN l k n ≤ n
  | 0 => Nat.le_refl _
  | n + 1 => by have := cnN_le l k n; unfold cnN; split <;> omega
theorem cnN_yes {l : List Int} {k : Int} {c : Nat} (h : ndS l c ≤ k) : ((cnN l k c : Nat) : Int) + 1 = ((cnN l k (c + 1) : Nat) : Int) := by rw [cnN, if_pos h]; rfl
theorem cnN_no {l : List Int} {k : Int} {c : Nat} (h : ¬ ndS l c ≤ k) : ((cnN l k c : Nat) : Int) = ((cnN l k (c + 1) : Nat) : Int) := by rw [cnN, if_neg h]; rfl
theorem cnN_all (l : List Int) (k : Int) : ∀ n, (cnN l k n = n ↔ ∀ c, c < n → ndS l c ≤ k)
  | 0 => by simp [cnN]
  | n + 1 => by
    have ih := cnN_all l k n
    have hle := cnN_le l k n
    rw [cnN]
    constructor
    · intro h c hc
      by_cases e : c = n
      · subst e
        by_cases h2 : ndS l c ≤ k
        · exact h2
        · rw [if_neg h2] at h; omega
      · exact ih.1 (by split at h <;> omega) c (by omega)
    · intro h
      rw [if_pos (h n (by omega)), ih.2 (fun c hc => h c (by omega))]
/-- The farthest cell. -/
def fthK (l : List Int) (m : Int) : Nat → Int × Int
  | 0 => (0, m)
  | c + 1 => if (fthK l m c).2 < ndS l c then ((c : Int), ndS l c) else fthK l m c
theorem fth_yes {l : List Int} {m : Int} {c : Nat} {s : Int × Int} (h : s = fthK l m c) (hx : s.2 < ndS l c) : ((c : Int), ndS l c) = fthK l m (c + 1) := by
  subst h; rw [fthK, if_pos hx]
theorem fth_no {l : List Int} {m : Int} {c : Nat} {s : Int × Int} (h : s = fthK l m c) (hx : ¬ s.2 < ndS l c) : s = fthK l m (c + 1) := by
  subst h; rw [fthK, if_neg hx]
theorem fth_le (l : List Int) {m : Int} (hm : m ≤ 8) : ∀ n, m ≤ (fthK l m n).2 ∧ (fthK l m n).2 ≤ 8 ∧ 0 ≤ (fthK l m n).1 ∧ (fthK l m n).1 ≤ n
  | 0 => by simp [fthK, hm]
  | n + 1 => by
    have ih := fth_le l hm n
    have := ndS_le l n
    unfold fthK
    split
    · exact ⟨by simp only; omega, this.2, by simp only; omega, by simp only; omega⟩
    · exact ⟨ih.1, ih.2.1, ih.2.2.1, by omega⟩
theorem fth_01 (l : List Int) : ∀ n, fthK l (-1) (n + 1) = fthK l 0 (n + 1)
  | 0 => by
    have := ndS_le l 0
    have e : ∀ m : Int, fthK l m 1 = if m < ndS l 0 then (((0 : Nat) : Int), ndS l 0) else (0, m) := fun m => rfl
    rw [e, e, if_pos (show -1 < ndS l 0 by omega)]
    by_cases h : 0 < ndS l 0
    · rw [if_pos h]
    · rw [if_neg h, show ndS l 0 = 0 by omega]; rfl
  | n + 1 => by rw [fthK, fth_01 l n]; rfl
theorem fth_all (l : List Int) (m k : Int) : ∀ n, ((fthK l m n).2 ≤ k ↔ m ≤ k ∧ ∀ c, c < n → ndS l c ≤ k)
  | 0 => by simp [fthK]
  | n + 1 => by
    have ih := fth_all l m k n
    have e : (fthK l m (n + 1)).2 = if (fthK l m n).2 < ndS l n then ndS l n else (fthK l m n).2 := by
      rw [fthK]; split <;> rfl
    rw [e]
    constructor
    · intro h
      have h1 : (fthK l m n).2 ≤ k := by split at h <;> omega
      have h2 : ndS l n ≤ k := by split at h <;> omega
      refine ⟨(ih.1 h1).1, fun c hc => ?_⟩
      by_cases e : c = n
      · rw [e]; exact h2
      · exact (ih.1 h1).2 c (by omega)
    · intro ⟨h0, h⟩
      have h1 := ih.2 ⟨h0, fun c hc => h c (by omega)⟩
      have h2 := h n (by omega)
      split <;> omega
theorem cov_iff (l : List Int) {k : Int} (hk : 0 ≤ k) : (cnN l k 128 < 128 ↔ k < (fthK l (-1) 128).2) := by
  have h1 := cnN_all l k 128
  have h2 := fth_all l (-1) k 128
  have h3 := cnN_le l k 128
  constructor
  · intro h
    refine Int.not_le.1 fun h4 => ?_
    have := h1.2 (h2.1 h4).2
    omega
  · intro h
    refine Nat.lt_of_le_of_ne h3 fun h4 => ?_
    have := h2.2 ⟨by omega, h1.1 h4⟩
    omega
def flp (l : List Int) (b : Int) : List Int := l.map fun x => ((x.toNat ^^^ b.toNat : Nat) : Int)
theorem flp_len (l : List Int) (b : Int) : (flp l b).length = l.length := by simp [flp]
/-- The greedy code. -/
def okA (d : Int) (L : List Int) (c : Int) : Bool := L.all fun x => decide (d ≤ farC x c)
def grK (d m : Int) : Nat → List Int
  | 0 => []
  | c + 1 => if ((grK d m c).length : Int) < m ∧ okA d (grK d m c) (c : Int) = true then grK d m c ++ [(c : Int)] else grK d m c
theorem grK_len (d : Int) {m : Int} (hm : 0 ≤ m) : ∀ c, ((grK d m c).length : Int) ≤ m
  | 0 => by simp [grK, hm]
  | c + 1 => by
    have ih := grK_len d hm c
    unfold grK
    split
    · simp; omega
    · exact ih
theorem grK_cell (d m : Int) : ∀ c, c ≤ 128 → ∀ x ∈ grK d m c, 0 ≤ x ∧ x ≤ 127
  | 0, _, x, h => by simp [grK] at h
  | c + 1, hc, x, h => by
    unfold grK at h
    split at h
    · rcases List.mem_append.1 h with h | h
      · exact grK_cell d m c (by omega) x h
      · simp only [List.mem_singleton] at h; omega
    · exact grK_cell d m c (by omega) x h
theorem grK_at (d m : Int) {c : Nat} (hc : c ≤ 128) {j : Nat} (hj : j < (grK d m c).length) : 0 ≤ (grK d m c).getD j 0 ∧ (grK d m c).getD j 0 ≤ 127 := by
  have : (grK d m c).getD j 0 = (grK d m c)[j] := by simp [hj]
  rw [this]; exact grK_cell d m c hc _ (List.getElem_mem hj)
theorem grK_full {d m : Int} {c : Nat} (h : ¬ ((grK d m c).length : Int) < m) : ∀ k, grK d m (c + k) = grK d m c
  | 0 => rfl
  | k + 1 => by
    have ih := grK_full h k
    rw [show c + (k + 1) = c + k + 1 from rfl, grK, ih, if_neg (fun e => h e.1)]
theorem okA_iff (d : Int) (L : List Int) (c : Int) : okA d L c = true ↔ ∀ j, j < L.length → d ≤ farC (L.getD j 0) c := by
  unfold okA
  rw [List.all_eq_true]
  constructor
  · intro h j hj
    have := h (L.getD j 0) (by rw [show L.getD j 0 = L[j] by simp [hj]]; exact List.getElem_mem hj)
    exact of_decide_eq_true this
  · intro h x hx
    obtain ⟨j, hj, rfl⟩ := List.getElem_of_mem hx
    have := h j hj
    rw [show L.getD j 0 = L[j] by simp [hj]] at this
    exact decide_eq_true this
theorem okA_nr {d : Int} (hd : d ≤ 8) (L : List Int) (c : Int) : d ≤ (nrK L c 8 L.length).2 ↔ okA d L c = true := (nr_all L c hd L.length).trans (okA_iff d L c).symm

end Go.Proofs.YtfagllolcalfiaaDoor
