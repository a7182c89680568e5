/- Contracts of functions, walked over the pure layer; each says for which arguments. -/
import Derived.Test.YtgpgjaebhfhjoabDoorl1Ty
import Derived.Test.YtgpgjaebhfhjoabDoorTf
namespace Go.Proofs.YtgpgjaebhfhjoabDoor
open Go.RowKit l1Ty
set_option linter.unusedVariables false
set_option linter.unusedSimpArgs false

theorem list_eq_ofI {α : Type} (d : α) (a b : List α) (h : a.length = b.length) (k : ∀ j, j < a.length → a.getD j d = b.getD j d) : a = b := by
  apply List.ext_getElem h
  intro j h1 h2
  have := k j h1
  simpa [h1, h2] using this
theorem take_snocI {α : Type} (d : α) (l : List α) (k : Nat) (h : k < l.length) : l.take (k + 1) = l.take k ++ [l.getD k d] := by
  rw [List.take_succ_eq_append_getElem h]; simp [h]
theorem fill_mapI {α : Type} (f : α → PV) (d : α) (a : List α) {k : Nat} (h : k < a.length) : putAt ((a.take k ++ List.replicate (a.length - k) d).map f) (k * 1) [f (a.getD k d)] = (a.take (k + 1) ++ List.replicate (a.length - (k + 1)) d).map f := by
  rw [put_map1 f _ (by simp; omega), take_snocI d a k h, List.set_append_right _ _ (by simp; omega), show k - (a.take k).length = 0 by simp; omega, show a.length - k = a.length - (k + 1) + 1 by omega, List.replicate_succ, List.set_cons_zero]
  simp
theorem list_ne_ofI {α : Type} (d : α) {a b : List α} (j : Nat) (k : a.getD j d ≠ b.getD j d) : a ≠ b := fun h => k (by rw [h])
def markI (n : Nat) (k : Int) : List Int := (List.range n).map fun (j : Nat) => k + j
theorem markI_len (n : Nat) (k : Int) : (markI n k).length = n := by simp [markI]
theorem markI_get (n : Nat) (k : Int) {j : Nat} (h : j < n) : (markI n k).getD j 0 = k + j := by
  simp [markI, h]
theorem markI_fill (l : List Int) (k : Int) {j : Nat} (h : j < l.length) : putAt ((markI j k ++ l.drop j).map (.int .i64)) (j * 1) [PV.int .i64 (k + j)] = (markI (j + 1) k ++ l.drop (j + 1)).map (.int .i64) := by
  rw [put_map1 (PV.int .i64) _ (by simp [markI]; omega), List.set_append_right _ _ (by simp [markI]), show j - (markI j k).length = 0 by simp [markI], List.drop_eq_getElem_cons h, List.set_cons_zero]
  simp [markI, List.range_succ]

def markO (k : Nat) (o : List UInt8) : List UInt8 := if h : k = 0 then o else markO (k / 10) (UInt8.ofNat (48 + k % 10) :: o)
termination_by k
decreasing_by omega
def markT (k : Int) : List UInt8 := if k ≤ 0 then [109, 48] else 109 :: markO k.toNat []
theorem markO_step {k : Nat} (h : 0 < k) (o : List UInt8) : markO k o = markO (k / 10) (UInt8.ofNat (48 + k % 10) :: o) := by
  rw [markO, dif_neg (by omega)]
theorem markO_zero (o : List UInt8) : markO 0 o = o := by rw [markO, dif_pos rfl]
theorem byte_pv {i : Int} (h0 : 0 ≤ i) (h1 : i < 256) : some (PV.sl 1 (putAt (zeros [.int .u8 0] 1) (0 * 1) (PV.int .u8 (IntKind.u8.wrap i)).cells)) = some (PV.sl 1 (bytesP [UInt8.ofNat i.toNat])) := by
  have : IntKind.u8.wrap i = ((UInt8.ofNat i.toNat).toNat : Int) := by
    have : (UInt8.ofNat i.toNat).toNat = i.toNat := by rw [UInt8.toNat_ofNat']; omega
    rw [this]; simp [IntKind.wrap, IntKind.bits, IntKind.signed]; omega
  rw [this]; rfl
def szS (a : Int) (s : List UInt8) : Int := if a < 0 then -1 else if a - s.length < 0 then -1 else a - s.length
def szF (l : List (List UInt8)) (a : Int) : Int := l.foldl szS a
def szL (l : List (List UInt8)) (left : Int) : Int := if left - l.length < 0 then -1 else szF l (left - l.length)
theorem take_snocD {α : Type} (d : α) (l : List α) (k : Nat) (h : k < l.length) : l.take (k + 1) = l.take k ++ [l.getD k d] := by
  rw [List.take_succ_eq_append_getElem h]; simp [h]
theorem szF_snoc (l : List (List UInt8)) {k : Nat} (h : k < l.length) (a : Int) : szF (l.take (k + 1)) a = if szF (l.take k) a < 0 then -1 else if szF (l.take k) a - (l.getD k []).length < 0 then -1 else szF (l.take k) a - (l.getD k []).length := by
  unfold szF; rw [take_snocD [] l k h, List.foldl_append]; rfl
theorem szF_bad : ∀ (l : List (List UInt8)), szF l (-1) = -1
  | [] => rfl
  | s :: l => by show szF l (szS (-1) s) = -1; rw [show szS (-1) s = -1 from rfl, szF_bad l]
theorem szF_neg (l : List (List UInt8)) (k : Nat) (h : k < l.length) {a : Int} (h0 : 0 ≤ szF (l.take k) a) (h1 : szF (l.take k) a - (l.getD k []).length < 0) : szF l a = -1 := by
  have : szF (l.take (k + 1)) a = -1 := by rw [szF_snoc l h, if_neg (by omega), if_pos h1]
  rw [← List.take_append_drop (k + 1) l]
  unfold szF at this ⊢
  rw [List.foldl_append, this]; exact szF_bad _

set_option maxRecDepth 4000 in
theorem markText_c (k : Int) (hk : k ≤ 1099511627776) : PCalls Tryd.prog 38 [.int .i64 k] (· = [.val (.str (markT k))]) := by
  refine pcalls_of_code (n := 20) az Tryd.func38 (by kernel_rfl) rfl rfl (Nat.le_of_ble_eq_true rfl) (by intro t u h; simp [Tryd.f38] at h) ?_
  refine code_seq (fun K1 hK1 => ?_)
  refine code_region ?_
  refine list_cons rfl (op_q (q_assign rfl (by decide)) ?_)
  refine list_nil ?_
  refine hK1 _ ?_; clear hK1 K1
  refine code_seq (fun K2 hK2 => ?_)
  refine code_seq (fun K3 hK3 => ?_)
  refine code_region ?_
  refine list_cons rfl (op_q (q_move rfl (by decide)) ?_)
  refine list_cons rfl (op_q (q_le rfl rfl (by decide)) ?_)
  refine list_nil ?_
  refine hK3 _ ?_; clear hK3 K3
  refine code_cond_d rfl (fun h1 => ?_) (fun h1 => ?_)
  · skip
    (try simp only [Decidable.not_not] at h1)
    refine code_seq (fun K4 hK4 => ?_)
    refine code_region ?_
    refine list_cons rfl (op_q (q_assign rfl (by decide)) ?_)
    refine list_nil ?_
    refine hK4 _ ?_; clear hK4 K4
    refine code_ret ?_
    refine then_r ?_; clear hK2 K2
    refine ends_ret (cs := []) rfl rfl rfl rfl trivial ?_
    rw [markT, if_pos h1]
  (try simp only [Decidable.not_not] at h1)
  refine code_skip ?_
  refine hK2 _ ?_; clear hK2 K2
  refine code_seq (fun K5 hK5 => ?_)
  refine code_region ?_
  refine list_cons rfl (op_q (q_assign rfl (by decide)) ?_)
  refine list_nil ?_
  refine hK5 _ ?_; clear hK5 K5
  refine code_seq (fun K6 hK6 => ?_)
  refine code_block ?_
  refine code_loop (X := Int × List UInt8 × List UInt8) (fun x => [(0, .val (.int .i64 x.1)), (2, .val (.str x.2.1)), (3, .val (.str x.2.2))]) (fun x => 0 ≤ x.1 ∧ x.1.toNat ≤ k.toNat ∧ x.2.2.length + x.1.toNat ≤ k.toNat ∧ markO x.1.toNat x.2.2 = markO k.toNat []) (fun x => x.1.toNat) (_, _, _) (imp_covers ⟨rfl, rfl, rfl, trivial⟩) ?_ ?_
  · (try dsimp only)
    refine ⟨by omega, by omega, by simp, rfl⟩
  · intro x hI
    obtain ⟨k_, t2, out⟩ := x
    replace hI : 0 ≤ k_ ∧ k_.toNat ≤ k.toNat ∧ out.length + k_.toNat ≤ k.toNat ∧ markO k_.toNat out = markO k.toNat [] := hI
    show codeT _ _ _ [(0, .val (.int .i64 k_)), (2, .val (.str t2)), (3, .val (.str out))] _
    obtain ⟨i1, i2, i3, i4⟩ := hI
    refine code_seq (fun K7 hK7 => ?_)
    refine code_seq (fun K8 hK8 => ?_)
    refine code_region ?_
    refine list_cons rfl (op_q (q_move rfl (by decide)) ?_)
    refine list_cons rfl (op_q (q_gt rfl rfl (by decide)) ?_)
    refine list_nil ?_
    refine hK8 _ ?_; clear hK8 K8
    refine code_cond_d rfl (fun h2 => ?_) (fun h2 => ?_)
    · skip
      (try simp only [Decidable.not_not] at h2)
      refine code_skip ?_
      refine hK7 _ ?_; clear hK7 K7
      refine code_block ?_
      refine code_seq (fun K9 hK9 => ?_)
      refine code_region ?_
      refine list_cons rfl (op_q (q_move rfl (by decide)) ?_)
      refine list_cons rfl (op_q (by first | exact q_remI rfl rfl (by decide) (by omega) (by omega) | exact q_rem rfl rfl (by omega) (by decide)) ?_)
      refine list_cons rfl (op_q (by first | exact q_addI rfl rfl (by decide) (by omega) (by omega) | exact q_ib rfl rfl rfl (by decide)) ?_)
      refine list_cons rfl (op_q (q_conv (by rw [Tryd.underlying3]; rfl) Tryd.underlying5 rfl (by decide)) ?_)
      refine list_cons rfl (op_buildSlice sl_34 (parts := [(0, .tmp 11)]) rfl rfl rfl (by decide) (by decide) (by decide) rfl ?_)
      refine list_cons rfl (op_q (q_bytes_str (bs := [UInt8.ofNat (48 + k_ % 10).toNat]) Tryd.underlying34 Tryd.underlying5 Tryd.underlying9 rfl (byte_pv (by omega) (by omega)) rfl (by decide)) ?_)
      refine list_cons rfl (op_q (q_move rfl (by decide)) ?_)
      refine list_cons rfl (op_q (q_cat rfl rfl (by first | omega | (simp only [List.length_append, List.length_cons, List.length_nil]; omega) | (simp; omega)) (by decide)) ?_)
      refine list_cons rfl (op_q (q_assign rfl (by decide)) ?_)
      refine list_nil ?_
      refine hK9 _ ?_; clear hK9 K9
      refine codeT.imp (σ' := [(0, _), (2, _), (3, _)]) ?_ (imp_covers ⟨rfl, rfl, rfl, trivial⟩)
      refine code_region ?_
      refine list_cons rfl (op_q (q_move rfl (by decide)) ?_)
      refine list_cons rfl (op_q (by first | exact q_quoI rfl rfl (by decide) (by omega) (by omega) (by omega) | exact q_quoT rfl rfl (by omega) (by decide) (by omega) (by omega) | exact q_quo rfl rfl (by omega) (by decide)) ?_)
      refine list_cons rfl (op_q (q_assign rfl (by decide)) ?_)
      refine list_nil ?_
      refine blk_n ?_
      refine then_n ⟨(_, _, _), imp_covers ⟨rfl, rfl, rfl, trivial⟩, ?_, ?_⟩
      · (try dsimp only)
        refine ⟨by omega, by omega, by simp; omega, ?_⟩
        rw [← i4, markO_step (k := k_.toNat) (by omega)]
        rw [show (k_ / 10).toNat = k_.toNat / 10 by omega, show (48 + k_ % 10).toNat = 48 + k_.toNat % 10 by omega]; rfl
      · (try dsimp only); omega
    (try simp only [Decidable.not_not] at h2)
    refine code_exit ?_
    refine then_x ?_; clear hK7 K7
    refine then_x ?_
    refine blk_hit ?_
    refine hK6 _ ?_; clear hK6 K6
    refine code_seq (fun K10 hK10 => ?_)
    refine code_region ?_
    refine list_cons rfl (op_q (q_move rfl (by decide)) ?_)
    refine list_cons rfl (op_q (q_cat rfl rfl (by first | omega | (simp only [List.length_append, List.length_cons, List.length_nil]; omega) | (simp; omega)) (by decide)) ?_)
    refine list_cons rfl (op_q (q_assign rfl (by decide)) ?_)
    refine list_nil ?_
    refine hK10 _ ?_; clear hK10 K10
    refine code_ret ?_
    refine ends_ret (cs := []) rfl rfl rfl rfl trivial ?_
    rw [markT, if_neg h1, ← i4, show k_.toNat = 0 by omega, markO_zero]; rfl

theorem list_eq_of {α : Type} (d : α) (a b : List α) (h : a.length = b.length) (k : ∀ j, j < a.length → a.getD j d = b.getD j d) : a = b := by
  apply List.ext_getElem h
  intro j h1 h2
  have := k j h1
  simpa [h1, h2] using this
theorem fill_map1 {α : Type} (f : α → PV) (d : α) (a : List α) {k : Nat} (h : k < a.length) : putAt ((a.take k ++ List.replicate (a.length - k) d).map f) (k * 1) [f (a.getD k d)] = (a.take (k + 1) ++ List.replicate (a.length - (k + 1)) d).map f := by
  rw [put_map1 f _ (by simp; omega), take_snocD d a k h, List.set_append_right _ _ (by simp; omega), show k - (a.take k).length = 0 by simp; omega, show a.length - k = a.length - (k + 1) + 1 by omega, List.replicate_succ, List.set_cons_zero]
  simp
theorem list_ne_of {α : Type} (d : α) {a b : List α} (j : Nat) (k : a.getD j d ≠ b.getD j d) : a ≠ b := fun h => k (by rw [h])

set_option maxRecDepth 4000 in
theorem eqStringS_c (a b : List (List UInt8)) (ha : a.length ≤ 1099511627776) : PCalls Tryd.prog 9 [.sl a.length (a.map .str), .sl b.length (b.map .str)] (· = [.val (.bool (decide (a = b)))]) := by
  refine pcalls_of_code (n := 26) az Tryd.func9 (by kernel_rfl) rfl rfl (Nat.le_of_ble_eq_true rfl) (by intro t u h; simp [Tryd.f9] at h) ?_
  refine code_seq (fun K1 hK1 => ?_)
  refine code_region ?_
  refine list_cons rfl (op_q (q_assign rfl (by decide)) ?_)
  refine list_nil ?_
  refine hK1 _ ?_; clear hK1 K1
  refine code_seq (fun K2 hK2 => ?_)
  refine code_seq (fun K3 hK3 => ?_)
  refine code_region ?_
  refine list_cons rfl (op_q (q_move rfl (by decide)) ?_)
  refine list_cons rfl (op_q (q_len_sl Tryd.underlying22 rfl rfl (by decide)) ?_)
  refine list_cons rfl (op_q (q_move rfl (by decide)) ?_)
  refine list_cons rfl (op_q (q_len_sl Tryd.underlying22 rfl rfl (by decide)) ?_)
  refine list_cons rfl (op_q (q_ne rfl rfl (by decide)) ?_)
  refine list_nil ?_
  refine hK3 _ ?_; clear hK3 K3
  refine code_cond_d rfl (fun h1 => ?_) (fun h1 => ?_)
  · skip
    (try simp only [Decidable.not_not] at h1)
    refine code_seq (fun K4 hK4 => ?_)
    refine code_region ?_
    refine list_cons rfl (op_q (q_assign rfl (by decide)) ?_)
    refine list_nil ?_
    refine hK4 _ ?_; clear hK4 K4
    refine code_ret ?_
    refine then_r ?_; clear hK2 K2
    refine ends_ret (cs := []) rfl rfl rfl rfl trivial ?_
    rw [decide_eq_false (fun e => h1 (by rw [e]))]
  (try simp only [Decidable.not_not] at h1)
  refine code_skip ?_
  refine hK2 _ ?_; clear hK2 K2
  refine code_seq (fun K5 hK5 => ?_)
  refine code_seq (fun K6 hK6 => ?_)
  refine code_region ?_
  refine list_cons rfl (op_q (q_assign rfl (by decide)) ?_)
  refine list_nil ?_
  refine hK6 _ ?_; clear hK6 K6
  refine code_block ?_
  refine code_loop (X := Bool × Int) (fun x => [(0, .par 0 (.sl a.length (a.map .str))), (1, .par 1 (.sl b.length (b.map .str))), (4, .val (.bool x.1)), (5, .val (.int .i64 x.2))]) (fun x => 0 ≤ x.2 ∧ x.2 ≤ a.length ∧ ∀ j, j < x.2.toNat → a.getD j [] = b.getD j []) (fun x => a.length - x.2.toNat) (_, _) (imp_covers ⟨rfl, rfl, rfl, rfl, trivial⟩) ?_ ?_
  · (try dsimp only)
    refine ⟨by omega, by omega, fun j hj => by simp at hj⟩
  · intro x hI
    obtain ⟨t4, i⟩ := x
    replace hI : 0 ≤ i ∧ i ≤ a.length ∧ ∀ j, j < i.toNat → a.getD j [] = b.getD j [] := hI
    show codeT _ _ _ [(0, .par 0 (.sl a.length (a.map .str))), (1, .par 1 (.sl b.length (b.map .str))), (4, .val (.bool t4)), (5, .val (.int .i64 i))] _
    obtain ⟨i1, i2, i3⟩ := hI
    refine code_seq (fun K7 hK7 => ?_)
    refine code_seq (fun K8 hK8 => ?_)
    refine code_region ?_
    refine list_cons rfl (op_q (q_move rfl (by decide)) ?_)
    refine list_cons rfl (op_q (q_move rfl (by decide)) ?_)
    refine list_cons rfl (op_q (q_len_sl Tryd.underlying22 rfl rfl (by decide)) ?_)
    refine list_cons rfl (op_q (q_lt rfl rfl (by decide)) ?_)
    refine list_nil ?_
    refine hK8 _ ?_; clear hK8 K8
    refine code_cond_d rfl (fun h2 => ?_) (fun h2 => ?_)
    · skip
      (try simp only [Decidable.not_not] at h2)
      refine code_skip ?_
      refine hK7 _ ?_; clear hK7 K7
      refine code_seq (fun K9 hK9 => ?_)
      refine code_block ?_
      refine code_seq (fun K10 hK10 => ?_)
      refine code_draw (by kernel_rfl) (by kernel_rfl) ?_
      refine draw_q rfl (q_move rfl (by decide)) ?_
      refine draw_q rfl (q_move rfl (by decide)) ?_
      refine draw_q rfl (q_indexAddr_rd sl_22 rfl (.inl ⟨_, rfl, rfl⟩) rfl (by omega) (by omega) (by decide)) ?_
      refine draw_q rfl (q_load_rd one_9 rfl (.inl ⟨_, (by first | rfl | exact congrArg (SV.rpar _) (drop_map1 _ [] _ (by first | omega | (simp; omega)))), rfl⟩) (by decide)) ?_
      refine draw_q rfl (q_move rfl (by decide)) ?_
      refine draw_q rfl (q_move rfl (by decide)) ?_
      refine draw_q rfl (q_indexAddr_rd sl_22 rfl (.inl ⟨_, rfl, rfl⟩) rfl (by omega) (by omega) (by decide)) ?_
      refine draw_q rfl (q_load_rd one_9 rfl (.inl ⟨_, (by first | rfl | exact congrArg (SV.rpar _) (drop_map1 _ [] _ (by first | omega | (simp; omega)))), rfl⟩) (by decide)) ?_
      refine draw_q rfl (q_sne rfl rfl (by decide)) ?_
      refine draw_nil ?_
      refine hK10 _ ?_; clear hK10 K10
      refine codeT.imp (σ' := [(0, _), (1, _), (4, _), (5, _), (25, _)]) ?_ (imp_covers ⟨rfl, rfl, rfl, rfl, rfl, trivial⟩)
      refine code_cond_d rfl (fun h3 => ?_) (fun h3 => ?_)
      · skip
        (try simp only [Decidable.not_not] at h3)
        refine code_seq (fun K11 hK11 => ?_)
        refine code_region ?_
        refine list_cons rfl (op_q (q_assign rfl (by decide)) ?_)
        refine list_nil ?_
        refine hK11 _ ?_; clear hK11 K11
        refine code_ret ?_
        refine blk_r ?_
        refine then_r ?_; clear hK9 K9
        refine then_r ?_
        refine blk_r ?_
        refine then_r ?_; clear hK5 K5
        refine ends_ret (cs := []) rfl rfl rfl rfl trivial ?_
        rw [decide_eq_false (list_ne_of [] _ h3)]
      (try simp only [Decidable.not_not] at h3)
      refine code_skip ?_
      refine blk_n ?_
      refine hK9 _ ?_; clear hK9 K9
      refine code_region ?_
      refine list_cons rfl (op_q (q_move rfl (by decide)) ?_)
      refine list_cons rfl (op_q (by first | exact q_addI rfl rfl (by decide) (by omega) (by omega) | exact q_ib rfl rfl rfl (by decide)) ?_)
      refine list_cons rfl (op_q (q_assign rfl (by decide)) ?_)
      refine list_nil ?_
      refine then_n ⟨(_, _), imp_covers ⟨rfl, rfl, rfl, rfl, trivial⟩, ?_, ?_⟩
      · (try dsimp only)
        refine ⟨by omega, by omega, fun j hj => ?_⟩
        by_cases e : j = i.toNat
        · subst e; exact h3
        · exact i3 j (by omega)
      · (try dsimp only); omega
    (try simp only [Decidable.not_not] at h2)
    refine code_exit ?_
    refine then_x ?_; clear hK7 K7
    refine then_x ?_
    refine blk_hit ?_
    refine hK5 _ ?_; clear hK5 K5
    refine code_seq (fun K12 hK12 => ?_)
    refine code_region ?_
    refine list_cons rfl (op_q (q_assign rfl (by decide)) ?_)
    refine list_nil ?_
    refine hK12 _ ?_; clear hK12 K12
    refine code_ret ?_
    refine ends_ret (cs := []) rfl rfl rfl rfl trivial ?_
    rw [decide_eq_true (list_eq_of [] a b (by omega) fun j hj => i3 j (by omega))]

def markL (n : Nat) (k : Int) : List (List UInt8) := (List.range n).map fun (j : Nat) => markT (k + j)
theorem markL_len (n : Nat) (k : Int) : (markL n k).length = n := by simp [markL]
theorem markL_get (n : Nat) (k : Int) {j : Nat} (h : j < n) : (markL n k).getD j [] = markT (k + j) := by
  simp [markL, h]
theorem markL_fill (l : List (List UInt8)) (k : Int) {j : Nat} (h : j < l.length) : putAt ((markL j k ++ l.drop j).map .str) (j * 1) [PV.str (markT (k + j))] = (markL (j + 1) k ++ l.drop (j + 1)).map .str := by
  rw [put_map1 PV.str _ (by simp [markL]; omega), List.set_append_right _ _ (by simp [markL]), show j - (markL j k).length = 0 by simp [markL], List.drop_eq_getElem_cons h, List.set_cons_zero]
  simp [markL, List.range_succ]

set_option maxRecDepth 4000 in
theorem markStringS_c (l : List (List UInt8)) (k : Int) (hl : l.length ≤ 1099511627) (p0 : -1099511627 ≤ k) (p1 : k ≤ 1099511627) : MCalls Tryd.prog 10 false (some (.own 9 1 l.length (l.map .str))) [.int .i64 k] fun rs cs => rs = [.val (.int .i64 (k + l.length))] ∧ cs = (markL l.length k).map .str := by
  refine mcalls_of_code (n := 20) az Tryd.func10 (by kernel_rfl) rfl rfl (Nat.le_of_ble_eq_true rfl) (by intro t u h; simp [Tryd.f10] at h) ?_
  refine code_seq (fun K1 hK1 => ?_)
  refine code_region ?_
  refine list_cons rfl (op_q (q_assign rfl (by decide)) ?_)
  refine list_nil ?_
  refine hK1 _ ?_; clear hK1 K1
  refine code_seq (fun K2 hK2 => ?_)
  refine code_seq (fun K3 hK3 => ?_)
  refine code_region ?_
  refine list_cons rfl (op_q (q_assign rfl (by decide)) ?_)
  refine list_nil ?_
  refine hK3 _ ?_; clear hK3 K3
  refine code_block ?_
  refine code_loop (X := Nat × List PV × Int × Int × Int) (fun x => [(0, .own 2000 9 1 x.1 x.2.1), (1, .val (.int .i64 x.2.2.1)), (4, .val (.int .i64 x.2.2.2.1)), (5, .val (.int .i64 x.2.2.2.2))]) (fun x => 0 ≤ x.2.2.2.2 ∧ x.2.2.2.2 ≤ l.length ∧ x.2.2.1 = k + x.2.2.2.2 ∧ x.1 = l.length ∧ x.2.1 = (markL x.2.2.2.2.toNat k ++ l.drop x.2.2.2.2.toNat).map .str) (fun x => l.length - x.2.2.2.2.toNat) (_, _, _, _, _) (imp_covers ⟨rfl, rfl, rfl, rfl, trivial⟩) ?_ ?_
  · (try dsimp only)
    refine ⟨by omega, by omega, by omega, rfl, rfl⟩
  · intro x hI
    obtain ⟨a_n, a_c, k_, t4, i⟩ := x
    replace hI : 0 ≤ i ∧ i ≤ l.length ∧ k_ = k + i ∧ a_n = l.length ∧ a_c = (markL i.toNat k ++ l.drop i.toNat).map .str := hI
    show codeT _ _ _ [(0, .own 2000 9 1 a_n a_c), (1, .val (.int .i64 k_)), (4, .val (.int .i64 t4)), (5, .val (.int .i64 i))] _
    obtain ⟨i1, i2, rfl, rfl, rfl⟩ := hI
    have i7 := markL_len i.toNat k
    refine code_seq (fun K4 hK4 => ?_)
    refine code_seq (fun K5 hK5 => ?_)
    refine code_region ?_
    refine list_cons rfl (op_q (q_move rfl (by decide)) ?_)
    refine list_cons rfl (op_q (q_move rfl (by decide)) ?_)
    refine list_cons rfl (op_q (q_len_sl Tryd.underlying22 rfl rfl (by decide)) ?_)
    refine list_cons rfl (op_q (q_lt rfl rfl (by decide)) ?_)
    refine list_nil ?_
    refine hK5 _ ?_; clear hK5 K5
    refine code_cond_d rfl (fun h1 => ?_) (fun h1 => ?_)
    · skip
      (try simp only [Decidable.not_not] at h1)
      refine code_skip ?_
      refine hK4 _ ?_; clear hK4 K4
      refine code_seq (fun K6 hK6 => ?_)
      refine code_block ?_
      refine code_seq (fun K7 hK7 => ?_)
      refine code_region ?_
      refine list_cons rfl (op_q (q_move rfl (by decide)) ?_)
      refine list_cons rfl (op_q (q_move rfl (by decide)) ?_)
      refine list_cons rfl (op_q (q_move rfl (by decide)) ?_)
      refine list_cons rfl (op_call _ (markText_c _ (by omega)) rfl rfl (by decide) (by decide) (by decide) rfl ?_)
      rintro _ rfl
      refine list_cons rfl (op_q (q_indexAddr_own sl_22 rfl rfl (by omega) (by omega) (by decide)) ?_)
      refine list_cons rfl (op_store (one_9).2 0 [0, 7, 12] (by intro t ht; simp only [List.mem_cons, List.not_mem_nil, or_false] at ht; rcases ht with rfl | rfl | rfl <;> rfl) (.inl rfl) rfl rfl rfl rfl rfl rfl (by first | decide | omega | exact Nat.le_refl _ | (simp; done) | (simp; omega)) (by decide) rfl ?_)
      refine list_nil ?_
      refine hK7 _ ?_; clear hK7 K7
      refine codeT.imp (σ' := [(0, _), (1, _), (4, _), (5, _)]) ?_ (imp_covers ⟨rfl, rfl, rfl, rfl, trivial⟩)
      refine code_region ?_
      refine list_cons rfl (op_q (q_move rfl (by decide)) ?_)
      refine list_cons rfl (op_q (by first | exact q_addI rfl rfl (by decide) (by omega) (by omega) | exact q_ib rfl rfl rfl (by decide)) ?_)
      refine list_cons rfl (op_q (q_assign rfl (by decide)) ?_)
      refine list_nil ?_
      refine blk_n ?_
      refine hK6 _ ?_; clear hK6 K6
      refine code_region ?_
      refine list_cons rfl (op_q (q_move rfl (by decide)) ?_)
      refine list_cons rfl (op_q (by first | exact q_addI rfl rfl (by decide) (by omega) (by omega) | exact q_ib rfl rfl rfl (by decide)) ?_)
      refine list_cons rfl (op_q (q_assign rfl (by decide)) ?_)
      refine list_nil ?_
      refine then_n ⟨(_, _, _, _, _), imp_covers ⟨rfl, rfl, rfl, rfl, trivial⟩, ?_, ?_⟩
      · (try dsimp only)
        refine ⟨by omega, by omega, by omega, rfl, ?_⟩
        rw [show (i + 1).toNat = i.toNat + 1 by omega, ← markL_fill l k (by omega), show ((i.toNat : Nat) : Int) = i by omega]; rfl
      · (try dsimp only); omega
    (try simp only [Decidable.not_not] at h1)
    refine code_exit ?_
    refine then_x ?_; clear hK4 K4
    refine then_x ?_
    refine blk_hit ?_
    refine hK2 _ ?_; clear hK2 K2
    refine code_seq (fun K8 hK8 => ?_)
    refine code_region ?_
    refine list_cons rfl (op_q (q_move rfl (by decide)) ?_)
    refine list_cons rfl (op_q (q_assign rfl (by decide)) ?_)
    refine list_nil ?_
    refine hK8 _ ?_; clear hK8 K8
    refine code_ret ?_
    refine ends_ret (cs := _) rfl rfl rfl rfl rfl ?_
    exact ⟨by rw [show i = l.length by omega], by rw [show i.toNat = l.length by omega, List.drop_length, List.append_nil]⟩

set_option maxRecDepth 4000 in
theorem heldStringS_c (n : Nat) (k : Int) (hl : n ≤ 1099511627) (p0 : -1099511627 ≤ k) (p1 : k ≤ 1099511627) : PCalls Tryd.prog 11 [.sl n ((markL n k).map .str), .int .i64 k] (· = [.val (.int .i64 (k + n))]) := by
  refine pcalls_of_code (n := 22) az Tryd.func11 (by kernel_rfl) rfl rfl (Nat.le_of_ble_eq_true rfl) (by intro t u h; simp [Tryd.f11] at h) ?_
  have hL := markL_len n k
  refine code_seq (fun K1 hK1 => ?_)
  refine code_region ?_
  refine list_cons rfl (op_q (q_assign rfl (by decide)) ?_)
  refine list_nil ?_
  refine hK1 _ ?_; clear hK1 K1
  refine code_seq (fun K2 hK2 => ?_)
  refine code_seq (fun K3 hK3 => ?_)
  refine code_region ?_
  refine list_cons rfl (op_q (q_assign rfl (by decide)) ?_)
  refine list_nil ?_
  refine hK3 _ ?_; clear hK3 K3
  refine code_block ?_
  refine code_loop (X := Int × Int × Int) (fun x => [(0, .par 0 (.sl n ((markL n k).map .str))), (1, .val (.int .i64 x.1)), (4, .val (.int .i64 x.2.1)), (5, .val (.int .i64 x.2.2))]) (fun x => 0 ≤ x.2.2 ∧ x.2.2 ≤ n ∧ x.1 = k + x.2.2) (fun x => n - x.2.2.toNat) (_, _, _) (imp_covers ⟨rfl, rfl, rfl, rfl, trivial⟩) ?_ ?_
  · (try dsimp only)
    refine ⟨by omega, by omega, by omega⟩
  · intro x hI
    obtain ⟨k_, t4, i⟩ := x
    replace hI : 0 ≤ i ∧ i ≤ n ∧ k_ = k + i := hI
    show codeT _ _ _ [(0, .par 0 (.sl n ((markL n k).map .str))), (1, .val (.int .i64 k_)), (4, .val (.int .i64 t4)), (5, .val (.int .i64 i))] _
    obtain ⟨i1, i2, rfl⟩ := hI
    refine code_seq (fun K4 hK4 => ?_)
    refine code_seq (fun K5 hK5 => ?_)
    refine code_region ?_
    refine list_cons rfl (op_q (q_move rfl (by decide)) ?_)
    refine list_cons rfl (op_q (q_move rfl (by decide)) ?_)
    refine list_cons rfl (op_q (q_len_sl Tryd.underlying22 rfl rfl (by decide)) ?_)
    refine list_cons rfl (op_q (q_lt rfl rfl (by decide)) ?_)
    refine list_nil ?_
    refine hK5 _ ?_; clear hK5 K5
    refine code_cond_d rfl (fun h1 => ?_) (fun h1 => ?_)
    · skip
      (try simp only [Decidable.not_not] at h1)
      refine code_skip ?_
      refine hK4 _ ?_; clear hK4 K4
      refine code_seq (fun K6 hK6 => ?_)
      refine code_block ?_
      refine code_seq (fun K7 hK7 => ?_)
      refine code_seq (fun K8 hK8 => ?_)
      refine code_draw (by kernel_rfl) (by kernel_rfl) ?_
      refine draw_q rfl (q_move rfl (by decide)) ?_
      refine draw_q rfl (q_move rfl (by decide)) ?_
      refine draw_q rfl (q_indexAddr_rd sl_22 rfl (.inl ⟨_, rfl, rfl⟩) rfl (by omega) (by omega) (by decide)) ?_
      refine draw_q rfl (q_load_rd one_9 rfl (.inl ⟨_, (by first | rfl | exact congrArg (SV.rpar _) (drop_map1 _ [] _ (by first | omega | (simp; omega)))), rfl⟩) (by decide)) ?_
      refine draw_q rfl (q_move rfl (by decide)) ?_
      refine draw_call _ (markText_c _ (by omega)) rfl rfl rfl (by decide) ?_
      refine draw_q rfl (q_sne rfl rfl (by decide)) ?_
      refine draw_nil ?_
      refine hK8 _ ?_; clear hK8 K8
      refine codeT.imp (σ' := [(0, _), (1, _), (4, _), (5, _), (18, _)]) ?_ (imp_covers ⟨rfl, rfl, rfl, rfl, rfl, trivial⟩)
      refine code_cond_d rfl (fun h2 => ?_) (fun h2 => ?_)
      · skip
        (try simp only [Decidable.not_not] at h2)
        refine code_seq (fun K9 hK9 => ?_)
        refine code_region ?_
        refine list_cons rfl (op_q (q_assign rfl (by decide)) ?_)
        refine list_nil ?_
        refine hK9 _ ?_; clear hK9 K9
        refine code_ret ?_
        refine then_r ?_; clear hK7 K7
        refine blk_r ?_
        refine then_r ?_; clear hK6 K6
        refine then_r ?_
        refine blk_r ?_
        refine then_r ?_; clear hK2 K2
        refine ends_ret (cs := []) rfl rfl rfl rfl trivial ?_
        exact absurd (by rw [markL_get n k (by omega), show ((i.toNat : Nat) : Int) = i by omega]) h2
      (try simp only [Decidable.not_not] at h2)
      refine code_skip ?_
      refine hK7 _ ?_; clear hK7 K7
      refine code_region ?_
      refine list_cons rfl (op_q (q_move rfl (by decide)) ?_)
      refine list_cons rfl (op_q (by first | exact q_addI rfl rfl (by decide) (by omega) (by omega) | exact q_ib rfl rfl rfl (by decide)) ?_)
      refine list_cons rfl (op_q (q_assign rfl (by decide)) ?_)
      refine list_nil ?_
      refine blk_n ?_
      refine hK6 _ ?_; clear hK6 K6
      refine code_region ?_
      refine list_cons rfl (op_q (q_move rfl (by decide)) ?_)
      refine list_cons rfl (op_q (by first | exact q_addI rfl rfl (by decide) (by omega) (by omega) | exact q_ib rfl rfl rfl (by decide)) ?_)
      refine list_cons rfl (op_q (q_assign rfl (by decide)) ?_)
      refine list_nil ?_
      refine then_n ⟨(_, _, _), imp_covers ⟨rfl, rfl, rfl, rfl, trivial⟩, ?_, ?_⟩
      · (try dsimp only)
        refine ⟨by omega, by omega, by omega⟩
      · (try dsimp only); omega
    (try simp only [Decidable.not_not] at h1)
    refine code_exit ?_
    refine then_x ?_; clear hK4 K4
    refine then_x ?_
    refine blk_hit ?_
    refine hK2 _ ?_; clear hK2 K2
    refine code_seq (fun K10 hK10 => ?_)
    refine code_region ?_
    refine list_cons rfl (op_q (q_move rfl (by decide)) ?_)
    refine list_cons rfl (op_q (q_assign rfl (by decide)) ?_)
    refine list_nil ?_
    refine hK10 _ ?_; clear hK10 K10
    refine code_ret ?_
    refine ends_ret (cs := []) rfl rfl rfl rfl trivial ?_
    rw [show i = n by omega]

def digT : List Int := [63, 6, 91, 79, 102, 109, 125, 7, 127, 111]
def digOf (c : Int) : Int := if c = 63 then 0 else if c = 6 then 1 else if c = 91 then 2 else if c = 79 then 3 else if c = 102 then 4 else if c = 109 then 5 else if c = 125 then 6 else if c = 7 then 7 else if c = 127 then 8 else if c = 111 then 9 else -1
theorem digOf_at {d : Int} {c : Int} (h0 : 0 ≤ d) (h1 : d ≤ 9) (h : digT.getD d.toNat 0 = c) : digOf c = d := by
  have : d = 0 ∨ d = 1 ∨ d = 2 ∨ d = 3 ∨ d = 4 ∨ d = 5 ∨ d = 6 ∨ d = 7 ∨ d = 8 ∨ d = 9 := by omega
  subst h
  rcases this with rfl | rfl | rfl | rfl | rfl | rfl | rfl | rfl | rfl | rfl <;> rfl
theorem digOf_none {c : Int} (h : ∀ j : Nat, j < 10 → digT.getD j 0 ≠ c) : digOf c = -1 := by
  have k0 := h 0 (by omega); have k1 := h 1 (by omega); have k2 := h 2 (by omega); have k3 := h 3 (by omega); have k4 := h 4 (by omega)
  have k5 := h 5 (by omega); have k6 := h 6 (by omega); have k7 := h 7 (by omega); have k8 := h 8 (by omega); have k9 := h 9 (by omega)
  simp [digT] at k0 k1 k2 k3 k4 k5 k6 k7 k8 k9
  unfold digOf
  repeat rw [if_neg (by omega)]
theorem digOf_le (c : Int) : -1 ≤ digOf c ∧ digOf c ≤ 9 := by
  unfold digOf
  repeat' split
  all_goals omega
def RowP (l : List Int) : Prop := l.length ≤ 6 ∧ ∀ x ∈ l, 0 ≤ x ∧ x ≤ 127
instance (l : List Int) : Decidable (RowP l) := by unfold RowP; infer_instance
theorem RowP.at {l : List Int} (h : RowP l) {j : Nat} (hj : j < l.length) : 0 ≤ l.getD j 0 ∧ l.getD j 0 ≤ 127 := by
  have : l.getD j 0 = l[j] := by simp [hj]
  rw [this]; exact h.2 _ (List.getElem_mem hj)
theorem RowP.of {l : List Int} (h0 : l.length ≤ 6) (h : ∀ j, j < l.length → 0 ≤ l.getD j 0 ∧ l.getD j 0 ≤ 127) : RowP l := ⟨h0, fun x hx => by
  obtain ⟨j, hj, rfl⟩ := List.getElem_of_mem hx
  have := h j hj
  simpa [hj] using this⟩
def cnt7 (n : Nat) : Nat := n % 2 + n / 2 % 2 + n / 4 % 2 + n / 8 % 2 + n / 16 % 2 + n / 32 % 2 + n / 64 % 2
def turn7 (n : Nat) : Nat := n / 8 % 2 + 2 * (n / 16 % 2) + 4 * (n / 32 % 2) + 8 * (n % 2) + 16 * (n / 2 % 2) + 32 * (n / 4 % 2) + 64 * (n / 64 % 2)
def mir7 (n : Nat) : Nat := n % 2 + 2 * (n / 32 % 2) + 4 * (n / 16 % 2) + 8 * (n / 8 % 2) + 16 * (n / 4 % 2) + 32 * (n / 2 % 2) + 64 * (n / 64 % 2)
def bars7 (n : Nat) : List UInt8 := ((List.range 7).filter (fun k => Nat.beq (n / 2 ^ k % 2) 1)).map fun k => UInt8.ofNat (97 + k)

set_option maxRecDepth 100000 in
theorem spec_l2Count (c : Int) (h0 : 0 ≤ c) (h1 : c ≤ 127) : PCalls Tryd.prog 71 [.int .i64 c] (· = [.val (.int .i64 (((cnt7 c.toNat : Nat) : Int)))]) := by
  have h := below_int (p := fun i => oneInt (crun Tf.tf noExt 200 6 71 [.int .i64 (Int.ofNat i)]) (((cnt7 i : Nat) : Int))) (k := 128) (by kernel_rfl) h0 (by omega)
  have e : Int.ofNat c.toNat = c := Int.toNat_of_nonneg h0
  rw [e] at h
  exact pcalls_run Tf.tf (oneInt_ok h)

theorem foldl_take {α β : Type} (f : β → α → β) (d : α) (l : List α) (b : β) {k : Nat} (h : k < l.length) : (l.take (k + 1)).foldl f b = f ((l.take k).foldl f b) (l.getD k d) := by
  rw [take_snocI d l k h, List.foldl_append]; rfl
theorem map_take {α β : Type} (f : α → β) (d : α) (l : List α) {k : Nat} (h : k < l.length) : (l.take (k + 1)).map f = (l.take k).map f ++ [f (l.getD k d)] := by
  rw [take_snocI d l k h, List.map_append]; rfl
theorem rev_drop {α : Type} (d : α) (l : List α) {k : Nat} (h : k < l.length) : (l.drop k).reverse = (l.drop (k + 1)).reverse ++ [l.getD k d] := by
  rw [List.drop_eq_getElem_cons h, List.reverse_cons]; simp [h]
theorem xor7 {a b : Int} (ha : 0 ≤ a ∧ a ≤ 127) (hb : 0 ≤ b ∧ b ≤ 127) : ((a.toNat ^^^ b.toNat : Nat) : Int) ≤ 127 := by
  have := @Nat.xor_lt_two_pow a.toNat b.toNat 7 (by omega) (by omega)
  omega
theorem cnt7_le (n : Nat) : cnt7 n ≤ 7 := by unfold cnt7; omega
theorem turn7_le (n : Nat) : turn7 n ≤ 127 := by unfold turn7; omega
theorem mir7_le (n : Nat) : mir7 n ≤ 127 := by unfold mir7; omega
def turnC (x : Int) : Int := ((turn7 x.toNat : Nat) : Int)
def mirC (x : Int) : Int := ((mir7 x.toNat : Nat) : Int)
theorem turnC_cell (x : Int) : 0 ≤ turnC x ∧ turnC x ≤ 127 := by have := turn7_le x.toNat; unfold turnC; omega
theorem mirC_cell (x : Int) : 0 ≤ mirC x ∧ mirC x ≤ 127 := by have := mir7_le x.toNat; unfold mirC; omega
def turnL (l : List Int) : List Int := l.reverse.map turnC
def mirL (l : List Int) : List Int := l.reverse.map mirC
theorem turnL_len (l : List Int) : (turnL l).length = l.length := by simp [turnL]
theorem mirL_len (l : List Int) : (mirL l).length = l.length := by simp [mirL]
/-- The row of a number. -/
def rowN (n : Nat) : List Int := if h : n < 10 then [digT.getD n 0] else rowN (n / 10) ++ [digT.getD (n % 10) 0]
termination_by n
decreasing_by omega
theorem rowN_lt {n : Nat} (h : n < 10) : rowN n = [digT.getD n 0] := by rw [rowN, dif_pos h]
theorem rowN_ge {n : Nat} (h : ¬ n < 10) : rowN n = rowN (n / 10) ++ [digT.getD (n % 10) 0] := by rw [rowN, dif_neg h]
/-- What of the row stands ahead of its last cell. -/
def rowP (n : Nat) : List Int := if n < 10 then [] else rowN (n / 10)
theorem rowP_cat (n : Nat) : rowN n = rowP n ++ [digT.getD (n % 10) 0] := by
  unfold rowP
  by_cases h : n < 10
  · rw [if_pos h, rowN_lt h, Nat.mod_eq_of_lt h]; rfl
  · rw [if_neg h, rowN_ge h]
theorem rowN_len : ∀ (k n : Nat), 1 ≤ k → n < 10 ^ k → (rowN n).length ≤ k ∧ 1 ≤ (rowN n).length
  | 0, n, h, _ => by omega
  | k + 1, n, _, h => by
    by_cases hn : n < 10
    · rw [rowN_lt hn]; simp
    · rw [rowN_ge hn]
      have h1 : 1 ≤ k := by
        rcases Nat.eq_zero_or_pos k with e | e
        · subst e; simp at h; omega
        · exact e
      have h2 : n / 10 < 10 ^ k := by rw [Nat.pow_succ] at h; omega
      have := rowN_len k (n / 10) h1 h2
      simp; omega
theorem digT_cell (n : Nat) : 0 ≤ digT.getD n 0 ∧ digT.getD n 0 ≤ 127 := by
  by_cases h : n < 10
  · have : n = 0 ∨ n = 1 ∨ n = 2 ∨ n = 3 ∨ n = 4 ∨ n = 5 ∨ n = 6 ∨ n = 7 ∨ n = 8 ∨ n = 9 := by omega
    rcases this with rfl | rfl | rfl | rfl | rfl | rfl | rfl | rfl | rfl | rfl <;> decide
  · have : digT.getD n 0 = 0 := by unfold List.getD; rw [List.getElem?_eq_none (by simp [digT]; omega)]; rfl
    rw [this]; omega
theorem rowN_cells : ∀ (k n : Nat), n < k → ∀ x ∈ rowN n, 0 ≤ x ∧ x ≤ 127
  | 0, n, h => by omega
  | k + 1, n, h => by
    intro x hx
    by_cases hn : n < 10
    · rw [rowN_lt hn] at hx; simp only [List.mem_singleton] at hx; subst hx; exact digT_cell _
    · rw [rowN_ge hn] at hx
      rcases List.mem_append.1 hx with hx | hx
      · exact rowN_cells k (n / 10) (by omega) x hx
      · simp only [List.mem_singleton] at hx; subst hx; exact digT_cell _
theorem rowN_row {n : Nat} (h : n ≤ 999999) : RowP (rowN n) := ⟨(rowN_len 6 n (by omega) (by omega)).1, rowN_cells (n + 1) n (by omega)⟩
def DigsP (l : List Int) : Prop := ∀ x ∈ l, 0 ≤ digOf x
instance (l : List Int) : Decidable (DigsP l) := by unfold DigsP; infer_instance
def numF (l : List Int) : Int := l.foldl (fun n x => 10 * n + digOf x) 0
theorem DigsP.at {l : List Int} (h : DigsP l) {j : Nat} (hj : j < l.length) : 0 ≤ digOf (l.getD j 0) := by
  have : l.getD j 0 = l[j] := by simp [hj]
  rw [this]; exact h _ (List.getElem_mem hj)
theorem DigsP.of {l : List Int} (h : ∀ j, j < l.length → 0 ≤ digOf (l.getD j 0)) : DigsP l := fun x hx => by
  obtain ⟨j, hj, rfl⟩ := List.getElem_of_mem hx
  have := h j hj
  simpa [hj] using this
theorem pow10_le {i : Nat} (h : i ≤ 6) : 10 ^ i ≤ 1000000 := Nat.pow_le_pow_right (n := 10) (by omega) h
def litF (l : List Int) : Int := l.foldl (fun n x => n + ((cnt7 x.toNat : Nat) : Int)) 0
def cntAlike : Nat → Nat
  | 0 => if turnL (rowN 0) = rowN 0 then 1 else 0
  | k + 1 => cntAlike k + if turnL (rowN (k + 1)) = rowN (k + 1) then 1 else 0
def alikeTo (k : Nat) : Nat := ((List.range k).filter fun j => turnL (rowN j) = rowN j).length
theorem alikeTo_succ (k : Nat) : alikeTo (k + 1) = alikeTo k + if turnL (rowN k) = rowN k then 1 else 0 := by
  unfold alikeTo
  rw [List.range_succ, List.filter_append, List.length_append]
  by_cases h : turnL (rowN k) = rowN k <;> simp [h]
theorem alikeTo_le (k : Nat) : alikeTo k ≤ k := by
  have := List.length_filter_le (fun j => decide (turnL (rowN j) = rowN j)) (List.range k)
  simpa [alikeTo] using this

set_option maxRecDepth 4000 in
theorem spec_l2Far (a b : Int) (ha : 0 ≤ a ∧ a ≤ 127) (hb : 0 ≤ b ∧ b ≤ 127) : PCalls Tryd.prog 34 [.int .i64 a, .int .i64 b] (· = [.val (.int .i64 (((cnt7 (a.toNat ^^^ b.toNat) : Nat) : Int)))]) := by
  refine pcalls_of_code (n := 9) az Tryd.func34 (by kernel_rfl) rfl rfl (Nat.le_of_ble_eq_true rfl) (by intro t u h; simp [Tryd.f34] at h) ?_
  refine code_seq (fun K1 hK1 => ?_)
  refine code_region ?_
  refine list_cons rfl (op_q (q_assign rfl (by decide)) ?_)
  refine list_nil ?_
  refine hK1 _ ?_; clear hK1 K1
  refine code_seq (fun K2 hK2 => ?_)
  refine code_region ?_
  refine list_cons rfl (op_q (q_move rfl (by decide)) ?_)
  refine list_cons rfl (op_q (q_move rfl (by decide)) ?_)
  refine list_cons rfl (op_q (by first | exact q_xorI rfl rfl (by decide) (by omega) (by omega) (by omega) (by omega) | exact q_ib rfl rfl rfl (by decide)) ?_)
  refine list_cons rfl (op_call _ (spec_l2Count _ (by omega) (xor7 ha hb)) rfl rfl (by decide) (by decide) (by decide) rfl ?_)
  rintro _ rfl
  refine list_cons rfl (op_q (q_assign rfl (by decide)) ?_)
  refine list_nil ?_
  refine hK2 _ ?_; clear hK2 K2
  refine codeT.imp (σ' := [(0, _), (1, _), (4, _)]) ?_ (imp_covers ⟨rfl, rfl, rfl, trivial⟩)
  refine code_ret ?_
  refine ends_ret (cs := []) rfl rfl rfl rfl trivial ?_
  rfl

theorem list_eqI {α : Type} (d : α) (a b : List α) (h : a.length = b.length) (k : ∀ j, j < a.length → a.getD j d = b.getD j d) : a = b := by
  apply List.ext_getElem h
  intro j h1 h2
  have := k j h1
  simpa [h1, h2] using this
/-- Letters of bars in order. -/
def OrdP (s : List UInt8) : Prop := ∀ i, i < s.length → 97 ≤ (s.getD i 0).toNat ∧ (s.getD i 0).toNat ≤ 103 ∧ (0 < i → (s.getD (i - 1) 0).toNat < (s.getD i 0).toNat)
instance (s : List UInt8) : Decidable (OrdP s) := by unfold OrdP; infer_instance
def orF (s : List UInt8) : Nat := s.foldl (fun c b => c ||| 2 ^ (b.toNat - 97)) 0
theorem orF_snoc (s : List UInt8) {k : Nat} (h : k < s.length) : orF (s.take (k + 1)) = orF (s.take k) ||| 2 ^ ((s.getD k 0).toNat - 97) := by
  unfold orF; rw [foldl_take _ 0 _ _ h]
theorem or7 {a k : Nat} (ha : a < 128) (hk : k ≤ 6) : a ||| 2 ^ k < 128 := by
  have : 2 ^ k < 2 ^ 7 := Nat.pow_lt_pow_right (by omega) (by omega)
  exact @Nat.or_lt_two_pow a (2 ^ k) 7 (by omega) this
theorem orF_lt (s : List UInt8) (h : OrdP s) : ∀ k, k ≤ s.length → orF (s.take k) < 128
  | 0, _ => by rw [List.take_zero]; decide
  | k + 1, hk => by
    rw [orF_snoc s (by omega)]
    have h1 := (h k (by omega)).2.1
    exact or7 (orF_lt s h k (by omega)) (by omega)
theorem orF_all {s : List UInt8} (h : OrdP s) : orF s < 128 := by have := orF_lt s h s.length (Nat.le_refl _); rwa [List.take_length] at this
def pieceT (x : Int) : List UInt8 := (if x = 0 then [45] else []) ++ bars7 x.toNat
def textG (l : List Int) : Nat → List UInt8
  | 0 => []
  | k + 1 => (if 0 < k then textG l k ++ [32] else []) ++ pieceT (l.getD k 0)
def textF (l : List Int) : List UInt8 := textG l l.length
theorem bars7_len (n : Nat) : (bars7 n).length ≤ 7 := by
  unfold bars7
  rw [List.length_map]
  exact Nat.le_trans (List.length_filter_le _ _) (by simp)
theorem textG_len (l : List Int) : ∀ k, (textG l k).length ≤ 9 * k
  | 0 => by simp [textG]
  | k + 1 => by
    have := textG_len l k
    have h2 := bars7_len (l.getD k 0).toNat
    rw [textG]
    by_cases hk : 0 < k
    · rw [if_pos hk]; unfold pieceT; split <;> simp only [List.length_append, List.length_cons, List.length_nil] <;> omega
    · rw [if_neg hk]; unfold pieceT; split <;> simp only [List.length_append, List.length_cons, List.length_nil] <;> omega


def ltrT : List Int := [119, 124, 57, 94, 121, 113, 116, 30, 56, 84, 92, 115, 80, 120, 28, 110]
def ltrS : List UInt8 := [97, 98, 99, 100, 101, 102, 104, 106, 108, 110, 111, 112, 114, 116, 117, 121]
/-- The place of a letter, and of a cell, or -1. -/
def plR (r : Int) : Int := if r = 97 then 0 else if r = 98 then 1 else if r = 99 then 2 else if r = 100 then 3 else if r = 101 then 4 else if r = 102 then 5 else if r = 104 then 6 else if r = 106 then 7 else if r = 108 then 8 else if r = 110 then 9 else if r = 111 then 10 else if r = 112 then 11 else if r = 114 then 12 else if r = 116 then 13 else if r = 117 then 14 else if r = 121 then 15 else -1
def rdC (c : Int) : Int := if c = 119 then 0 else if c = 124 then 1 else if c = 57 then 2 else if c = 94 then 3 else if c = 121 then 4 else if c = 113 then 5 else if c = 116 then 6 else if c = 30 then 7 else if c = 56 then 8 else if c = 84 then 9 else if c = 92 then 10 else if c = 115 then 11 else if c = 80 then 12 else if c = 120 then 13 else if c = 28 then 14 else if c = 110 then 15 else -1
def plB (b : UInt8) : Int := plR b.toNat
theorem plR_le (r : Int) : -1 ≤ plR r ∧ plR r ≤ 15 := by
  unfold plR
  repeat' split
  all_goals omega
theorem rdC_le (r : Int) : -1 ≤ rdC r ∧ rdC r ≤ 15 := by
  unfold rdC
  repeat' split
  all_goals omega
theorem plB_le (b : UInt8) : -1 ≤ plB b ∧ plB b ≤ 15 := plR_le _
theorem lt16 {k : Int} (h0 : 0 ≤ k) (h1 : k ≤ 15) : k = 0 ∨ k = 1 ∨ k = 2 ∨ k = 3 ∨ k = 4 ∨ k = 5 ∨ k = 6 ∨ k = 7 ∨ k = 8 ∨ k = 9 ∨ k = 10 ∨ k = 11 ∨ k = 12 ∨ k = 13 ∨ k = 14 ∨ k = 15 := by omega
theorem ltr_pl {k : Int} (h0 : 0 ≤ k) (h1 : k ≤ 15) : plR ((ltrS.getD k.toNat 0).toNat : Int) = k := by
  rcases lt16 h0 h1 with rfl | rfl | rfl | rfl | rfl | rfl | rfl | rfl | rfl | rfl | rfl | rfl | rfl | rfl | rfl | rfl <;> rfl
theorem ltr_rd {k : Int} (h0 : 0 ≤ k) (h1 : k ≤ 15) : rdC (ltrT.getD k.toNat 0) = k := by
  rcases lt16 h0 h1 with rfl | rfl | rfl | rfl | rfl | rfl | rfl | rfl | rfl | rfl | rfl | rfl | rfl | rfl | rfl | rfl <;> rfl
theorem plR_at {k r : Int} (h0 : 0 ≤ k) (h1 : k ≤ 15) (h : ((ltrS.getD k.toNat 0).toNat : Int) = r) : plR r = k := by subst h; exact ltr_pl h0 h1
theorem rdC_at {k c : Int} (h0 : 0 ≤ k) (h1 : k ≤ 15) (h : ltrT.getD k.toNat 0 = c) : rdC c = k := by subst h; exact ltr_rd h0 h1
theorem plR_cs {r k : Int} (hk : plR r = k) : (r = 97 ∧ k = 0) ∨ (r = 98 ∧ k = 1) ∨ (r = 99 ∧ k = 2) ∨ (r = 100 ∧ k = 3) ∨ (r = 101 ∧ k = 4) ∨ (r = 102 ∧ k = 5) ∨ (r = 104 ∧ k = 6) ∨ (r = 106 ∧ k = 7) ∨ (r = 108 ∧ k = 8) ∨ (r = 110 ∧ k = 9) ∨ (r = 111 ∧ k = 10) ∨ (r = 112 ∧ k = 11) ∨ (r = 114 ∧ k = 12) ∨ (r = 116 ∧ k = 13) ∨ (r = 117 ∧ k = 14) ∨ (r = 121 ∧ k = 15) ∨ k = -1 := by
  unfold plR at hk
  by_cases h : r = 97
  · rw [if_pos h] at hk; exact .inl ⟨h, hk.symm⟩
  rw [if_neg h] at hk; refine .inr ?_; clear h
  by_cases h : r = 98
  · rw [if_pos h] at hk; exact .inl ⟨h, hk.symm⟩
  rw [if_neg h] at hk; refine .inr ?_; clear h
  by_cases h : r = 99
  · rw [if_pos h] at hk; exact .inl ⟨h, hk.symm⟩
  rw [if_neg h] at hk; refine .inr ?_; clear h
  by_cases h : r = 100
  · rw [if_pos h] at hk; exact .inl ⟨h, hk.symm⟩
  rw [if_neg h] at hk; refine .inr ?_; clear h
  by_cases h : r = 101
  · rw [if_pos h] at hk; exact .inl ⟨h, hk.symm⟩
  rw [if_neg h] at hk; refine .inr ?_; clear h
  by_cases h : r = 102
  · rw [if_pos h] at hk; exact .inl ⟨h, hk.symm⟩
  rw [if_neg h] at hk; refine .inr ?_; clear h
  by_cases h : r = 104
  · rw [if_pos h] at hk; exact .inl ⟨h, hk.symm⟩
  rw [if_neg h] at hk; refine .inr ?_; clear h
  by_cases h : r = 106
  · rw [if_pos h] at hk; exact .inl ⟨h, hk.symm⟩
  rw [if_neg h] at hk; refine .inr ?_; clear h
  by_cases h : r = 108
  · rw [if_pos h] at hk; exact .inl ⟨h, hk.symm⟩
  rw [if_neg h] at hk; refine .inr ?_; clear h
  by_cases h : r = 110
  · rw [if_pos h] at hk; exact .inl ⟨h, hk.symm⟩
  rw [if_neg h] at hk; refine .inr ?_; clear h
  by_cases h : r = 111
  · rw [if_pos h] at hk; exact .inl ⟨h, hk.symm⟩
  rw [if_neg h] at hk; refine .inr ?_; clear h
  by_cases h : r = 112
  · rw [if_pos h] at hk; exact .inl ⟨h, hk.symm⟩
  rw [if_neg h] at hk; refine .inr ?_; clear h
  by_cases h : r = 114
  · rw [if_pos h] at hk; exact .inl ⟨h, hk.symm⟩
  rw [if_neg h] at hk; refine .inr ?_; clear h
  by_cases h : r = 116
  · rw [if_pos h] at hk; exact .inl ⟨h, hk.symm⟩
  rw [if_neg h] at hk; refine .inr ?_; clear h
  by_cases h : r = 117
  · rw [if_pos h] at hk; exact .inl ⟨h, hk.symm⟩
  rw [if_neg h] at hk; refine .inr ?_; clear h
  by_cases h : r = 121
  · rw [if_pos h] at hk; exact .inl ⟨h, hk.symm⟩
  rw [if_neg h] at hk; refine .inr ?_; clear h
  exact hk.symm
theorem rdC_cs {c k : Int} (hk : rdC c = k) : (c = 119 ∧ k = 0) ∨ (c = 124 ∧ k = 1) ∨ (c = 57 ∧ k = 2) ∨ (c = 94 ∧ k = 3) ∨ (c = 121 ∧ k = 4) ∨ (c = 113 ∧ k = 5) ∨ (c = 116 ∧ k = 6) ∨ (c = 30 ∧ k = 7) ∨ (c = 56 ∧ k = 8) ∨ (c = 84 ∧ k = 9) ∨ (c = 92 ∧ k = 10) ∨ (c = 115 ∧ k = 11) ∨ (c = 80 ∧ k = 12) ∨ (c = 120 ∧ k = 13) ∨ (c = 28 ∧ k = 14) ∨ (c = 110 ∧ k = 15) ∨ k = -1 := by
  unfold rdC at hk
  by_cases h : c = 119
  · rw [if_pos h] at hk; exact .inl ⟨h, hk.symm⟩
  rw [if_neg h] at hk; refine .inr ?_; clear h
  by_cases h : c = 124
  · rw [if_pos h] at hk; exact .inl ⟨h, hk.symm⟩
  rw [if_neg h] at hk; refine .inr ?_; clear h
  by_cases h : c = 57
  · rw [if_pos h] at hk; exact .inl ⟨h, hk.symm⟩
  rw [if_neg h] at hk; refine .inr ?_; clear h
  by_cases h : c = 94
  · rw [if_pos h] at hk; exact .inl ⟨h, hk.symm⟩
  rw [if_neg h] at hk; refine .inr ?_; clear h
  by_cases h : c = 121
  · rw [if_pos h] at hk; exact .inl ⟨h, hk.symm⟩
  rw [if_neg h] at hk; refine .inr ?_; clear h
  by_cases h : c = 113
  · rw [if_pos h] at hk; exact .inl ⟨h, hk.symm⟩
  rw [if_neg h] at hk; refine .inr ?_; clear h
  by_cases h : c = 116
  · rw [if_pos h] at hk; exact .inl ⟨h, hk.symm⟩
  rw [if_neg h] at hk; refine .inr ?_; clear h
  by_cases h : c = 30
  · rw [if_pos h] at hk; exact .inl ⟨h, hk.symm⟩
  rw [if_neg h] at hk; refine .inr ?_; clear h
  by_cases h : c = 56
  · rw [if_pos h] at hk; exact .inl ⟨h, hk.symm⟩
  rw [if_neg h] at hk; refine .inr ?_; clear h
  by_cases h : c = 84
  · rw [if_pos h] at hk; exact .inl ⟨h, hk.symm⟩
  rw [if_neg h] at hk; refine .inr ?_; clear h
  by_cases h : c = 92
  · rw [if_pos h] at hk; exact .inl ⟨h, hk.symm⟩
  rw [if_neg h] at hk; refine .inr ?_; clear h
  by_cases h : c = 115
  · rw [if_pos h] at hk; exact .inl ⟨h, hk.symm⟩
  rw [if_neg h] at hk; refine .inr ?_; clear h
  by_cases h : c = 80
  · rw [if_pos h] at hk; exact .inl ⟨h, hk.symm⟩
  rw [if_neg h] at hk; refine .inr ?_; clear h
  by_cases h : c = 120
  · rw [if_pos h] at hk; exact .inl ⟨h, hk.symm⟩
  rw [if_neg h] at hk; refine .inr ?_; clear h
  by_cases h : c = 28
  · rw [if_pos h] at hk; exact .inl ⟨h, hk.symm⟩
  rw [if_neg h] at hk; refine .inr ?_; clear h
  by_cases h : c = 110
  · rw [if_pos h] at hk; exact .inl ⟨h, hk.symm⟩
  rw [if_neg h] at hk; refine .inr ?_; clear h
  exact hk.symm
theorem pl_back {r : Int} (h : 0 ≤ plR r) : ((ltrS.getD (plR r).toNat 0).toNat : Int) = r := by
  rcases plR_cs (r := r) rfl with ⟨h1, h2⟩ | ⟨h1, h2⟩ | ⟨h1, h2⟩ | ⟨h1, h2⟩ | ⟨h1, h2⟩ | ⟨h1, h2⟩ | ⟨h1, h2⟩ | ⟨h1, h2⟩ | ⟨h1, h2⟩ | ⟨h1, h2⟩ | ⟨h1, h2⟩ | ⟨h1, h2⟩ | ⟨h1, h2⟩ | ⟨h1, h2⟩ | ⟨h1, h2⟩ | ⟨h1, h2⟩ | h2 <;> first | omega | (rw [h2, h1]; rfl)
theorem rd_back {c : Int} (h : 0 ≤ rdC c) : ltrT.getD (rdC c).toNat 0 = c := by
  rcases rdC_cs (c := c) rfl with ⟨h1, h2⟩ | ⟨h1, h2⟩ | ⟨h1, h2⟩ | ⟨h1, h2⟩ | ⟨h1, h2⟩ | ⟨h1, h2⟩ | ⟨h1, h2⟩ | ⟨h1, h2⟩ | ⟨h1, h2⟩ | ⟨h1, h2⟩ | ⟨h1, h2⟩ | ⟨h1, h2⟩ | ⟨h1, h2⟩ | ⟨h1, h2⟩ | ⟨h1, h2⟩ | ⟨h1, h2⟩ | h2 <;> first | omega | (rw [h2, h1]; rfl)
theorem plR_none {r : Int} (h : ∀ j : Nat, j < 16 → ((ltrS.getD j 0).toNat : Int) ≠ r) : plR r = -1 := by
  rcases Int.lt_or_le (plR r) 0 with k | k
  · have := plR_le r; omega
  · have h2 := plR_le r
    exact absurd (pl_back k) (h (plR r).toNat (by omega))
theorem rdC_none {c : Int} (h : ∀ j : Nat, j < 16 → ltrT.getD j 0 ≠ c) : rdC c = -1 := by
  rcases Int.lt_or_le (rdC c) 0 with k | k
  · have := rdC_le c; omega
  · have h2 := rdC_le c
    exact absurd (rd_back k) (h (rdC c).toNat (by omega))
theorem ltrT_cell (n : Nat) : 0 ≤ ltrT.getD n 0 ∧ ltrT.getD n 0 ≤ 127 := by
  by_cases h : n < 16
  · have : n = 0 ∨ n = 1 ∨ n = 2 ∨ n = 3 ∨ n = 4 ∨ n = 5 ∨ n = 6 ∨ n = 7 ∨ n = 8 ∨ n = 9 ∨ n = 10 ∨ n = 11 ∨ n = 12 ∨ n = 13 ∨ n = 14 ∨ n = 15 := by omega
    rcases this with rfl | rfl | rfl | rfl | rfl | rfl | rfl | rfl | rfl | rfl | rfl | rfl | rfl | rfl | rfl | rfl <;> decide
  · have : ltrT.getD n 0 = 0 := by unfold List.getD; rw [List.getElem?_eq_none (by simp [ltrT]; omega)]; rfl
    rw [this]; omega
def LtP (s : List UInt8) : Prop := ∀ b ∈ s, 0 ≤ plB b
instance (s : List UInt8) : Decidable (LtP s) := by unfold LtP; infer_instance
theorem LtP.at {s : List UInt8} (h : LtP s) {j : Nat} (hj : j < s.length) : 0 ≤ plB (s.getD j 0) := by
  have : s.getD j 0 = s[j] := by simp [hj]
  rw [this]; exact h _ (List.getElem_mem hj)
theorem LtP.of {s : List UInt8} (h : ∀ j, j < s.length → 0 ≤ plB (s.getD j 0)) : LtP s := fun x hx => by
  obtain ⟨j, hj, rfl⟩ := List.getElem_of_mem hx
  have := h j hj
  simpa [hj] using this
def WrdP (s : List UInt8) (m : Int) : Prop := (s.length : Int) ≤ m ∧ LtP s
instance (s : List UInt8) (m : Int) : Decidable (WrdP s m) := by unfold WrdP; infer_instance
def cellW (b : UInt8) : Int := ltrT.getD (plB b).toNat 0
def rowW (s : List UInt8) : List Int := s.map cellW
theorem rowW_len (s : List UInt8) : (rowW s).length = s.length := by simp [rowW]
theorem cellW_cell (b : UInt8) : 0 ≤ cellW b ∧ cellW b ≤ 127 := ltrT_cell _
theorem rowW_cells (s : List UInt8) : ∀ x ∈ rowW s, 0 ≤ x ∧ x ≤ 127 := fun x hx => by
  obtain ⟨b, _, rfl⟩ := List.mem_map.1 hx
  exact cellW_cell b
theorem rowW_row {s : List UInt8} (h : s.length ≤ 6) : RowP (rowW s) := ⟨by rw [rowW_len]; exact h, rowW_cells s⟩
theorem rowW_at (s : List UInt8) (j : Nat) : 0 ≤ (rowW s).getD j 0 ∧ (rowW s).getD j 0 ≤ 127 := by
  by_cases h : j < (rowW s).length
  · have : (rowW s).getD j 0 = (rowW s)[j] := by simp [h]
    rw [this]; exact rowW_cells s _ (List.getElem_mem h)
  · have : (rowW s).getD j 0 = 0 := by unfold List.getD; rw [List.getElem?_eq_none (by omega)]; rfl
    rw [this]; omega
def SpP (l : List Int) : Prop := ∀ x ∈ l, 0 ≤ rdC x
instance (l : List Int) : Decidable (SpP l) := by unfold SpP; infer_instance
theorem SpP.at {l : List Int} (h : SpP l) {j : Nat} (hj : j < l.length) : 0 ≤ rdC (l.getD j 0) := by
  have : l.getD j 0 = l[j] := by simp [hj]
  rw [this]; exact h _ (List.getElem_mem hj)
theorem SpP.of {l : List Int} (h : ∀ j, j < l.length → 0 ≤ rdC (l.getD j 0)) : SpP l := fun x hx => by
  obtain ⟨j, hj, rfl⟩ := List.getElem_of_mem hx
  have := h j hj
  simpa [hj] using this
def letC (c : Int) : UInt8 := ltrS.getD (rdC c).toNat 0
def spT (l : List Int) : List UInt8 := l.map letC
theorem spT_len (l : List Int) : (spT l).length = l.length := by simp [spT]
theorem cut1 (k : Nat) (h : k < 16) : (ltrS.drop k).take 1 = [ltrS.getD k 0] := by
  have : k = 0 ∨ k = 1 ∨ k = 2 ∨ k = 3 ∨ k = 4 ∨ k = 5 ∨ k = 6 ∨ k = 7 ∨ k = 8 ∨ k = 9 ∨ k = 10 ∨ k = 11 ∨ k = 12 ∨ k = 13 ∨ k = 14 ∨ k = 15 := by omega
  rcases this with rfl | rfl | rfl | rfl | rfl | rfl | rfl | rfl | rfl | rfl | rfl | rfl | rfl | rfl | rfl | rfl <;> rfl
theorem cutL {k : Int} (h0 : 0 ≤ k) (h1 : k ≤ 15) : (ltrS.drop k.toNat).take ((k + 1).toNat - k.toNat) = [ltrS.getD k.toNat 0] := by
  rw [show (k + 1).toNat - k.toNat = 1 by omega, cut1 _ (by omega)]
/-- A letter has all bars of a cell. -/
def hasC (k : Nat) (c : Int) : Bool := Nat.beq ((ltrT.getD k 0).toNat &&& c.toNat) c.toNat
def canI (c : Int) : Nat → List Int
  | 0 => []
  | k + 1 => if hasC k c = true then canI c k ++ [(k : Int)] else canI c k
theorem canI_succ (c : Int) (k : Nat) : canI c (k + 1) = if hasC k c = true then canI c k ++ [(k : Int)] else canI c k := rfl
theorem canI_len (c : Int) : ∀ k, (canI c k).length ≤ k
  | 0 => by simp [canI]
  | k + 1 => by
    have := canI_len c k
    unfold canI
    split <;> simp <;> omega
theorem canI_lt (c : Int) : ∀ k, ∀ x ∈ canI c k, 0 ≤ x ∧ x < k
  | 0, x, h => by simp [canI] at h
  | k + 1, x, h => by
    have ih := canI_lt c k
    unfold canI at h
    split at h
    · rcases List.mem_append.1 h with h | h
      · have := ih x h; omega
      · simp only [List.mem_singleton] at h; omega
    · have := ih x h; omega
theorem canI_at (c : Int) {j : Nat} (h : j < (canI c 16).length) : 0 ≤ (canI c 16).getD j 0 ∧ (canI c 16).getD j 0 ≤ 15 := by
  have : (canI c 16).getD j 0 = (canI c 16)[j] := by simp [h]
  rw [this]
  have := canI_lt c 16 _ (List.getElem_mem h); omega
/-- How many readings a row has. -/
def cntR : List Int → Nat
  | [] => 1
  | x :: r => (canI x 16).length * cntR r
theorem cntR_app : ∀ a b : List Int, cntR (a ++ b) = cntR a * cntR b
  | [], b => by show cntR b = 1 * cntR b; rw [Nat.one_mul]
  | x :: a, b => by
    show (canI x 16).length * cntR (a ++ b) = (canI x 16).length * cntR a * cntR b
    rw [cntR_app a b, Nat.mul_assoc]
theorem cntR_le : ∀ l : List Int, cntR l ≤ 16 ^ l.length
  | [] => Nat.le_refl _
  | x :: r => by
    have h1 := canI_len x 16
    have h2 := cntR_le r
    show (canI x 16).length * cntR r ≤ 16 ^ (r.length + 1)
    rw [Nat.pow_succ, Nat.mul_comm (16 ^ r.length)]
    exact Nat.mul_le_mul h1 h2
theorem pow16 {k : Nat} (h : k ≤ 6) : 16 ^ k ≤ 16777216 := Nat.pow_le_pow_right (n := 16) (by omega) h
theorem cntR_le6 {l : List Int} (h : l.length ≤ 6) : cntR l ≤ 16777216 := Nat.le_trans (cntR_le l) (pow16 h)
/-- The reading ahead of which there are k others. -/
def letN (n : Int) : UInt8 := ltrS.getD n.toNat 0
def rdT : List Int → Nat → List UInt8
  | [], _ => []
  | x :: r, k => letN ((canI x 16).getD (k / cntR r) 0) :: rdT r (k % cntR r)
theorem rdT_len : ∀ (l : List Int) (k : Nat), (rdT l k).length = l.length
  | [], _ => rfl
  | x :: r, k => by show (rdT r _).length + 1 = r.length + 1; rw [rdT_len r]
/-- The rows of a word that goes through a display. -/
def scC (r : List Int) (j : Int) : Int := if 0 ≤ j ∧ j < r.length then r.getD j.toNat 0 else 0
def scR (r : List Int) (k : Nat) (a : Int) : List Int := (List.range k).map fun (j : Nat) => scC r ((j : Int) - a)
def scL (r : List Int) (k : Nat) : List (List Int) := if r = [] then [] else (List.range (r.length + k - 1)).map fun (m : Nat) => scR r k ((k : Int) - 1 - m)
def qR (M : List (List Int)) : List PV := M.map fun r => .sl r.length (r.map (.int .i64))


set_option maxRecDepth 100000 in
theorem spec_l10Of (c : Int) (h0 : 0 ≤ c) (h1 : c ≤ 15) : PCalls Tryd.prog 35 [.int .i64 c] (· = [.val (.int .i64 (ltrT.getD c.toNat 0))]) := by
  have h := below_int (p := fun i => oneInt (crun Tf.tf noExt 200 6 35 [.int .i64 (Int.ofNat i)]) (ltrT.getD i 0)) (k := 16) (by kernel_rfl) h0 (by omega)
  have e : Int.ofNat c.toNat = c := Int.toNat_of_nonneg h0
  rw [e] at h
  exact pcalls_run Tf.tf (oneInt_ok h)

def farL (i k : Nat) : Int := ((cnt7 ((ltrT.getD i 0).toNat ^^^ (ltrT.getD k 0).toNat) : Nat) : Int)
/-- One pair of letters more. -/
def lfS (M : List (List UInt8) × Int) (i k : Nat) : List (List UInt8) × Int := if farL i k < M.2 then ([[ltrS.getD i 0, ltrS.getD k 0]], farL i k) else if farL i k = M.2 then (M.1 ++ [[ltrS.getD i 0, ltrS.getD k 0]], M.2) else M
def lfI (M : List (List UInt8) × Int) (i : Nat) : Nat → List (List UInt8) × Int
  | 0 => M
  | d + 1 => lfS (lfI M i d) i (i + 1 + d)
def lfO (m : Int) : Nat → List (List UInt8) × Int
  | 0 => ([], m)
  | i + 1 => lfI (lfO m i) i (15 - i)
theorem lfS_len (M : List (List UInt8) × Int) (i k : Nat) : (lfS M i k).1.length ≤ M.1.length + 1 := by
  unfold lfS
  split
  · simp
  · split
    · simp
    · omega
theorem lfI_len (M : List (List UInt8) × Int) (i : Nat) : ∀ d, (lfI M i d).1.length ≤ M.1.length + d
  | 0 => Nat.le_refl _
  | d + 1 => by
    have h1 := lfI_len M i d
    have h2 := lfS_len (lfI M i d) i (i + 1 + d)
    show (lfS _ _ _).1.length ≤ _
    omega
theorem lfO_len (m : Int) : ∀ i, (lfO m i).1.length ≤ 15 * i
  | 0 => Nat.le_refl _
  | i + 1 => by
    have h1 := lfO_len m i
    have h2 := lfI_len (lfO m i) i (15 - i)
    show (lfI _ _ _).1.length ≤ _
    omega
theorem lfI_succ (M : List (List UInt8) × Int) (i d : Nat) : lfI M i (d + 1) = lfS (lfI M i d) i (i + 1 + d) := rfl
theorem lfO_succ (m : Int) (i : Nat) : lfO m (i + 1) = lfI (lfO m i) i (15 - i) := rfl
theorem lf_less {M : List (List UInt8) × Int} {i k : Nat} (h : farL i k < M.2) : lfS M i k = ([[ltrS.getD i 0, ltrS.getD k 0]], farL i k) := by unfold lfS; rw [if_pos h]
theorem lf_same {M : List (List UInt8) × Int} {i k : Nat} (h : farL i k = M.2) : lfS M i k = (M.1 ++ [[ltrS.getD i 0, ltrS.getD k 0]], M.2) := by unfold lfS; rw [if_neg (by omega), if_pos h]
theorem lf_more {M : List (List UInt8) × Int} {i k : Nat} (h : ¬ farL i k < M.2) (h2 : ¬ farL i k = M.2) : lfS M i k = M := by unfold lfS; rw [if_neg h, if_neg h2]
set_option maxRecDepth 100000 in
theorem lf_both : lfO 8 16 = lfO 7 16 := by decide +kernel
theorem far_ltr (i k : Nat) : 0 ≤ farL i k ∧ farL i k ≤ 7 := by have := cnt7_le ((ltrT.getD i 0).toNat ^^^ (ltrT.getD k 0).toNat); unfold farL; omega

set_option maxRecDepth 8000 in
set_option maxHeartbeats 1000000 in
theorem spec_LeastFarLetters  : PCalls Tryd.prog 7 [] (fun rs => rs = [.own 0 9 1 (lfO 7 16).1.length ((lfO 7 16).1.map .str), .val (.int .i64 ((lfO 7 16).2))]) := by
  refine pcalls_of_code (n := 45) az Tryd.func7 (by kernel_rfl) rfl rfl (Nat.le_of_ble_eq_true rfl) (by intro t u h; simp [Tryd.f7] at h) ?_
  refine code_seq (fun K1 hK1 => ?_)
  refine code_region ?_
  refine list_cons rfl (op_q (q_assign rfl (by decide)) ?_)
  refine list_cons rfl (op_q (q_assign rfl (by decide)) ?_)
  refine list_nil ?_
  refine hK1 _ ?_; clear hK1 K1
  refine code_seq (fun K2 hK2 => ?_)
  refine code_region ?_
  refine list_cons rfl (op_buildSlice sl_22 (parts := []) rfl rfl rfl (by decide) (by decide) (by decide) rfl ?_)
  refine list_cons rfl (op_q (q_assign rfl (by decide)) ?_)
  refine list_cons rfl (op_q (q_assign rfl (by decide)) ?_)
  refine list_nil ?_
  refine hK2 _ ?_; clear hK2 K2
  refine code_seq (fun K3 hK3 => ?_)
  refine code_seq (fun K4 hK4 => ?_)
  refine code_region ?_
  refine list_cons rfl (op_q (q_assign rfl (by decide)) ?_)
  refine list_nil ?_
  refine hK4 _ ?_; clear hK4 K4
  refine code_block ?_
  refine code_loop (X := PV × Int × Nat × List PV × Int × Int) (fun x => [(0, .val x.1), (1, .val (.int .i64 x.2.1)), (2, .own 7 9 1 x.2.2.1 x.2.2.2.1), (3, .val (.int .i64 x.2.2.2.2.1)), (4, .val (.int .i64 x.2.2.2.2.2))]) (fun x => 0 ≤ x.2.2.2.2.2 ∧ x.2.2.2.2.2 ≤ 16 ∧ ∃ M : List (List UInt8), x.2.2.1 = M.length ∧ x.2.2.2.1 = M.map .str ∧ (M, x.2.2.2.2.1) = lfO 8 x.2.2.2.2.2.toNat) (fun x => (16 - x.2.2.2.2.2).toNat) (_, _, _, _, _, _) (imp_covers ⟨rfl, rfl, rfl, rfl, rfl, trivial⟩) ?_ ?_
  · (try dsimp only)
    exact ⟨by omega, by omega, [], rfl, rfl, rfl⟩
  · intro x hI
    obtain ⟨t0_p, t1, out_n, out_c, least, i⟩ := x
    replace hI : 0 ≤ i ∧ i ≤ 16 ∧ ∃ M : List (List UInt8), out_n = M.length ∧ out_c = M.map .str ∧ (M, least) = lfO 8 i.toNat := hI
    show codeT _ _ _ [(0, .val t0_p), (1, .val (.int .i64 t1)), (2, .own 7 9 1 out_n out_c), (3, .val (.int .i64 least)), (4, .val (.int .i64 i))] _
    obtain ⟨i1, i2, M, rfl, rfl, hM⟩ := hI
    have hlo := lfO_len 8 i.toNat
    have hL : ([97, 98, 99, 100, 101, 102, 104, 106, 108, 110, 111, 112, 114, 116, 117, 121] : List UInt8).length = 16 := rfl
    refine code_seq (fun K5 hK5 => ?_)
    refine code_seq (fun K6 hK6 => ?_)
    refine code_region ?_
    refine list_cons rfl (op_q (q_move rfl (by decide)) ?_)
    refine list_cons rfl (op_q (q_lt rfl rfl (by decide)) ?_)
    refine list_nil ?_
    refine hK6 _ ?_; clear hK6 K6
    refine code_cond_d rfl (fun h1 => ?_) (fun h1 => ?_)
    · skip
      (try simp only [Decidable.not_not] at h1)
      refine code_skip ?_
      refine hK5 _ ?_; clear hK5 K5
      refine code_seq (fun K7 hK7 => ?_)
      refine code_block ?_
      refine code_seq (fun K8 hK8 => ?_)
      refine code_region ?_
      refine list_cons rfl (op_q (q_move rfl (by decide)) ?_)
      refine list_cons rfl (op_q (by first | exact q_addI rfl rfl (by decide) (by omega) (by omega) | exact q_ib rfl rfl rfl (by decide)) ?_)
      refine list_cons rfl (op_q (q_assign rfl (by decide)) ?_)
      refine list_nil ?_
      refine hK8 _ ?_; clear hK8 K8
      refine code_block ?_
      refine code_loop (X := PV × Int × Nat × List PV × Int × Int) (fun x => [(0, .val x.1), (1, .val (.int .i64 x.2.1)), (2, .own 7 9 1 x.2.2.1 x.2.2.2.1), (3, .val (.int .i64 x.2.2.2.2.1)), (4, .val (.int .i64 i)), (5, .val (.int .i64 x.2.2.2.2.2))]) (fun x => i + 1 ≤ x.2.2.2.2.2 ∧ x.2.2.2.2.2 ≤ 16 ∧ ∃ N : List (List UInt8), x.2.2.1 = N.length ∧ x.2.2.2.1 = N.map .str ∧ (N, x.2.2.2.2.1) = lfI (lfO 8 i.toNat) i.toNat (x.2.2.2.2.2 - i - 1).toNat) (fun x => (16 - x.2.2.2.2.2).toNat) (_, _, _, _, _, _) (imp_covers ⟨rfl, rfl, rfl, rfl, rfl, rfl, trivial⟩) ?_ ?_
      · (try dsimp only)
        exact ⟨by omega, by omega, M, rfl, rfl, by rw [show (i + 1 - i - 1).toNat = 0 by omega]; exact hM⟩
      · intro x hI
        obtain ⟨t0_p, t1, out_n, out_c, least, k⟩ := x
        replace hI : i + 1 ≤ k ∧ k ≤ 16 ∧ ∃ N : List (List UInt8), out_n = N.length ∧ out_c = N.map .str ∧ (N, least) = lfI (lfO 8 i.toNat) i.toNat (k - i - 1).toNat := hI
        show codeT _ _ _ [(0, .val t0_p), (1, .val (.int .i64 t1)), (2, .own 7 9 1 out_n out_c), (3, .val (.int .i64 least)), (4, .val (.int .i64 i)), (5, .val (.int .i64 k))] _
        obtain ⟨j1, j2, N, rfl, rfl, hN⟩ := hI
        have hli := lfI_len (lfO 8 i.toNat) i.toNat (k - i - 1).toNat
        have hnl : N.length ≤ 300 := by have := congrArg (fun z => z.1.length) hN; simp only at this; omega
        refine code_seq (fun K9 hK9 => ?_)
        refine code_seq (fun K10 hK10 => ?_)
        refine code_region ?_
        refine list_cons rfl (op_q (q_move rfl (by decide)) ?_)
        refine list_cons rfl (op_q (q_lt rfl rfl (by decide)) ?_)
        refine list_nil ?_
        refine hK10 _ ?_; clear hK10 K10
        refine code_cond_d rfl (fun h2 => ?_) (fun h2 => ?_)
        · skip
          (try simp only [Decidable.not_not] at h2)
          refine code_skip ?_
          refine hK9 _ ?_; clear hK9 K9
          refine code_seq (fun K11 hK11 => ?_)
          refine code_block ?_
          refine code_seq (fun K12 hK12 => ?_)
          refine code_region ?_
          refine list_cons rfl (op_q (q_move rfl (by decide)) ?_)
          refine list_cons rfl (op_call _ (spec_l10Of i (by omega) (by omega)) rfl rfl (by decide) (by decide) (by decide) rfl ?_)
          rintro _ rfl
          refine list_cons rfl (op_q (q_move rfl (by decide)) ?_)
          refine list_cons rfl (op_call _ (spec_l10Of k (by omega) (by omega)) rfl rfl (by decide) (by decide) (by decide) rfl ?_)
          rintro _ rfl
          refine list_cons rfl (op_call _ (spec_l2Far _ _ (ltrT_cell _) (ltrT_cell _)) rfl rfl (by decide) (by decide) (by decide) rfl ?_)
          rintro _ rfl; have hfl := far_ltr i.toNat k.toNat
          refine list_cons rfl (op_q (q_assign rfl (by decide)) ?_)
          refine list_nil ?_
          refine hK12 _ ?_; clear hK12 K12
          refine codeT.imp (σ' := [(0, _), (1, _), (2, _), (3, _), (4, _), (5, _), (6, _)]) ?_ (imp_covers ⟨rfl, rfl, rfl, rfl, rfl, rfl, rfl, trivial⟩)
          refine code_seq (fun K13 hK13 => ?_)
          refine code_seq (fun K14 hK14 => ?_)
          refine code_region ?_
          refine list_cons rfl (op_q (q_move rfl (by decide)) ?_)
          refine list_cons rfl (op_q (q_move rfl (by decide)) ?_)
          refine list_cons rfl (op_q (q_lt rfl rfl (by decide)) ?_)
          refine list_nil ?_
          refine hK14 _ ?_; clear hK14 K14
          refine code_cond_d rfl (fun h3 => ?_) (fun h3 => ?_)
          · skip
            (try simp only [Decidable.not_not] at h3)
            refine code_seq (fun K15 hK15 => ?_)
            refine code_region ?_
            refine list_cons rfl (op_buildSlice sl_22 (parts := []) rfl rfl rfl (by decide) (by decide) (by decide) rfl ?_)
            refine list_cons rfl (op_q (q_assign rfl (by decide)) ?_)
            refine list_nil ?_
            refine hK15 _ ?_; clear hK15 K15
            refine code_region ?_
            refine list_cons rfl (op_q (q_move rfl (by decide)) ?_)
            refine list_cons rfl (op_q (q_assign rfl (by decide)) ?_)
            refine list_nil ?_
            refine hK13 _ ?_; clear hK13 K13
            refine code_seq (fun K16 hK16 => ?_)
            refine code_region ?_
            refine list_cons rfl (op_q (q_move rfl (by decide)) ?_)
            refine list_cons rfl (op_q (q_move rfl (by decide)) ?_)
            refine list_cons rfl (op_q (q_eq rfl rfl (by decide)) ?_)
            refine list_nil ?_
            refine hK16 _ ?_; clear hK16 K16
            refine codeT.imp (σ' := [(0, _), (1, _), (2, _), (3, _), (4, _), (5, _), (6, _), (30, _)]) ?_ (imp_covers ⟨rfl, rfl, rfl, rfl, rfl, rfl, rfl, rfl, trivial⟩)
            refine code_cond_d rfl (fun h4 => ?_) (fun h4 => ?_)
            · skip
              (try simp only [Decidable.not_not] at h4)
              refine any_start fun ob1_0 => ?_
              refine any_op (rd := [2]) ob1_0 rfl rfl rfl (anyT_quiet [(2, _)] ⟨rfl, trivial⟩ rfl (q_move rfl (by decide))) (fun ob1_1 => ?_)
              refine any_op (rd := [4]) ob1_1 rfl rfl rfl (anyT_quiet [(4, _)] ⟨rfl, trivial⟩ rfl (q_move rfl (by decide))) (fun ob1_2 => ?_)
              refine any_op (rd := [4]) ob1_2 rfl rfl rfl (anyT_quiet [(4, _)] ⟨rfl, trivial⟩ rfl (q_move rfl (by decide))) (fun ob1_3 => ?_)
              refine any_op (rd := [33]) ob1_3 rfl rfl rfl (anyT_quiet [(33, _)] ⟨rfl, trivial⟩ rfl (by first | exact q_addI rfl rfl (by decide) (by omega) (by omega) | exact q_ib rfl rfl rfl (by decide))) (fun ob1_4 => ?_)
              refine any_op (rd := [32, 34]) ob1_4 rfl rfl rfl (anyT_quiet [(32, _), (34, _)] ⟨rfl, rfl, trivial⟩ rfl (q_slice_str Tryd.underlying9 rfl ⟨_, rfl⟩ ⟨_, rfl⟩ (by first | omega | (show _ ≤ ((16 : Nat) : Int); omega)) (by first | omega | (show _ ≤ ((16 : Nat) : Int); omega)) (by first | omega | (show _ ≤ ((16 : Nat) : Int); omega)) (by decide))) (fun ob1_5 => ?_)
              refine any_op (rd := [5]) ob1_5 rfl rfl rfl (anyT_quiet [(5, _)] ⟨rfl, trivial⟩ rfl (q_move rfl (by decide))) (fun ob1_6 => ?_)
              refine any_op (rd := [5]) ob1_6 rfl rfl rfl (anyT_quiet [(5, _)] ⟨rfl, trivial⟩ rfl (q_move rfl (by decide))) (fun ob1_7 => ?_)
              refine any_op (rd := [37]) ob1_7 rfl rfl rfl (anyT_quiet [(37, _)] ⟨rfl, trivial⟩ rfl (by first | exact q_addI rfl rfl (by decide) (by omega) (by omega) | exact q_ib rfl rfl rfl (by decide))) (fun ob1_8 => ?_)
              refine any_op (rd := [36, 38]) ob1_8 rfl rfl rfl (anyT_quiet [(36, _), (38, _)] ⟨rfl, rfl, trivial⟩ rfl (q_slice_str Tryd.underlying9 rfl ⟨_, rfl⟩ ⟨_, rfl⟩ (by first | omega | (show _ ≤ ((16 : Nat) : Int); omega)) (by first | omega | (show _ ≤ ((16 : Nat) : Int); omega)) (by first | omega | (show _ ≤ ((16 : Nat) : Int); omega)) (by decide))) (fun ob1_9 => ?_)
              refine any_op (rd := [35, 39]) ob1_9 rfl rfl rfl (anyT_quiet [(35, _), (39, _)] ⟨rfl, rfl, trivial⟩ rfl (q_cat rfl rfl (by first | omega | (simp only [List.length_append, List.length_cons, List.length_nil]; omega) | (simp; omega)) (by decide))) (fun ob1_10 => ?_)
              refine any_op (rd := [40]) ob1_10 rfl rfl rfl (fun σ hag hfr => by have e40 : σ.at 40 = some _ := (hag 40 (by decide)).trans rfl; exact op_buildSlice sl_22 (parts := [(0, .tmp 40)]) (evp_cons (by first | rfl | assumption) rfl rfl evp_nil) rfl rfl (by decide) (by decide) (by decide) (fr1000 hfr (by decide)) rfl) (fun ob1_11 => ?_)
              refine any_end [[], [], [], [2], [1, 2, 3], [], [], [6], [5, 6, 7], [1, 2, 3, 4, 5, 6, 7, 8], [1, 2, 3, 4, 5, 6, 7, 8, 9], [0, 1, 2, 3, 4, 5, 6, 7, 8, 9, 10], [0, 1, 2, 3, 4, 5, 6, 7, 8, 9, 10, 11]] ob1_11 (by kernel_rfl) (Nat.le_of_ble_eq_true rfl) (by decide) (by decide) (by kernel_rfl) (by kernel_rfl) (by kernel_rfl) (by kernel_rfl) (by kernel_rfl) ?_
              clear ob1_0 ob1_1 ob1_2 ob1_3 ob1_4 ob1_5 ob1_6 ob1_7 ob1_8 ob1_9 ob1_10 ob1_11
              refine listT.imp (σ' := [(0, _), (1, _), (2, _), (3, _), (4, _), (5, _), (6, _), (30, _), (31, _), (32, _), (33, _), (34, _), (35, _), (36, _), (37, _), (38, _), (39, _), (40, _), (41, _)]) ?_ (imp_covers ⟨rfl, rfl, rfl, rfl, rfl, rfl, rfl, rfl, rfl, rfl, rfl, rfl, rfl, rfl, rfl, rfl, rfl, rfl, rfl, trivial⟩)
              refine list_cons rfl (op_append_gen sl_22 (l := 26) (.inl rfl) rfl rfl (l2 := none) (.inl ⟨rfl, (by first | rfl | exact flat_map _ (fun _ => rfl) _)⟩) (by first | rfl | (simp; done) | (simp; omega)) (by omega) (by decide) (by decide) (by decide) ?_)
              refine list_cons rfl (op_q (q_assign rfl (by decide)) ?_)
              refine list_nil ?_
              refine blk_n ?_
              refine hK11 _ ?_; clear hK11 K11
              refine codeT.imp (σ' := [(0, _), (1, _), (2, _), (3, _), (4, _), (5, _), (6, _)]) ?_ (imp_covers ⟨rfl, rfl, rfl, rfl, rfl, rfl, rfl, trivial⟩)
              refine code_region ?_
              refine list_cons rfl (op_q (q_move rfl (by decide)) ?_)
              refine list_cons rfl (op_q (by first | exact q_addI rfl rfl (by decide) (by omega) (by omega) | exact q_ib rfl rfl rfl (by decide)) ?_)
              refine list_cons rfl (op_q (q_assign rfl (by decide)) ?_)
              refine list_nil ?_
              refine then_n ⟨(_, _, _, _, _, _), (imp_covers (σ' := [(0, _), (1, _), (2, _), (3, _), (4, _), (5, _)]) ⟨rfl, rfl, rfl, rfl, rfl, rfl, trivial⟩).trans ((imp_ren 26 7 (by decide) (by decide) rfl).trans (imp_covers ⟨rfl, rfl, rfl, rfl, rfl, rfl, trivial⟩)), ?_, ?_⟩
              · (try dsimp only)
                have e1 : (k + 1 - i - 1).toNat = (k - i - 1).toNat + 1 := by omega
                have e2 : i.toNat + 1 + (k - i - 1).toNat = k.toNat := by omega
                have c1 := cutL (k := i) (by omega) (by omega)
                have c2 := cutL (k := k) (by omega) (by omega)
                have cc : (((ltrS.drop i.toNat).take ((i + 1).toNat - i.toNat)) ++ ((ltrS.drop k.toNat).take ((k + 1).toNat - k.toNat))) = [ltrS.getD i.toNat 0, ltrS.getD k.toNat 0] := by rw [c1, c2]; rfl
                refine ⟨by omega, by omega, ?_⟩
                rw [e1, lfI_succ, e2, ← hN]
                first
                | exact absurd trivial (by assumption)
                | (rw [lf_less (M := (N, _)) (by assumption)]
                   exact ⟨[[ltrS.getD i.toNat 0, ltrS.getD k.toNat 0]], rfl, congrArg (fun z => [PV.str z]) cc, rfl⟩)
                | (rw [lf_same (M := (N, _)) (by assumption)]
                   exact ⟨N ++ [[ltrS.getD i.toNat 0, ltrS.getD k.toNat 0]], by rw [List.length_append]; rfl, by rw [List.map_append]; exact congrArg (fun z => N.map PV.str ++ [PV.str z]) cc, rfl⟩)
                | (rw [lf_more (M := (N, _)) (by assumption) (by assumption)]
                   exact ⟨N, rfl, rfl, rfl⟩)
                | exact absurd rfl (by assumption)
              · (try dsimp only); omega
            (try simp only [Decidable.not_not] at h4)
            refine code_skip ?_
            refine blk_n ?_
            refine hK11 _ ?_; clear hK11 K11
            refine code_region ?_
            refine list_cons rfl (op_q (q_move rfl (by decide)) ?_)
            refine list_cons rfl (op_q (by first | exact q_addI rfl rfl (by decide) (by omega) (by omega) | exact q_ib rfl rfl rfl (by decide)) ?_)
            refine list_cons rfl (op_q (q_assign rfl (by decide)) ?_)
            refine list_nil ?_
            refine then_n ⟨(_, _, _, _, _, _), (imp_covers (σ' := [(0, _), (1, _), (2, _), (3, _), (4, _), (5, _)]) ⟨rfl, rfl, rfl, rfl, rfl, rfl, trivial⟩).trans ((imp_ren 26 7 (by decide) (by decide) rfl).trans (imp_covers ⟨rfl, rfl, rfl, rfl, rfl, rfl, trivial⟩)), ?_, ?_⟩
            · (try dsimp only)
              have e1 : (k + 1 - i - 1).toNat = (k - i - 1).toNat + 1 := by omega
              have e2 : i.toNat + 1 + (k - i - 1).toNat = k.toNat := by omega
              have c1 := cutL (k := i) (by omega) (by omega)
              have c2 := cutL (k := k) (by omega) (by omega)
              have cc : (((ltrS.drop i.toNat).take ((i + 1).toNat - i.toNat)) ++ ((ltrS.drop k.toNat).take ((k + 1).toNat - k.toNat))) = [ltrS.getD i.toNat 0, ltrS.getD k.toNat 0] := by rw [c1, c2]; rfl
              refine ⟨by omega, by omega, ?_⟩
              rw [e1, lfI_succ, e2, ← hN]
              first
              | exact absurd trivial (by assumption)
              | (rw [lf_less (M := (N, _)) (by assumption)]
                 exact ⟨[[ltrS.getD i.toNat 0, ltrS.getD k.toNat 0]], rfl, congrArg (fun z => [PV.str z]) cc, rfl⟩)
              | (rw [lf_same (M := (N, _)) (by assumption)]
                 exact ⟨N ++ [[ltrS.getD i.toNat 0, ltrS.getD k.toNat 0]], by rw [List.length_append]; rfl, by rw [List.map_append]; exact congrArg (fun z => N.map PV.str ++ [PV.str z]) cc, rfl⟩)
              | (rw [lf_more (M := (N, _)) (by assumption) (by assumption)]
                 exact ⟨N, rfl, rfl, rfl⟩)
              | exact absurd rfl (by assumption)
            · (try dsimp only); omega
          (try simp only [Decidable.not_not] at h3)
          refine code_skip ?_
          refine hK13 _ ?_; clear hK13 K13
          refine code_seq (fun K17 hK17 => ?_)
          refine code_region ?_
          refine list_cons rfl (op_q (q_move rfl (by decide)) ?_)
          refine list_cons rfl (op_q (q_move rfl (by decide)) ?_)
          refine list_cons rfl (op_q (q_eq rfl rfl (by decide)) ?_)
          refine list_nil ?_
          refine hK17 _ ?_; clear hK17 K17
          refine code_cond_d rfl (fun h5 => ?_) (fun h5 => ?_)
          · skip
            (try simp only [Decidable.not_not] at h5)
            refine any_start fun ob2_0 => ?_
            refine any_op (rd := [2]) ob2_0 rfl rfl rfl (anyT_quiet [(2, _)] ⟨rfl, trivial⟩ rfl (q_move rfl (by decide))) (fun ob2_1 => ?_)
            refine any_op (rd := [4]) ob2_1 rfl rfl rfl (anyT_quiet [(4, _)] ⟨rfl, trivial⟩ rfl (q_move rfl (by decide))) (fun ob2_2 => ?_)
            refine any_op (rd := [4]) ob2_2 rfl rfl rfl (anyT_quiet [(4, _)] ⟨rfl, trivial⟩ rfl (q_move rfl (by decide))) (fun ob2_3 => ?_)
            refine any_op (rd := [33]) ob2_3 rfl rfl rfl (anyT_quiet [(33, _)] ⟨rfl, trivial⟩ rfl (by first | exact q_addI rfl rfl (by decide) (by omega) (by omega) | exact q_ib rfl rfl rfl (by decide))) (fun ob2_4 => ?_)
            refine any_op (rd := [32, 34]) ob2_4 rfl rfl rfl (anyT_quiet [(32, _), (34, _)] ⟨rfl, rfl, trivial⟩ rfl (q_slice_str Tryd.underlying9 rfl ⟨_, rfl⟩ ⟨_, rfl⟩ (by first | omega | (show _ ≤ ((16 : Nat) : Int); omega)) (by first | omega | (show _ ≤ ((16 : Nat) : Int); omega)) (by first | omega | (show _ ≤ ((16 : Nat) : Int); omega)) (by decide))) (fun ob2_5 => ?_)
            refine any_op (rd := [5]) ob2_5 rfl rfl rfl (anyT_quiet [(5, _)] ⟨rfl, trivial⟩ rfl (q_move rfl (by decide))) (fun ob2_6 => ?_)
            refine any_op (rd := [5]) ob2_6 rfl rfl rfl (anyT_quiet [(5, _)] ⟨rfl, trivial⟩ rfl (q_move rfl (by decide))) (fun ob2_7 => ?_)
            refine any_op (rd := [37]) ob2_7 rfl rfl rfl (anyT_quiet [(37, _)] ⟨rfl, trivial⟩ rfl (by first | exact q_addI rfl rfl (by decide) (by omega) (by omega) | exact q_ib rfl rfl rfl (by decide))) (fun ob2_8 => ?_)
            refine any_op (rd := [36, 38]) ob2_8 rfl rfl rfl (anyT_quiet [(36, _), (38, _)] ⟨rfl, rfl, trivial⟩ rfl (q_slice_str Tryd.underlying9 rfl ⟨_, rfl⟩ ⟨_, rfl⟩ (by first | omega | (show _ ≤ ((16 : Nat) : Int); omega)) (by first | omega | (show _ ≤ ((16 : Nat) : Int); omega)) (by first | omega | (show _ ≤ ((16 : Nat) : Int); omega)) (by decide))) (fun ob2_9 => ?_)
            refine any_op (rd := [35, 39]) ob2_9 rfl rfl rfl (anyT_quiet [(35, _), (39, _)] ⟨rfl, rfl, trivial⟩ rfl (q_cat rfl rfl (by first | omega | (simp only [List.length_append, List.length_cons, List.length_nil]; omega) | (simp; omega)) (by decide))) (fun ob2_10 => ?_)
            refine any_op (rd := [40]) ob2_10 rfl rfl rfl (fun σ hag hfr => by have e40 : σ.at 40 = some _ := (hag 40 (by decide)).trans rfl; exact op_buildSlice sl_22 (parts := [(0, .tmp 40)]) (evp_cons (by first | rfl | assumption) rfl rfl evp_nil) rfl rfl (by decide) (by decide) (by decide) (fr1000 hfr (by decide)) rfl) (fun ob2_11 => ?_)
            refine any_end [[], [], [], [2], [1, 2, 3], [], [], [6], [5, 6, 7], [1, 2, 3, 4, 5, 6, 7, 8], [1, 2, 3, 4, 5, 6, 7, 8, 9], [0, 1, 2, 3, 4, 5, 6, 7, 8, 9, 10], [0, 1, 2, 3, 4, 5, 6, 7, 8, 9, 10, 11]] ob2_11 (by kernel_rfl) (Nat.le_of_ble_eq_true rfl) (by decide) (by decide) (by kernel_rfl) (by kernel_rfl) (by kernel_rfl) (by kernel_rfl) (by kernel_rfl) ?_
            clear ob2_0 ob2_1 ob2_2 ob2_3 ob2_4 ob2_5 ob2_6 ob2_7 ob2_8 ob2_9 ob2_10 ob2_11
            refine listT.imp (σ' := [(0, _), (1, _), (2, _), (3, _), (4, _), (5, _), (6, _), (23, _), (24, _), (25, _), (28, _), (29, _), (30, _), (31, _), (32, _), (33, _), (34, _), (35, _), (36, _), (37, _), (38, _), (39, _), (40, _), (41, _)]) ?_ (imp_covers ⟨rfl, rfl, rfl, rfl, rfl, rfl, rfl, rfl, rfl, rfl, rfl, rfl, rfl, rfl, rfl, rfl, rfl, rfl, rfl, rfl, rfl, rfl, rfl, rfl, trivial⟩)
            refine list_cons rfl (op_append_gen sl_22 (l := 7) (.inl rfl) rfl rfl (l2 := none) (.inl ⟨rfl, (by first | rfl | exact flat_map _ (fun _ => rfl) _)⟩) (by first | rfl | (simp; done) | (simp; omega)) (by omega) (by decide) (by decide) (by decide) ?_)
            refine list_cons rfl (op_q (q_assign rfl (by decide)) ?_)
            refine list_nil ?_
            refine blk_n ?_
            refine hK11 _ ?_; clear hK11 K11
            refine codeT.imp (σ' := [(0, _), (1, _), (2, _), (3, _), (4, _), (5, _), (6, _)]) ?_ (imp_covers ⟨rfl, rfl, rfl, rfl, rfl, rfl, rfl, trivial⟩)
            refine code_region ?_
            refine list_cons rfl (op_q (q_move rfl (by decide)) ?_)
            refine list_cons rfl (op_q (by first | exact q_addI rfl rfl (by decide) (by omega) (by omega) | exact q_ib rfl rfl rfl (by decide)) ?_)
            refine list_cons rfl (op_q (q_assign rfl (by decide)) ?_)
            refine list_nil ?_
            refine then_n ⟨(_, _, _, _, _, _), imp_covers ⟨rfl, rfl, rfl, rfl, rfl, rfl, trivial⟩, ?_, ?_⟩
            · (try dsimp only)
              have e1 : (k + 1 - i - 1).toNat = (k - i - 1).toNat + 1 := by omega
              have e2 : i.toNat + 1 + (k - i - 1).toNat = k.toNat := by omega
              have c1 := cutL (k := i) (by omega) (by omega)
              have c2 := cutL (k := k) (by omega) (by omega)
              have cc : (((ltrS.drop i.toNat).take ((i + 1).toNat - i.toNat)) ++ ((ltrS.drop k.toNat).take ((k + 1).toNat - k.toNat))) = [ltrS.getD i.toNat 0, ltrS.getD k.toNat 0] := by rw [c1, c2]; rfl
              refine ⟨by omega, by omega, ?_⟩
              rw [e1, lfI_succ, e2, ← hN]
              first
              | exact absurd trivial (by assumption)
              | (rw [lf_less (M := (N, _)) (by assumption)]
                 exact ⟨[[ltrS.getD i.toNat 0, ltrS.getD k.toNat 0]], rfl, congrArg (fun z => [PV.str z]) cc, rfl⟩)
              | (rw [lf_same (M := (N, _)) (by assumption)]
                 exact ⟨N ++ [[ltrS.getD i.toNat 0, ltrS.getD k.toNat 0]], by rw [List.length_append]; rfl, by rw [List.map_append]; exact congrArg (fun z => N.map PV.str ++ [PV.str z]) cc, rfl⟩)
              | (rw [lf_more (M := (N, _)) (by assumption) (by assumption)]
                 exact ⟨N, rfl, rfl, rfl⟩)
              | exact absurd rfl (by assumption)
            · (try dsimp only); omega
          (try simp only [Decidable.not_not] at h5)
          refine code_skip ?_
          refine blk_n ?_
          refine hK11 _ ?_; clear hK11 K11
          refine code_region ?_
          refine list_cons rfl (op_q (q_move rfl (by decide)) ?_)
          refine list_cons rfl (op_q (by first | exact q_addI rfl rfl (by decide) (by omega) (by omega) | exact q_ib rfl rfl rfl (by decide)) ?_)
          refine list_cons rfl (op_q (q_assign rfl (by decide)) ?_)
          refine list_nil ?_
          refine then_n ⟨(_, _, _, _, _, _), imp_covers ⟨rfl, rfl, rfl, rfl, rfl, rfl, trivial⟩, ?_, ?_⟩
          · (try dsimp only)
            have e1 : (k + 1 - i - 1).toNat = (k - i - 1).toNat + 1 := by omega
            have e2 : i.toNat + 1 + (k - i - 1).toNat = k.toNat := by omega
            have c1 := cutL (k := i) (by omega) (by omega)
            have c2 := cutL (k := k) (by omega) (by omega)
            have cc : (((ltrS.drop i.toNat).take ((i + 1).toNat - i.toNat)) ++ ((ltrS.drop k.toNat).take ((k + 1).toNat - k.toNat))) = [ltrS.getD i.toNat 0, ltrS.getD k.toNat 0] := by rw [c1, c2]; rfl
            refine ⟨by omega, by omega, ?_⟩
            rw [e1, lfI_succ, e2, ← hN]
            first
            | exact absurd trivial (by assumption)
            | (rw [lf_less (M := (N, _)) (by assumption)]
               exact ⟨[[ltrS.getD i.toNat 0, ltrS.getD k.toNat 0]], rfl, congrArg (fun z => [PV.str z]) cc, rfl⟩)
            | (rw [lf_same (M := (N, _)) (by assumption)]
               exact ⟨N ++ [[ltrS.getD i.toNat 0, ltrS.getD k.toNat 0]], by rw [List.length_append]; rfl, by rw [List.map_append]; exact congrArg (fun z => N.map PV.str ++ [PV.str z]) cc, rfl⟩)
            | (rw [lf_more (M := (N, _)) (by assumption) (by assumption)]
               exact ⟨N, rfl, rfl, rfl⟩)
            | exact absurd rfl (by assumption)
          · (try dsimp only); omega
        (try simp only [Decidable.not_not] at h2)
        refine code_exit ?_
        refine then_x ?_; clear hK9 K9
        refine then_x ?_
        refine blk_hit ?_
        refine blk_n ?_
        refine hK7 _ ?_; clear hK7 K7
        refine code_region ?_
        refine list_cons rfl (op_q (q_move rfl (by decide)) ?_)
        refine list_cons rfl (op_q (by first | exact q_addI rfl rfl (by decide) (by omega) (by omega) | exact q_ib rfl rfl rfl (by decide)) ?_)
        refine list_cons rfl (op_q (q_assign rfl (by decide)) ?_)
        refine list_nil ?_
        refine then_n ⟨(_, _, _, _, _, _), imp_covers ⟨rfl, rfl, rfl, rfl, rfl, trivial⟩, ?_, ?_⟩
        · (try dsimp only)
          have e : (k - i - 1).toNat = 15 - i.toNat := by omega
          rw [e] at hN
          exact ⟨by omega, by omega, N, rfl, rfl, by rw [hN, show (i + 1).toNat = i.toNat + 1 by omega, lfO_succ]⟩
        · (try dsimp only); omega
    (try simp only [Decidable.not_not] at h1)
    refine code_exit ?_
    refine then_x ?_; clear hK5 K5
    refine then_x ?_
    refine blk_hit ?_
    refine hK3 _ ?_; clear hK3 K3
    refine code_seq (fun K18 hK18 => ?_)
    refine code_region ?_
    refine list_cons rfl (op_q (q_move rfl (by decide)) ?_)
    refine list_cons rfl (op_q (q_move rfl (by decide)) ?_)
    refine list_cons rfl (op_q (q_assign rfl (by decide)) ?_)
    refine list_cons rfl (op_q (q_assign rfl (by decide)) ?_)
    refine list_nil ?_
    refine hK18 _ ?_; clear hK18 K18
    refine code_ret ?_
    refine ends_ret (cs := []) rfl rfl rfl rfl trivial ?_
    rw [show i.toNat = 16 by omega, lf_both] at hM
    rw [← hM]

end Go.Proofs.YtgpgjaebhfhjoabDoor
