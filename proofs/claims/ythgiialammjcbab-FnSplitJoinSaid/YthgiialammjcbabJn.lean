/- Contracts of functions, walked over the pure layer; each says for which arguments. -/
import Derived.Test.YthgiialammjcbabJnTy
import Derived.RangeFuncNested
import Derived.RangeFuncBound
import Derived.RangeFuncCalls
import Derived.RangeFuncLeaves
import Derived.RangeFuncBox
import Derived.Shelf.Abstract
import Derived.Shelf.RegionOpen
import Derived.WalkKit
import Derived.OwnWalkIn
import Derived.TacticsInMore
import Derived.LoopNIn
import Derived.LoopIn
import Derived.Maps.AppendAt
import Derived.Test.YthgiialammjcbabTf
import Derived.Test.YthgiialammjcbabSp
import Derived.Test.YthgiialammjcbabShelf
import Derived.Test.YthgiialammjcbabSpl
namespace Go.Proofs.Ythgiialammjcbab
open Go.RowKit JnTy
set_option linter.unusedVariables false
set_option linter.unusedSimpArgs false

def markO (k : Nat) (o : List UInt8) : List UInt8 := if h : k = 0 then o else markO (k / 10) (UInt8.ofNat (48 + k % 10) :: o)
termination_by k
decreasing_by omega
def markT (k : Int) : List UInt8 := if k ≤ 0 then [109, 48] else 109 :: markO k.toNat []
theorem markO_step {k : Nat} (h : 0 < k) (o : List UInt8) : markO k o = markO (k / 10) (UInt8.ofNat (48 + k % 10) :: o) := by
  rw [markO, dif_neg (by omega)]
theorem markO_zero (o : List UInt8) : markO 0 o = o := by rw [markO, dif_pos rfl]
theorem byte_pv {i : Int} (h0 : 0 ≤ i) (h1 : i < 256) : some (PV.sl 1 (putAt (zeros [.int .u8 0] 1) (0 * 1) (PV.int .u8 (IntKind.u8.wrap i)).cells)) = some (PV.sl 1 (bytesP [UInt8.ofNat i.toNat])) := by
  have : IntKind.u8.wrap i = ((UInt8.ofNat i.toNat).toNat : Int) := by
    have : (UInt8.ofNat i.toNat).toNat = i.toNat := by rw [UInt8.toNat_ofNat']; omega
    rw [this]; simp [IntKind.wrap, IntKind.bits, IntKind.signed]; omega
  rw [this]; rfl
def szS (a : Int) (s : List UInt8) : Int := if a < 0 then -1 else if a - s.length < 0 then -1 else a - s.length
def szF (l : List (List UInt8)) (a : Int) : Int := l.foldl szS a
def szL (l : List (List UInt8)) (left : Int) : Int := if left - l.length < 0 then -1 else szF l (left - l.length)
theorem take_snocD {α : Type} (d : α) (l : List α) (k : Nat) (h : k < l.length) : l.take (k + 1) = l.take k ++ [l.getD k d] := by
  rw [List.take_succ_eq_append_getElem h]; simp [h]
theorem szF_snoc (l : List (List UInt8)) {k : Nat} (h : k < l.length) (a : Int) : szF (l.take (k + 1)) a = if szF (l.take k) a < 0 then -1 else if szF (l.take k) a - (l.getD k []).length < 0 then -1 else szF (l.take k) a - (l.getD k []).length := by
  unfold szF; rw [take_snocD [] l k h, List.foldl_append]; rfl
theorem szF_bad : ∀ (l : List (List UInt8)), szF l (-1) = -1
  | [] => rfl
  | s :: l => by show szF l (szS (-1) s) = -1; rw [show szS (-1) s = -1 from rfl, szF_bad l]
theorem szF_neg (l : List (List UInt8)) (k : Nat) (h : k < l.length) {a : Int} (h0 : 0 ≤ szF (l.take k) a) (h1 : szF (l.take k) a - (l.getD k []).length < 0) : szF l a = -1 := by
  have : szF (l.take (k + 1)) a = -1 := by rw [szF_snoc l h, if_neg (by omega), if_pos h1]
  rw [← List.take_append_drop (k + 1) l]
  unfold szF at this ⊢
  rw [List.foldl_append, this]; exact szF_bad _

def lenS (l : List (List UInt8)) : Int := l.foldl (fun a s => a + s.length) 0
theorem lenS_snoc (l : List (List UInt8)) {k : Nat} (h : k < l.length) : lenS (l.take (k + 1)) = lenS (l.take k) + (l.getD k []).length := by
  unfold lenS; rw [take_snocD [] l k h, List.foldl_append]; rfl
theorem lenS_mono (l : List (List UInt8)) (k : Nat) : ∀ m, lenS (l.take k) ≤ lenS (l.take (k + m))
  | 0 => Int.le_refl _
  | m + 1 => by
    have := lenS_mono l k m
    by_cases h : k + m < l.length
    · rw [show k + (m + 1) = (k + m) + 1 by omega, lenS_snoc l h]; omega
    · rw [List.take_of_length_le (l := l) (i := k + (m + 1)) (by omega)]
      rwa [List.take_of_length_le (l := l) (i := k + m) (by omega)] at this
theorem lenS_le (l : List (List UInt8)) (k : Nat) : lenS (l.take k) ≤ lenS l := by
  by_cases h : k ≤ l.length
  · have := lenS_mono l k (l.length - k)
    rwa [show k + (l.length - k) = l.length by omega, List.take_length] at this
  · rw [List.take_of_length_le (by omega)]; exact Int.le_refl _
theorem lenS_nn (l : List (List UInt8)) : 0 ≤ lenS l := by
  have := lenS_mono l 0 l.length
  rw [Nat.zero_add, List.take_length] at this
  exact this
/-- What can be joined. -/
def JoinOk (l : List (List UInt8)) (b : UInt8) : Prop := lenS l + l.length ≤ 4001 ∧ ∀ j, j < l.length → b ∉ l.getD j []
instance (l : List (List UInt8)) (b : UInt8) : Decidable (JoinOk l b) := by unfold JoinOk; infer_instance
def joinT (sep : List UInt8) (l : List (List UInt8)) : List UInt8 := Lib.join l sep
theorem join_snoc (sep : List UInt8) : ∀ (l : List (List UInt8)) (x : List UInt8), l ≠ [] → Lib.join (l ++ [x]) sep = Lib.join l sep ++ sep ++ x
  | [], x, h => absurd rfl h
  | y :: r, x, _ => by
    rw [List.cons_append, Lib.join_cons, Lib.join_cons]
    simp [Lib.joinTail]
theorem join_take (sep : List UInt8) (l : List (List UInt8)) {k : Nat} (h : k < l.length) : Lib.join (l.take (k + 1)) sep = (if 0 < k then Lib.join (l.take k) sep ++ sep else []) ++ l.getD k [] := by
  rw [take_snocD [] l k h]
  by_cases hk : 0 < k
  · rw [if_pos hk, join_snoc]
    intro e; have := congrArg List.length e; rw [List.length_take, List.length_nil] at this; omega
  · have : k = 0 := by omega
    subst this
    rw [if_neg (by omega)]; simp [Lib.join_one]
theorem join_len (b : UInt8) (l : List (List UInt8)) : ∀ k, 0 < k → k ≤ l.length → ((Lib.join (l.take k) [b]).length : Int) = lenS (l.take k) + k - 1
  | 0, h, _ => by omega
  | k + 1, _, h => by
    rw [join_take [b] l (by omega), lenS_snoc l (by omega)]
    by_cases hk : 0 < k
    · have := join_len b l k hk (by omega)
      rw [if_pos hk]; simp; omega
    · have : k = 0 := by omega
      subst this
      simp [lenS]
theorem getD_u8 (s : List UInt8) (b : UInt8) (h : s.length = 1) : s = [s.getD 0 b] := by
  obtain ⟨x, rfl⟩ := List.length_eq_one_iff.mp h
  rfl
theorem mem_take (b : UInt8) (s : List UInt8) {k : Nat} (h : k < s.length) (h1 : b ∉ s.take k) (h2 : ¬ s.getD k 0 = b) : b ∉ s.take (k + 1) := by
  rw [take_snocD 0 s k h]
  simp only [List.mem_append, List.mem_singleton, not_or]
  exact ⟨h1, fun e => h2 e.symm⟩
theorem mem_at (b : UInt8) (s : List UInt8) {k : Nat} (h : k < s.length) (h2 : s.getD k 0 = b) : b ∈ s := by
  have : s.getD k 0 = s[k] := by simp [h]
  rw [← h2, this]; exact List.getElem_mem h
theorem szF_le : ∀ (l : List (List UInt8)) (a : Int), 0 ≤ szF l a → ∀ k, ((l.getD k []).length : Int) ≤ a ∨ l.length ≤ k
  | [], a, h, k => .inr (by simp)
  | s :: l, a, h, k => by
    have h' : 0 ≤ szF l (szS a s) := h
    unfold szS at h'
    by_cases h1 : a < 0
    · rw [if_pos h1, szF_bad] at h'; omega
    · rw [if_neg h1] at h'
      by_cases h2 : a - s.length < 0
      · rw [if_pos h2, szF_bad] at h'; omega
      · rw [if_neg h2] at h'
        cases k with
        | zero => left; simp; omega
        | succ k =>
          rcases szF_le l _ h' k with h3 | h3
          · left; simp only [List.getD_cons_succ]; omega
          · right; simp; omega
theorem szL_le {l : List (List UInt8)} {left : Int} (h0 : 0 ≤ left) (h : 0 ≤ szL l left) : (l.length : Int) ≤ left ∧ ∀ k, ((l.getD k []).length : Int) ≤ left := by
  unfold szL at h
  by_cases h1 : left - l.length < 0
  · rw [if_pos h1] at h; omega
  · rw [if_neg h1] at h
    refine ⟨by omega, fun k => ?_⟩
    rcases szF_le l _ h k with h3 | h3
    · omega
    · have : l.getD k [] = [] := by unfold List.getD; rw [List.getElem?_eq_none h3]; rfl
      rw [this]; simpa using h0
theorem getD_len {l : List (List UInt8)} {B : Nat} (h : ∀ s ∈ l, s.length ≤ B) (k : Nat) : (l.getD k []).length ≤ B := by
  by_cases hk : k < l.length
  · have : l.getD k [] = l[k] := by simp [hk]
    rw [this]; exact h _ (List.getElem_mem hk)
  · have : l.getD k [] = [] := by unfold List.getD; rw [List.getElem?_eq_none (by omega)]; rfl
    rw [this]; simp
theorem u8_eq {a b : UInt8} (h : (a.toNat : Int) = b.toNat) : a = b := UInt8.toNat_inj.mp (by omega)

set_option maxRecDepth 4000 in
theorem canJoin_c (l : List (List UInt8)) (b : UInt8) (hl : l.length ≤ 1099511627776) (hb : ∀ k, (l.getD k []).length ≤ 4611686018427387904) : PCalls Try.prog 18 [.sl l.length (l.map .str), .int .u8 b.toNat] (· = [.val (.bool (decide (JoinOk l b)))]) := by
  refine pcalls_of_code (n := 41) az Try.func18 (by kernel_rfl) rfl rfl (Nat.le_of_ble_eq_true rfl) (by intro t u h; simp [Try.f18] at h) ?_
  refine code_seq (fun K1 hK1 => ?_)
  refine code_region ?_
  refine list_cons rfl (op_q (q_assign rfl (by decide)) ?_)
  refine list_nil ?_
  refine hK1 _ ?_; clear hK1 K1
  refine code_scope ?_
  refine code_seq (fun K2 hK2 => ?_)
  refine code_region ?_
  refine list_cons rfl (op_q (q_move rfl (by decide)) ?_)
  refine list_cons rfl (op_q (q_len_sl Try.underlying26 rfl rfl (by decide)) ?_)
  refine list_cons rfl (op_q (by first | exact q_subI rfl rfl (by decide) (by omega) (by omega) | exact q_ib rfl rfl rfl (by decide)) ?_)
  refine list_cons rfl (op_q (by first | exact q_subI rfl rfl (by decide) (by omega) (by omega) | exact q_ib rfl rfl rfl (by decide)) ?_)
  refine list_cons rfl (op_q (q_assign rfl (by decide)) ?_)
  refine list_nil ?_
  refine hK2 _ ?_; clear hK2 K2
  refine code_seq (fun K3 hK3 => ?_)
  refine code_region ?_
  refine list_cons rfl (op_q (q_assign rfl (by decide)) ?_)
  refine list_nil ?_
  refine hK3 _ ?_; clear hK3 K3
  refine code_seq (fun K4 hK4 => ?_)
  refine code_label ?_
  refine hK4 _ ?_; clear hK4 K4
  refine code_seq (fun K5 hK5 => ?_)
  refine code_seq (fun K6 hK6 => ?_)
  refine code_region ?_
  refine list_cons rfl (op_q (q_move rfl (by decide)) ?_)
  refine list_cons rfl (op_q (q_len_sl Try.underlying26 rfl rfl (by decide)) ?_)
  refine list_cons rfl (op_q (q_move rfl (by decide)) ?_)
  refine list_nil ?_
  refine hK6 _ ?_; clear hK6 K6
  refine code_block ?_
  refine code_loop (X := Bool × Int × Bool × Int) (fun x => [(0, .par 0 (.sl l.length (l.map .str))), (1, .val (.int .u8 b.toNat)), (4, .val (.bool x.1)), (5, .val (.int .i64 x.2.1)), (6, .val (.bool x.2.2.1)), (14, .par 0 (.sl l.length (l.map .str))), (15, .val (.int .i64 l.length)), (16, .val (.int .i64 x.2.2.2))]) (fun x => 0 ≤ x.2.2.2 ∧ x.2.2.2 ≤ l.length ∧ x.2.2.1 = true ∧ x.2.1 = 4001 - l.length - lenS (l.take x.2.2.2.toNat) ∧ (x.2.2.2 = 0 ∨ 0 ≤ x.2.1) ∧ ∀ j, j < x.2.2.2.toNat → b ∉ l.getD j []) (fun x => l.length - x.2.2.2.toNat) (_, _, _, _) (imp_covers ⟨rfl, rfl, rfl, rfl, rfl, rfl, rfl, rfl, trivial⟩) ?_ ?_
  · (try dsimp only)
    refine ⟨by omega, by omega, rfl, ?_, .inl rfl, fun j hj => by simp at hj⟩
    show _ = 4001 - _ - (0 : Int)
    omega
  · intro x hI
    obtain ⟨t4, room, fits, t16⟩ := x
    replace hI : 0 ≤ t16 ∧ t16 ≤ l.length ∧ fits = true ∧ room = 4001 - l.length - lenS (l.take t16.toNat) ∧ (t16 = 0 ∨ 0 ≤ room) ∧ ∀ j, j < t16.toNat → b ∉ l.getD j [] := hI
    show codeT _ _ _ [(0, .par 0 (.sl l.length (l.map .str))), (1, .val (.int .u8 b.toNat)), (4, .val (.bool t4)), (5, .val (.int .i64 room)), (6, .val (.bool fits)), (14, .par 0 (.sl l.length (l.map .str))), (15, .val (.int .i64 l.length)), (16, .val (.int .i64 t16))] _
    obtain ⟨i1, i2, i3, i4, i5, i6⟩ := hI
    have hz : lenS (l.take 0) = 0 := rfl
    have hpl := hb t16.toNat
    have hr0 : -1099511627776 ≤ room ∧ room ≤ 4001 := by
      have := lenS_nn (l.take t16.toNat)
      rcases i5 with e | e
      · subst e; rw [show (0 : Int).toNat = 0 from rfl, hz] at i4; omega
      · omega
    refine code_seq (fun K7 hK7 => ?_)
    refine code_region ?_
    refine list_cons rfl (op_q (q_lt rfl rfl (by decide)) ?_)
    refine list_nil ?_
    refine hK7 _ ?_; clear hK7 K7
    refine code_seq (fun K8 hK8 => ?_)
    refine code_cond_d rfl (fun h1 => ?_) (fun h1 => ?_)
    · skip
      (try simp only [Decidable.not_not] at h1)
      refine code_skip ?_
      refine hK8 _ ?_; clear hK8 K8
      refine code_seq (fun K9 hK9 => ?_)
      refine code_block ?_
      refine code_seq (fun K10 hK10 => ?_)
      refine code_region ?_
      refine list_cons rfl (op_q (q_indexAddr_rd sl_26 rfl (.inl ⟨_, rfl, rfl⟩) rfl (by omega) (by omega) (by decide)) ?_)
      refine list_cons rfl (op_q (q_load_rd one_9 rfl (.inl ⟨_, (by first | rfl | exact congrArg (SV.rpar _) (drop_map1 _ [] _ (by first | omega | (simp; omega)))), rfl⟩) (by decide)) ?_)
      refine list_cons rfl (op_q (q_assign rfl (by decide)) ?_)
      refine list_nil ?_
      refine hK10 _ ?_; clear hK10 K10
      refine code_seq (fun K11 hK11 => ?_)
      refine code_seq (fun K12 hK12 => ?_)
      refine code_region ?_
      refine list_cons rfl (op_q (q_move rfl (by decide)) ?_)
      refine list_cons rfl (op_q (q_len_str Try.underlying9 rfl (by decide)) ?_)
      refine list_cons rfl (op_q (q_move rfl (by decide)) ?_)
      refine list_cons rfl (op_q (q_gt rfl rfl (by decide)) ?_)
      refine list_nil ?_
      refine hK12 _ ?_; clear hK12 K12
      refine code_cond_d rfl (fun h2 => ?_) (fun h2 => ?_)
      · skip
        (try simp only [Decidable.not_not] at h2)
        refine code_seq (fun K13 hK13 => ?_)
        refine code_region ?_
        refine list_cons rfl (op_q (q_assign rfl (by decide)) ?_)
        refine list_nil ?_
        refine hK13 _ ?_; clear hK13 K13
        refine codeT.imp (σ' := [(0, _), (1, _), (4, _), (5, _), (6, _), (8, _), (14, _), (15, _), (16, _)]) ?_ (imp_covers ⟨rfl, rfl, rfl, rfl, rfl, rfl, rfl, rfl, rfl, trivial⟩)
        refine code_exit ?_
        refine then_x ?_; clear hK11 K11
        refine blk_miss (by decide) ?_
        refine then_x ?_; clear hK9 K9
        refine then_x ?_
        refine blk_hit ?_
        refine hK5 _ ?_; clear hK5 K5
        refine code_seq (fun K14 hK14 => ?_)
        refine code_region ?_
        refine list_cons rfl (op_q (q_move rfl (by decide)) ?_)
        refine list_cons rfl (op_q (q_assign rfl (by decide)) ?_)
        refine list_nil ?_
        refine hK14 _ ?_; clear hK14 K14
        refine code_ret ?_
        refine sc_r ?_
        refine ends_ret (cs := []) rfl rfl rfl rfl trivial ?_
        rw [decide_eq_false]
        intro e
        have h9 := lenS_le l (t16.toNat + 1)
        rw [lenS_snoc l (by omega)] at h9
        have := e.1
        omega
      · skip
        (try simp only [Decidable.not_not] at h2)
        refine code_skip ?_
        refine hK11 _ ?_; clear hK11 K11
        refine codeT.imp (σ' := [(0, _), (1, _), (4, _), (5, _), (6, _), (8, _), (14, _), (15, _), (16, _)]) ?_ (imp_covers ⟨rfl, rfl, rfl, rfl, rfl, rfl, rfl, rfl, rfl, trivial⟩)
        refine code_seq (fun K15 hK15 => ?_)
        refine code_region ?_
        refine list_cons rfl (op_q (q_move rfl (by decide)) ?_)
        refine list_cons rfl (op_q (q_move rfl (by decide)) ?_)
        refine list_cons rfl (op_q (q_len_str Try.underlying9 rfl (by decide)) ?_)
        refine list_cons rfl (op_q (by first | exact q_subI rfl rfl (by decide) (by omega) (by omega) | exact q_ib rfl rfl rfl (by decide)) ?_)
        refine list_cons rfl (op_q (q_assign rfl (by decide)) ?_)
        refine list_nil ?_
        refine hK15 _ ?_; clear hK15 K15
        refine code_seq (fun K16 hK16 => ?_)
        refine code_region ?_
        refine list_cons rfl (op_q (q_move rfl (by decide)) ?_)
        refine list_cons rfl (op_q (q_len_str Try.underlying9 rfl (by decide)) ?_)
        refine list_cons rfl (op_q (q_move rfl (by decide)) ?_)
        refine list_nil ?_
        refine hK16 _ ?_; clear hK16 K16
        refine code_block ?_
        refine code_loop (X := Int) (fun x => [(0, .par 0 (.sl l.length (l.map .str))), (1, .val (.int .u8 b.toNat)), (4, .val (.bool t4)), (5, .val (.int .i64 (room - ((l.getD t16.toNat []).length : Int)))), (6, .val (.bool fits)), (8, .val (.str (l.getD t16.toNat []))), (14, .par 0 (.sl l.length (l.map .str))), (15, .val (.int .i64 l.length)), (16, .val (.int .i64 t16)), (29, .val (.int .i64 ((l.getD t16.toNat []).length : Int))), (30, .val (.int .i64 x))]) (fun x => 0 ≤ x ∧ x ≤ (l.getD t16.toNat []).length ∧ b ∉ (l.getD t16.toNat []).take x.toNat) (fun x => (l.getD t16.toNat []).length - x.toNat) (_) (imp_covers ⟨rfl, rfl, rfl, rfl, rfl, rfl, rfl, rfl, rfl, rfl, rfl, trivial⟩) ?_ ?_
        · (try dsimp only)
          exact ⟨by omega, by omega, by simp⟩
        · intro x hI
          revert hI; revert x; intro t30 hI
          replace hI : 0 ≤ t30 ∧ t30 ≤ (l.getD t16.toNat []).length ∧ b ∉ (l.getD t16.toNat []).take t30.toNat := hI
          show codeT _ _ _ [(0, .par 0 (.sl l.length (l.map .str))), (1, .val (.int .u8 b.toNat)), (4, .val (.bool t4)), (5, .val (.int .i64 (room - ((l.getD t16.toNat []).length : Int)))), (6, .val (.bool fits)), (8, .val (.str (l.getD t16.toNat []))), (14, .par 0 (.sl l.length (l.map .str))), (15, .val (.int .i64 l.length)), (16, .val (.int .i64 t16)), (29, .val (.int .i64 ((l.getD t16.toNat []).length : Int))), (30, .val (.int .i64 t30))] _
          obtain ⟨j1, j2, i8⟩ := hI
          refine code_seq (fun K17 hK17 => ?_)
          refine code_region ?_
          refine list_cons rfl (op_q (q_lt rfl rfl (by decide)) ?_)
          refine list_nil ?_
          refine hK17 _ ?_; clear hK17 K17
          refine code_seq (fun K18 hK18 => ?_)
          refine code_cond_d rfl (fun h3 => ?_) (fun h3 => ?_)
          · skip
            (try simp only [Decidable.not_not] at h3)
            refine code_skip ?_
            refine hK18 _ ?_; clear hK18 K18
            refine code_seq (fun K19 hK19 => ?_)
            refine code_block ?_
            refine code_seq (fun K20 hK20 => ?_)
            refine code_region ?_
            refine list_cons rfl (op_q (q_move rfl (by decide)) ?_)
            refine list_cons rfl (op_q (q_assign rfl (by decide)) ?_)
            refine list_nil ?_
            refine hK20 _ ?_; clear hK20 K20
            refine code_seq (fun K21 hK21 => ?_)
            refine code_region ?_
            refine list_cons rfl (op_q (q_move rfl (by decide)) ?_)
            refine list_cons rfl (op_q (q_move rfl (by decide)) ?_)
            refine list_cons rfl (op_q (q_index_str Try.underlying9 rfl rfl (by omega) (by omega) (by decide)) ?_)
            refine list_cons rfl (op_q (q_move rfl (by decide)) ?_)
            refine list_cons rfl (op_q (q_eq rfl rfl (by decide)) ?_)
            refine list_nil ?_
            refine hK21 _ ?_; clear hK21 K21
            refine code_cond_d rfl (fun h4 => ?_) (fun h4 => ?_)
            · skip
              (try simp only [Decidable.not_not] at h4)
              refine code_seq (fun K22 hK22 => ?_)
              refine code_region ?_
              refine list_cons rfl (op_q (q_assign rfl (by decide)) ?_)
              refine list_nil ?_
              refine hK22 _ ?_; clear hK22 K22
              refine codeT.imp (σ' := [(0, _), (1, _), (4, _), (5, _), (6, _), (8, _), (9, _), (14, _), (15, _), (16, _), (29, _), (30, _)]) ?_ (imp_covers ⟨rfl, rfl, rfl, rfl, rfl, rfl, rfl, rfl, rfl, rfl, rfl, rfl, trivial⟩)
              refine code_exit ?_
              refine blk_miss (by decide) ?_
              refine then_x ?_; clear hK19 K19
              refine then_x ?_
              refine blk_miss (by decide) ?_
              refine blk_miss (by decide) ?_
              refine then_x ?_; clear hK9 K9
              refine then_x ?_
              refine blk_hit ?_
              refine hK5 _ ?_; clear hK5 K5
              refine code_seq (fun K23 hK23 => ?_)
              refine code_region ?_
              refine list_cons rfl (op_q (q_move rfl (by decide)) ?_)
              refine list_cons rfl (op_q (q_assign rfl (by decide)) ?_)
              refine list_nil ?_
              refine hK23 _ ?_; clear hK23 K23
              refine code_ret ?_
              refine sc_r ?_
              refine ends_ret (cs := []) rfl rfl rfl rfl trivial ?_
              rw [decide_eq_false]
              intro e
              have h9 := mem_at b (l.getD t16.toNat []) (k := t30.toNat) (by omega) (u8_eq h4)
              exact e.2 t16.toNat (by omega) h9
            · skip
              (try simp only [Decidable.not_not] at h4)
              refine code_skip ?_
              refine blk_n ?_
              refine hK19 _ ?_; clear hK19 K19
              refine codeT.imp (σ' := [(0, _), (1, _), (4, _), (5, _), (6, _), (8, _), (9, _), (14, _), (15, _), (16, _), (29, _), (30, _)]) ?_ (imp_covers ⟨rfl, rfl, rfl, rfl, rfl, rfl, rfl, rfl, rfl, rfl, rfl, rfl, trivial⟩)
              refine code_region ?_
              refine list_cons rfl (op_q (by first | exact q_addI rfl rfl (by decide) (by omega) (by omega) | exact q_ib rfl rfl rfl (by decide)) ?_)
              refine list_cons rfl (op_q (q_move rfl (by decide)) ?_)
              refine list_nil ?_
              refine then_n ⟨(_), imp_covers ⟨rfl, rfl, rfl, rfl, rfl, rfl, rfl, rfl, rfl, rfl, rfl, trivial⟩, ?_, ?_⟩
              · (try dsimp only)
                refine ⟨by omega, by omega, ?_⟩
                rw [show (t30 + 1).toNat = t30.toNat + 1 by omega]
                exact mem_take b _ (by omega) i8 (fun e => h4 (by rw [e]))
              · (try dsimp only); omega
          · skip
            (try simp only [Decidable.not_not] at h3)
            refine code_exit ?_
            refine then_x ?_; clear hK18 K18
            refine then_x ?_
            refine blk_hit ?_
            refine blk_n ?_
            refine hK9 _ ?_; clear hK9 K9
            refine code_region ?_
            refine list_cons rfl (op_q (by first | exact q_addI rfl rfl (by decide) (by omega) (by omega) | exact q_ib rfl rfl rfl (by decide)) ?_)
            refine list_cons rfl (op_q (q_move rfl (by decide)) ?_)
            refine list_nil ?_
            refine then_n ⟨(_, _, _, _), imp_covers ⟨rfl, rfl, rfl, rfl, rfl, rfl, rfl, rfl, trivial⟩, ?_, ?_⟩
            · (try dsimp only)
              refine ⟨by omega, by omega, i3, ?_, .inr (by omega), fun j hj => ?_⟩
              · rw [show (t16 + 1).toNat = t16.toNat + 1 by omega, lenS_snoc l (by omega)]; omega
              · by_cases e : j = t16.toNat
                · subst e
                  rw [← List.take_of_length_le (l := l.getD t16.toNat []) (i := t30.toNat) (by omega)]; exact i8
                · exact i6 j (by omega)
            · (try dsimp only); omega
    · skip
      (try simp only [Decidable.not_not] at h1)
      refine code_exit ?_
      refine then_x ?_; clear hK8 K8
      refine then_x ?_
      refine blk_hit ?_
      refine hK5 _ ?_; clear hK5 K5
      refine code_seq (fun K24 hK24 => ?_)
      refine code_region ?_
      refine list_cons rfl (op_q (q_move rfl (by decide)) ?_)
      refine list_cons rfl (op_q (q_assign rfl (by decide)) ?_)
      refine list_nil ?_
      refine hK24 _ ?_; clear hK24 K24
      refine code_ret ?_
      refine sc_r ?_
      refine ends_ret (cs := []) rfl rfl rfl rfl trivial ?_
      rw [i3, decide_eq_true]
      refine ⟨?_, fun j hj => i6 j (by omega)⟩
      rw [List.take_of_length_le (by omega)] at i4
      rcases i5 with e | e
      · have : l.length = 0 := by omega
        rw [List.eq_nil_of_length_eq_zero this]
        decide
      · omega

theorem u8s_map (l : List (List UInt8)) : (l.map fun s => ByteArray.mk s.toArray).map (fun x => x.data.toList) = l := by
  rw [List.map_map]; exact (List.map_congr_left (fun s _ => by simp)).trans (List.map_id l)
theorem join_c (l : List (List UInt8)) (sep : List UInt8) (h1 : l.length ≤ 140737488355328) (h2 : (Lib.join l sep).length ≤ 140737488355328) : PCalls Try.prog 19 [.sl l.length (l.map .str), .str sep] (· = [.val (.str (Lib.join l sep))]) := by
  refine pcalls_flat (enters_of Try.func19 (by kernel_rfl) rfl) fun w vs ha => ?_
  obtain ⟨v0, r0, rfl, ha0, ha⟩ := repArgs_cons ha
  obtain ⟨v1, r1, rfl, ha1, ha⟩ := repArgs_cons ha
  obtain rfl := repArgs_nil ha
  simp only [Rep] at ha0 ha1
  subst ha1
  rcases ha0 with ⟨rfl, hn, hc⟩ | ⟨b, off, cap, us, rfl, hb, hcap, hcell, hr⟩
  · have hl : l = [] := List.eq_nil_of_length_eq_zero hn
    subst hl
    refine (Try.strings_Join_none none 0 (.mk sep.toArray) w).mono fun e w' ⟨he, hw⟩ => ⟨[.string ⟨#[]⟩], [.str []], he, hw ▸ Below.refl _ _, ?_, rfl⟩
    exact ⟨_, _, rfl, by simp [Rep], rfl⟩
  · have hus := strs_rep hr
    have hj := Try.strings_Join b off cap (l.map fun s => ByteArray.mk s.toArray) (.mk sep.toArray) w (fun j x hx => hcell j _ (by rw [hus]; simp at hx ⊢; obtain ⟨s, hs, rfl⟩ := hx; exact ⟨s, hs, rfl⟩)) hb (by simpa using h1) (by simpa using hcap) (by rw [u8s_map]; simpa using h2)
    rw [u8s_map, List.length_map] at hj
    refine hj.mono fun e w' ⟨he, hw⟩ => ⟨[.string ⟨(Lib.join l sep).toArray⟩], [.str (Lib.join l sep)], he ▸ rfl, hw, ?_, rfl⟩
    exact ⟨_, _, rfl, by simp [Rep], rfl⟩

set_option maxRecDepth 4000 in
theorem implJoin_c (l : List (List UInt8)) (sep : List UInt8) (hl : l.length ≤ 1099511627776) (hb : ∀ k, (l.getD k []).length ≤ 4611686018427387904) : PCalls Try.prog 8 [.sl l.length (l.map .str), .str sep] (· = [.val (.str (if sep.length = 1 ∧ 0 < l.length ∧ JoinOk l (sep.getD 0 0) then Lib.join l sep else [])), .val (.bool (decide (sep.length = 1 ∧ 0 < l.length ∧ JoinOk l (sep.getD 0 0))))]) := by
  refine pcalls_of_code (n := 24) az Try.func8 (by kernel_rfl) rfl rfl (Nat.le_of_ble_eq_true rfl) (by intro t u h; simp [Try.f8] at h) ?_
  have hjl := join_len (sep.getD 0 0) l l.length
  rw [List.take_length] at hjl
  refine code_seq (fun K1 hK1 => ?_)
  refine code_region ?_
  refine list_cons rfl (op_q (q_assign rfl (by decide)) ?_)
  refine list_cons rfl (op_q (q_assign rfl (by decide)) ?_)
  refine list_nil ?_
  refine hK1 _ ?_; clear hK1 K1
  refine code_seq (fun K2 hK2 => ?_)
  refine code_seq (fun K3 hK3 => ?_)
  refine code_region ?_
  refine list_cons rfl (op_q (q_move rfl (by decide)) ?_)
  refine list_cons rfl (op_q (q_len_sl Try.underlying26 rfl rfl (by decide)) ?_)
  refine list_cons rfl (op_q (q_eq rfl rfl (by decide)) ?_)
  refine list_cons rfl (op_q (q_move rfl (by decide)) ?_)
  refine list_guard_d rfl rfl rfl rfl (by decide) rfl (by decide) (fun h1 => ?_) (fun h1 => ?_)
  · simp only [Bool.false_eq_true, if_true, if_false, Decidable.not_not] at h1
    (try simp only [Decidable.not_not] at h1)
    refine id (op_q (q_move rfl (by decide)) ?_)
    refine list_guard_y rfl rfl rfl rfl (by decide) rfl ?_
    refine id (op_q (q_len_str Try.underlying9 rfl (by decide)) ?_)
    refine list_guard_y rfl rfl rfl rfl (by decide) rfl ?_
    refine id (op_q (q_ne rfl rfl (by decide)) ?_)
    refine list_cons rfl (op_q (q_pick rfl rfl (by decide)) ?_)
    refine list_cons rfl (op_q (q_move rfl (by decide)) ?_)
    refine list_guard_d rfl rfl rfl rfl (by decide) rfl (by decide) (fun h2 => ?_) (fun h2 => ?_)
    · simp only [Bool.false_eq_true, if_true, if_false, Decidable.not_not] at h2
      (try simp only [Decidable.not_not] at h2)
      refine id (op_q (q_move rfl (by decide)) ?_)
      refine list_guard_y rfl rfl rfl rfl (by decide) rfl ?_
      refine id (op_q (q_move rfl (by decide)) ?_)
      refine list_guard_y rfl rfl rfl rfl (by decide) rfl ?_
      refine id (op_q (q_index_str Try.underlying9 rfl rfl (by omega) (by omega) (by decide)) ?_)
      refine list_guard_y rfl rfl rfl rfl (by decide) rfl ?_
      refine id (op_call _ (canJoin_c _ _ (by omega) hb) rfl rfl (by decide) (by decide) (by decide) rfl ?_)
      rintro _ rfl
      refine list_guard_y rfl rfl rfl rfl (by decide) rfl ?_
      refine id (op_q (by first | exact q_notd rfl (by decide) | exact q_not rfl (by decide)) ?_)
      refine list_cons rfl (op_q (q_pick rfl rfl (by decide)) ?_)
      refine list_nil ?_
      refine hK3 _ ?_; clear hK3 K3
      refine codeT.imp (σ' := [(0, _), (1, _), (4, _), (5, _), (20, _)]) ?_ (imp_covers ⟨rfl, rfl, rfl, rfl, rfl, trivial⟩)
      refine code_cond_d rfl (fun h3 => ?_) (fun h3 => ?_)
      · skip
        (try simp only [Decidable.not_not] at h3)
        refine code_seq (fun K4 hK4 => ?_)
        refine code_region ?_
        refine list_cons rfl (op_q (q_assign rfl (by decide)) ?_)
        refine list_cons rfl (op_q (q_assign rfl (by decide)) ?_)
        refine list_nil ?_
        refine hK4 _ ?_; clear hK4 K4
        refine code_ret ?_
        refine then_r ?_; clear hK2 K2
        refine ends_ret (cs := []) rfl rfl rfl rfl trivial ?_
        first
          | (have e : ¬ (sep.length = 1 ∧ 0 < l.length ∧ JoinOk l (sep.getD 0 0)) := fun k => by have k1 := k.1; have k2 := k.2.1; omega
             simp only [if_neg e, decide_eq_false e])
          | (have e : ¬ (sep.length = 1 ∧ 0 < l.length ∧ JoinOk l (sep.getD 0 0)) := fun k => absurd k.2.2 (by assumption)
             simp only [if_neg e, decide_eq_false e])
          | (have e : (sep.length = 1 ∧ 0 < l.length ∧ JoinOk l (sep.getD 0 0)) := ⟨by omega, by omega, by assumption⟩
             simp only [if_pos e, decide_eq_true e])
      · skip
        (try simp only [Decidable.not_not] at h3)
        refine code_skip ?_
        refine hK2 _ ?_; clear hK2 K2
        refine code_seq (fun K5 hK5 => ?_)
        refine code_region ?_
        refine list_cons rfl (op_q (q_move rfl (by decide)) ?_)
        refine list_cons rfl (op_q (q_move rfl (by decide)) ?_)
        refine list_cons rfl (op_call _ (join_c _ _ (by omega) (by first | omega | (have e := getD_u8 sep 0 (by omega); have h8 := hjl (by omega) (by omega); rw [← e] at h8; have := (by assumption : JoinOk l (sep.getD 0 0)).1; omega))) rfl rfl (by decide) (by decide) (by decide) rfl ?_)
        rintro _ rfl
        refine list_cons rfl (op_q (q_assign rfl (by decide)) ?_)
        refine list_cons rfl (op_q (q_assign rfl (by decide)) ?_)
        refine list_nil ?_
        refine hK5 _ ?_; clear hK5 K5
        refine codeT.imp (σ' := [(0, _), (1, _), (4, _), (5, _)]) ?_ (imp_covers ⟨rfl, rfl, rfl, rfl, trivial⟩)
        refine code_ret ?_
        refine ends_ret (cs := []) rfl rfl rfl rfl trivial ?_
        first
          | (have e : ¬ (sep.length = 1 ∧ 0 < l.length ∧ JoinOk l (sep.getD 0 0)) := fun k => by have k1 := k.1; have k2 := k.2.1; omega
             simp only [if_neg e, decide_eq_false e])
          | (have e : ¬ (sep.length = 1 ∧ 0 < l.length ∧ JoinOk l (sep.getD 0 0)) := fun k => absurd k.2.2 (by assumption)
             simp only [if_neg e, decide_eq_false e])
          | (have e : (sep.length = 1 ∧ 0 < l.length ∧ JoinOk l (sep.getD 0 0)) := ⟨by omega, by omega, by assumption⟩
             simp only [if_pos e, decide_eq_true e])
    · simp only [Bool.false_eq_true, if_true, if_false, Decidable.not_not] at h2
      (try simp only [Decidable.not_not] at h2)
      refine list_guard_n rfl rfl rfl rfl (by decide) rfl ?_
      refine list_guard_n rfl rfl rfl rfl (by decide) rfl ?_
      refine list_guard_n rfl rfl rfl rfl (by decide) rfl ?_
      refine list_guard_n rfl rfl rfl rfl (by decide) rfl ?_
      refine list_cons rfl (op_q (q_pick rfl rfl (by decide)) ?_)
      refine list_nil ?_
      refine hK3 _ ?_; clear hK3 K3
      refine codeT.imp (σ' := [(0, _), (1, _), (4, _), (5, _), (20, _)]) ?_ (imp_covers ⟨rfl, rfl, rfl, rfl, rfl, trivial⟩)
      refine code_cond_t rfl ?_
      refine code_seq (fun K6 hK6 => ?_)
      refine code_region ?_
      refine list_cons rfl (op_q (q_assign rfl (by decide)) ?_)
      refine list_cons rfl (op_q (q_assign rfl (by decide)) ?_)
      refine list_nil ?_
      refine hK6 _ ?_; clear hK6 K6
      refine code_ret ?_
      refine then_r ?_; clear hK2 K2
      refine ends_ret (cs := []) rfl rfl rfl rfl trivial ?_
      first
        | (have e : ¬ (sep.length = 1 ∧ 0 < l.length ∧ JoinOk l (sep.getD 0 0)) := fun k => by have k1 := k.1; have k2 := k.2.1; omega
           simp only [if_neg e, decide_eq_false e])
        | (have e : ¬ (sep.length = 1 ∧ 0 < l.length ∧ JoinOk l (sep.getD 0 0)) := fun k => absurd k.2.2 (by assumption)
           simp only [if_neg e, decide_eq_false e])
        | (have e : (sep.length = 1 ∧ 0 < l.length ∧ JoinOk l (sep.getD 0 0)) := ⟨by omega, by omega, by assumption⟩
           simp only [if_pos e, decide_eq_true e])
  · simp only [Bool.false_eq_true, if_true, if_false, Decidable.not_not] at h1
    (try simp only [Decidable.not_not] at h1)
    refine list_guard_n rfl rfl rfl rfl (by decide) rfl ?_
    refine list_guard_n rfl rfl rfl rfl (by decide) rfl ?_
    refine list_cons rfl (op_q (q_pick rfl rfl (by decide)) ?_)
    refine list_cons rfl (op_q (q_move rfl (by decide)) ?_)
    refine list_guard_n rfl rfl rfl rfl (by decide) rfl ?_
    refine list_guard_n rfl rfl rfl rfl (by decide) rfl ?_
    refine list_guard_n rfl rfl rfl rfl (by decide) rfl ?_
    refine list_guard_n rfl rfl rfl rfl (by decide) rfl ?_
    refine list_guard_n rfl rfl rfl rfl (by decide) rfl ?_
    refine list_cons rfl (op_q (q_pick rfl rfl (by decide)) ?_)
    refine list_nil ?_
    refine hK3 _ ?_; clear hK3 K3
    refine code_cond_t rfl ?_
    refine code_seq (fun K7 hK7 => ?_)
    refine code_region ?_
    refine list_cons rfl (op_q (q_assign rfl (by decide)) ?_)
    refine list_cons rfl (op_q (q_assign rfl (by decide)) ?_)
    refine list_nil ?_
    refine hK7 _ ?_; clear hK7 K7
    refine codeT.imp (σ' := [(0, _), (1, _), (4, _), (5, _)]) ?_ (imp_covers ⟨rfl, rfl, rfl, rfl, trivial⟩)
    refine code_ret ?_
    refine then_r ?_; clear hK2 K2
    refine ends_ret (cs := []) rfl rfl rfl rfl trivial ?_
    first
      | (have e : ¬ (sep.length = 1 ∧ 0 < l.length ∧ JoinOk l (sep.getD 0 0)) := fun k => by have k1 := k.1; have k2 := k.2.1; omega
         simp only [if_neg e, decide_eq_false e])
      | (have e : ¬ (sep.length = 1 ∧ 0 < l.length ∧ JoinOk l (sep.getD 0 0)) := fun k => absurd k.2.2 (by assumption)
         simp only [if_neg e, decide_eq_false e])
      | (have e : (sep.length = 1 ∧ 0 < l.length ∧ JoinOk l (sep.getD 0 0)) := ⟨by omega, by omega, by assumption⟩
         simp only [if_pos e, decide_eq_true e])

set_option maxRecDepth 4000 in
theorem stands_c (s : List UInt8) (b : UInt8) (hs : s.length ≤ 4611686018427387904) : PCalls Try.prog 20 [.str s, .int .u8 b.toNat] (· = [.val (.bool (decide (b ∈ s)))]) := by
  refine pcalls_of_code (n := 17) az Try.func20 (by kernel_rfl) rfl rfl (Nat.le_of_ble_eq_true rfl) (by intro t u h; simp [Try.f20] at h) ?_
  refine code_seq (fun K1 hK1 => ?_)
  refine code_region ?_
  refine list_cons rfl (op_q (q_assign rfl (by decide)) ?_)
  refine list_nil ?_
  refine hK1 _ ?_; clear hK1 K1
  refine code_seq (fun K2 hK2 => ?_)
  refine code_seq (fun K3 hK3 => ?_)
  refine code_region ?_
  refine list_cons rfl (op_q (q_assign rfl (by decide)) ?_)
  refine list_nil ?_
  refine hK3 _ ?_; clear hK3 K3
  refine code_block ?_
  refine code_loop (X := Bool × Int) (fun x => [(0, .val (.str s)), (1, .val (.int .u8 b.toNat)), (4, .val (.bool x.1)), (5, .val (.int .i64 x.2))]) (fun x => 0 ≤ x.2 ∧ x.2 ≤ s.length ∧ b ∉ s.take x.2.toNat) (fun x => s.length - x.2.toNat) (_, _) (imp_covers ⟨rfl, rfl, rfl, rfl, trivial⟩) ?_ ?_
  · (try dsimp only)
    exact ⟨by omega, by omega, by simp⟩
  · intro x hI
    obtain ⟨t4, i⟩ := x
    replace hI : 0 ≤ i ∧ i ≤ s.length ∧ b ∉ s.take i.toNat := hI
    show codeT _ _ _ [(0, .val (.str s)), (1, .val (.int .u8 b.toNat)), (4, .val (.bool t4)), (5, .val (.int .i64 i))] _
    obtain ⟨i1, i2, i3⟩ := hI
    refine code_seq (fun K4 hK4 => ?_)
    refine code_seq (fun K5 hK5 => ?_)
    refine code_region ?_
    refine list_cons rfl (op_q (q_move rfl (by decide)) ?_)
    refine list_cons rfl (op_q (q_move rfl (by decide)) ?_)
    refine list_cons rfl (op_q (q_len_str Try.underlying9 rfl (by decide)) ?_)
    refine list_cons rfl (op_q (q_lt rfl rfl (by decide)) ?_)
    refine list_nil ?_
    refine hK5 _ ?_; clear hK5 K5
    refine code_cond_d rfl (fun h1 => ?_) (fun h1 => ?_)
    · skip
      (try simp only [Decidable.not_not] at h1)
      refine code_skip ?_
      refine hK4 _ ?_; clear hK4 K4
      refine code_seq (fun K6 hK6 => ?_)
      refine code_block ?_
      refine code_seq (fun K7 hK7 => ?_)
      refine code_region ?_
      refine list_cons rfl (op_q (q_move rfl (by decide)) ?_)
      refine list_cons rfl (op_q (q_move rfl (by decide)) ?_)
      refine list_cons rfl (op_q (q_index_str Try.underlying9 rfl rfl (by omega) (by omega) (by decide)) ?_)
      refine list_cons rfl (op_q (q_move rfl (by decide)) ?_)
      refine list_cons rfl (op_q (q_eq rfl rfl (by decide)) ?_)
      refine list_nil ?_
      refine hK7 _ ?_; clear hK7 K7
      refine codeT.imp (σ' := [(0, _), (1, _), (4, _), (5, _), (16, _)]) ?_ (imp_covers ⟨rfl, rfl, rfl, rfl, rfl, trivial⟩)
      refine code_cond_d rfl (fun h2 => ?_) (fun h2 => ?_)
      · skip
        (try simp only [Decidable.not_not] at h2)
        refine code_seq (fun K8 hK8 => ?_)
        refine code_region ?_
        refine list_cons rfl (op_q (q_assign rfl (by decide)) ?_)
        refine list_nil ?_
        refine hK8 _ ?_; clear hK8 K8
        refine code_ret ?_
        refine blk_r ?_
        refine then_r ?_; clear hK6 K6
        refine then_r ?_
        refine blk_r ?_
        refine then_r ?_; clear hK2 K2
        refine ends_ret (cs := []) rfl rfl rfl rfl trivial ?_
        rw [decide_eq_true (mem_at b s (k := i.toNat) (by omega) (u8_eq h2))]
      · skip
        (try simp only [Decidable.not_not] at h2)
        refine code_skip ?_
        refine blk_n ?_
        refine hK6 _ ?_; clear hK6 K6
        refine code_region ?_
        refine list_cons rfl (op_q (q_move rfl (by decide)) ?_)
        refine list_cons rfl (op_q (by first | exact q_addI rfl rfl (by decide) (by omega) (by omega) | exact q_ib rfl rfl rfl (by decide)) ?_)
        refine list_cons rfl (op_q (q_assign rfl (by decide)) ?_)
        refine list_nil ?_
        refine then_n ⟨(_, _), imp_covers ⟨rfl, rfl, rfl, rfl, trivial⟩, ?_, ?_⟩
        · (try dsimp only)
          refine ⟨by omega, by omega, ?_⟩
          rw [show (i + 1).toNat = i.toNat + 1 by omega]
          exact mem_take b s (by omega) i3 (fun e => h2 (by rw [e]))
        · (try dsimp only); omega
    · skip
      (try simp only [Decidable.not_not] at h1)
      refine code_exit ?_
      refine then_x ?_; clear hK4 K4
      refine then_x ?_
      refine blk_hit ?_
      refine hK2 _ ?_; clear hK2 K2
      refine code_seq (fun K9 hK9 => ?_)
      refine code_region ?_
      refine list_cons rfl (op_q (q_assign rfl (by decide)) ?_)
      refine list_nil ?_
      refine hK9 _ ?_; clear hK9 K9
      refine code_ret ?_
      refine ends_ret (cs := []) rfl rfl rfl rfl trivial ?_
      rw [List.take_of_length_le (by omega)] at i3; rw [decide_eq_false i3]

theorem long_out (l : List (List UInt8)) (sep : List UInt8) (k : Nat) (h : k < l.length) (h1 : sep.length = 1) (e : JoinOk l (sep.getD 0 0)) : (Lib.join (l.take (k + 1)) sep).length ≤ 4000 := by
  have e2 := getD_u8 sep 0 h1
  have := join_len (sep.getD 0 0) l (k + 1) (by omega) (by omega)
  rw [← e2] at this
  have h2 := lenS_le l (k + 1)
  have := e.1
  omega

set_option maxRecDepth 4000 in
theorem specJoin_c (l : List (List UInt8)) (sep : List UInt8) (hl : l.length ≤ 1099511627776) (hb : ∀ k, (l.getD k []).length ≤ 4611686018427387904) : PCalls Try.prog 9 [.sl l.length (l.map .str), .str sep] (· = [.val (.str (if sep.length = 1 ∧ 0 < l.length ∧ JoinOk l (sep.getD 0 0) then Lib.join l sep else [])), .val (.bool (decide (sep.length = 1 ∧ 0 < l.length ∧ JoinOk l (sep.getD 0 0))))]) := by
  refine pcalls_of_code (n := 44) az Try.func9 (by kernel_rfl) rfl rfl (Nat.le_of_ble_eq_true rfl) (by intro t u h; simp [Try.f9] at h) ?_
  have hjl := fun k => join_len (sep.getD 0 0) l k
  refine code_seq (fun K1 hK1 => ?_)
  refine code_region ?_
  refine list_cons rfl (op_q (q_assign rfl (by decide)) ?_)
  refine list_cons rfl (op_q (q_assign rfl (by decide)) ?_)
  refine list_nil ?_
  refine hK1 _ ?_; clear hK1 K1
  refine code_seq (fun K2 hK2 => ?_)
  refine code_seq (fun K3 hK3 => ?_)
  refine code_region ?_
  refine list_cons rfl (op_q (q_move rfl (by decide)) ?_)
  refine list_cons rfl (op_q (q_len_str Try.underlying9 rfl (by decide)) ?_)
  refine list_cons rfl (op_q (q_ne rfl rfl (by decide)) ?_)
  refine list_cons rfl (op_q (q_move rfl (by decide)) ?_)
  refine list_guard_d rfl rfl rfl rfl (by decide) rfl (by decide) (fun h1 => ?_) (fun h1 => ?_)
  · simp only [Bool.false_eq_true, if_true, if_false, Decidable.not_not] at h1
    refine id (op_q (q_move rfl (by decide)) ?_)
    refine list_guard_y rfl rfl rfl rfl (by decide) rfl ?_
    refine id (op_q (q_len_sl Try.underlying26 rfl rfl (by decide)) ?_)
    refine list_guard_y rfl rfl rfl rfl (by decide) rfl ?_
    refine id (op_q (q_eq rfl rfl (by decide)) ?_)
    refine list_cons rfl (op_q (q_pick rfl rfl (by decide)) ?_)
    refine list_nil ?_
    refine hK3 _ ?_; clear hK3 K3
    refine codeT.imp (σ' := [(0, _), (1, _), (4, _), (5, _), (15, _)]) ?_ (imp_covers ⟨rfl, rfl, rfl, rfl, rfl, trivial⟩)
    refine code_cond_d rfl (fun h2 => ?_) (fun h2 => ?_)
    · skip
      (try simp only [Decidable.not_not] at h2)
      refine code_seq (fun K4 hK4 => ?_)
      refine code_region ?_
      refine list_cons rfl (op_q (q_assign rfl (by decide)) ?_)
      refine list_cons rfl (op_q (q_assign rfl (by decide)) ?_)
      refine list_nil ?_
      refine hK4 _ ?_; clear hK4 K4
      refine code_ret ?_
      refine then_r ?_; clear hK2 K2
      refine ends_ret (cs := []) rfl rfl rfl rfl trivial ?_
      have e : ¬ (sep.length = 1 ∧ 0 < l.length ∧ JoinOk l (sep.getD 0 0)) := fun k => by have k1 := k.1; have k2 := k.2.1; omega
      simp only [if_neg e, decide_eq_false e]
    · skip
      (try simp only [Decidable.not_not] at h2)
      refine code_skip ?_
      refine hK2 _ ?_; clear hK2 K2
      refine code_seq (fun K5 hK5 => ?_)
      refine code_region ?_
      refine list_cons rfl (op_q (q_assign rfl (by decide)) ?_)
      refine list_nil ?_
      refine hK5 _ ?_; clear hK5 K5
      refine code_seq (fun K6 hK6 => ?_)
      refine code_seq (fun K7 hK7 => ?_)
      refine code_region ?_
      refine list_cons rfl (op_q (q_assign rfl (by decide)) ?_)
      refine list_nil ?_
      refine hK7 _ ?_; clear hK7 K7
      refine code_block ?_
      refine code_loop (X := List UInt8 × Bool × List UInt8 × Int) (fun x => [(0, .par 0 (.sl l.length (l.map .str))), (1, .val (.str sep)), (4, .val (.str x.1)), (5, .val (.bool x.2.1)), (6, .val (.str x.2.2.1)), (7, .val (.int .i64 x.2.2.2))]) (fun x => 0 ≤ x.2.2.2 ∧ x.2.2.2 ≤ l.length ∧ x.2.2.1 = Lib.join (l.take x.2.2.2.toNat) sep ∧ x.2.2.1.length ≤ 4000 ∧ ∀ j, j < x.2.2.2.toNat → sep.getD 0 0 ∉ l.getD j []) (fun x => l.length - x.2.2.2.toNat) (_, _, _, _) (imp_covers ⟨rfl, rfl, rfl, rfl, rfl, rfl, trivial⟩) ?_ ?_
      · (try dsimp only)
        exact ⟨by omega, by omega, rfl, by simp, fun j hj => by simp at hj⟩
      · intro x hI
        obtain ⟨t4, t5, out, i⟩ := x
        replace hI : 0 ≤ i ∧ i ≤ l.length ∧ out = Lib.join (l.take i.toNat) sep ∧ out.length ≤ 4000 ∧ ∀ j, j < i.toNat → sep.getD 0 0 ∉ l.getD j [] := hI
        show codeT _ _ _ [(0, .par 0 (.sl l.length (l.map .str))), (1, .val (.str sep)), (4, .val (.str t4)), (5, .val (.bool t5)), (6, .val (.str out)), (7, .val (.int .i64 i))] _
        obtain ⟨i1, i2, i3, i4, i5⟩ := hI
        have hpl := hb i.toNat
        refine code_seq (fun K8 hK8 => ?_)
        refine code_seq (fun K9 hK9 => ?_)
        refine code_region ?_
        refine list_cons rfl (op_q (q_move rfl (by decide)) ?_)
        refine list_cons rfl (op_q (q_move rfl (by decide)) ?_)
        refine list_cons rfl (op_q (q_len_sl Try.underlying26 rfl rfl (by decide)) ?_)
        refine list_cons rfl (op_q (q_lt rfl rfl (by decide)) ?_)
        refine list_nil ?_
        refine hK9 _ ?_; clear hK9 K9
        refine code_cond_d rfl (fun h3 => ?_) (fun h3 => ?_)
        · skip
          (try simp only [Decidable.not_not] at h3)
          refine code_skip ?_
          refine hK8 _ ?_; clear hK8 K8
          refine code_seq (fun K10 hK10 => ?_)
          refine code_block ?_
          refine code_seq (fun K11 hK11 => ?_)
          refine code_seq (fun K12 hK12 => ?_)
          refine code_draw (by kernel_rfl) (by kernel_rfl) ?_
          refine draw_q rfl (q_move rfl (by decide)) ?_
          refine draw_q rfl (q_move rfl (by decide)) ?_
          refine draw_q rfl (q_indexAddr_rd sl_26 rfl (.inl ⟨_, rfl, rfl⟩) rfl (by omega) (by omega) (by decide)) ?_
          refine draw_q rfl (q_load_rd one_9 rfl (.inl ⟨_, (by first | rfl | exact congrArg (SV.rpar _) (drop_map1 _ [] _ (by first | omega | (simp; omega)))), rfl⟩) (by decide)) ?_
          refine draw_q rfl (q_move rfl (by decide)) ?_
          refine draw_q rfl (q_index_str Try.underlying9 rfl rfl (by omega) (by omega) (by decide)) ?_
          refine draw_call _ (stands_c _ _ (by first | omega | exact hb _)) rfl rfl rfl (by decide) ?_
          refine draw_nil ?_
          refine hK12 _ ?_; clear hK12 K12
          refine codeT.imp (σ' := [(0, _), (1, _), (4, _), (5, _), (6, _), (7, _), (28, _)]) ?_ (imp_covers ⟨rfl, rfl, rfl, rfl, rfl, rfl, rfl, trivial⟩)
          refine code_cond_d rfl (fun h4 => ?_) (fun h4 => ?_)
          · skip
            (try simp only [Decidable.not_not] at h4)
            refine code_seq (fun K13 hK13 => ?_)
            refine code_region ?_
            refine list_cons rfl (op_q (q_assign rfl (by decide)) ?_)
            refine list_cons rfl (op_q (q_assign rfl (by decide)) ?_)
            refine list_nil ?_
            refine hK13 _ ?_; clear hK13 K13
            refine code_ret ?_
            refine then_r ?_; clear hK11 K11
            refine blk_r ?_
            refine then_r ?_; clear hK10 K10
            refine then_r ?_
            refine blk_r ?_
            refine then_r ?_; clear hK6 K6
            refine ends_ret (cs := []) rfl rfl rfl rfl trivial ?_
            have e : ¬ (sep.length = 1 ∧ 0 < l.length ∧ JoinOk l (sep.getD 0 0)) := fun k => k.2.2.2 i.toNat (by omega) h4
            simp only [if_neg e, decide_eq_false e]
          · skip
            (try simp only [Decidable.not_not] at h4)
            refine code_skip ?_
            refine hK11 _ ?_; clear hK11 K11
            refine code_seq (fun K14 hK14 => ?_)
            refine code_seq (fun K15 hK15 => ?_)
            refine code_region ?_
            refine list_cons rfl (op_q (q_move rfl (by decide)) ?_)
            refine list_cons rfl (op_q (q_gt rfl rfl (by decide)) ?_)
            refine list_nil ?_
            refine hK15 _ ?_; clear hK15 K15
            refine code_cond_d rfl (fun h5 => ?_) (fun h5 => ?_)
            · skip
              (try simp only [Decidable.not_not] at h5)
              refine code_region ?_
              refine list_cons rfl (op_q (q_move rfl (by decide)) ?_)
              refine list_cons rfl (op_q (q_move rfl (by decide)) ?_)
              refine list_cons rfl (op_q (q_cat rfl rfl (by first | omega | (simp only [List.length_append, List.length_cons, List.length_nil]; omega) | (simp; omega)) (by decide)) ?_)
              refine list_cons rfl (op_q (q_assign rfl (by decide)) ?_)
              refine list_nil ?_
              refine hK14 _ ?_; clear hK14 K14
              refine code_seq (fun K16 hK16 => ?_)
              refine code_region ?_
              refine list_cons rfl (op_q (q_move rfl (by decide)) ?_)
              refine list_cons rfl (op_q (q_move rfl (by decide)) ?_)
              refine list_cons rfl (op_q (q_move rfl (by decide)) ?_)
              refine list_cons rfl (op_q (q_indexAddr_rd sl_26 rfl (.inl ⟨_, rfl, rfl⟩) rfl (by omega) (by omega) (by decide)) ?_)
              refine list_cons rfl (op_q (q_load_rd one_9 rfl (.inl ⟨_, (by first | rfl | exact congrArg (SV.rpar _) (drop_map1 _ [] _ (by first | omega | (simp; omega)))), rfl⟩) (by decide)) ?_)
              refine list_cons rfl (op_q (q_cat rfl rfl (by first | omega | (simp only [List.length_append, List.length_cons, List.length_nil]; omega) | (simp; omega)) (by decide)) ?_)
              refine list_cons rfl (op_q (q_assign rfl (by decide)) ?_)
              refine list_nil ?_
              refine hK16 _ ?_; clear hK16 K16
              refine codeT.imp (σ' := [(0, _), (1, _), (4, _), (5, _), (6, _), (7, _)]) ?_ (imp_covers ⟨rfl, rfl, rfl, rfl, rfl, rfl, trivial⟩)
              refine code_seq (fun K17 hK17 => ?_)
              refine code_region ?_
              refine list_cons rfl (op_q (q_move rfl (by decide)) ?_)
              refine list_cons rfl (op_q (q_len_str Try.underlying9 rfl (by decide)) ?_)
              refine list_cons rfl (op_q (q_gt rfl rfl (by decide)) ?_)
              refine list_nil ?_
              refine hK17 _ ?_; clear hK17 K17
              refine code_cond_d rfl (fun h6 => ?_) (fun h6 => ?_)
              · skip
                (try simp only [Decidable.not_not] at h6)
                refine code_seq (fun K18 hK18 => ?_)
                refine code_region ?_
                refine list_cons rfl (op_q (q_assign rfl (by decide)) ?_)
                refine list_cons rfl (op_q (q_assign rfl (by decide)) ?_)
                refine list_nil ?_
                refine hK18 _ ?_; clear hK18 K18
                refine code_ret ?_
                refine blk_r ?_
                refine then_r ?_; clear hK10 K10
                refine then_r ?_
                refine blk_r ?_
                refine then_r ?_; clear hK6 K6
                refine ends_ret (cs := []) rfl rfl rfl rfl trivial ?_
                have e : ¬ (sep.length = 1 ∧ 0 < l.length ∧ JoinOk l (sep.getD 0 0)) := fun k => by
                  have e1 := long_out l sep i.toNat (by omega) (by omega) k.2.2
                  rw [join_take sep l (by omega), if_pos (by omega), ← i3] at e1
                  omega
                simp only [if_neg e, decide_eq_false e]
              · skip
                (try simp only [Decidable.not_not] at h6)
                refine code_skip ?_
                refine blk_n ?_
                refine hK10 _ ?_; clear hK10 K10
                refine code_region ?_
                refine list_cons rfl (op_q (q_move rfl (by decide)) ?_)
                refine list_cons rfl (op_q (by first | exact q_addI rfl rfl (by decide) (by omega) (by omega) | exact q_ib rfl rfl rfl (by decide)) ?_)
                refine list_cons rfl (op_q (q_assign rfl (by decide)) ?_)
                refine list_nil ?_
                refine then_n ⟨(_, _, _, _), imp_covers ⟨rfl, rfl, rfl, rfl, rfl, rfl, trivial⟩, ?_, ?_⟩
                · (try dsimp only)
                  have e : sep = [sep.getD 0 0] := getD_u8 sep 0 (by omega)
                  refine ⟨by omega, by omega, ?_, by omega, fun j hj => ?_⟩
                  · rw [show (i + 1).toNat = i.toNat + 1 by omega, join_take sep l (by omega), i3]
                    first | rw [if_pos (by omega)] | (rw [if_neg (by omega), show i.toNat = 0 by omega]; rfl)
                  · by_cases e : j = i.toNat
                    · subst e; assumption
                    · exact i5 j (by omega)
                · (try dsimp only); omega
            · skip
              (try simp only [Decidable.not_not] at h5)
              refine code_skip ?_
              refine hK14 _ ?_; clear hK14 K14
              refine code_seq (fun K19 hK19 => ?_)
              refine code_region ?_
              refine list_cons rfl (op_q (q_move rfl (by decide)) ?_)
              refine list_cons rfl (op_q (q_move rfl (by decide)) ?_)
              refine list_cons rfl (op_q (q_move rfl (by decide)) ?_)
              refine list_cons rfl (op_q (q_indexAddr_rd sl_26 rfl (.inl ⟨_, rfl, rfl⟩) rfl (by omega) (by omega) (by decide)) ?_)
              refine list_cons rfl (op_q (q_load_rd one_9 rfl (.inl ⟨_, (by first | rfl | exact congrArg (SV.rpar _) (drop_map1 _ [] _ (by first | omega | (simp; omega)))), rfl⟩) (by decide)) ?_)
              refine list_cons rfl (op_q (q_cat rfl rfl (by first | omega | (simp only [List.length_append, List.length_cons, List.length_nil]; omega) | (simp; omega)) (by decide)) ?_)
              refine list_cons rfl (op_q (q_assign rfl (by decide)) ?_)
              refine list_nil ?_
              refine hK19 _ ?_; clear hK19 K19
              refine codeT.imp (σ' := [(0, _), (1, _), (4, _), (5, _), (6, _), (7, _)]) ?_ (imp_covers ⟨rfl, rfl, rfl, rfl, rfl, rfl, trivial⟩)
              refine code_seq (fun K20 hK20 => ?_)
              refine code_region ?_
              refine list_cons rfl (op_q (q_move rfl (by decide)) ?_)
              refine list_cons rfl (op_q (q_len_str Try.underlying9 rfl (by decide)) ?_)
              refine list_cons rfl (op_q (q_gt rfl rfl (by decide)) ?_)
              refine list_nil ?_
              refine hK20 _ ?_; clear hK20 K20
              refine code_cond_d rfl (fun h7 => ?_) (fun h7 => ?_)
              · skip
                (try simp only [Decidable.not_not] at h7)
                refine code_seq (fun K21 hK21 => ?_)
                refine code_region ?_
                refine list_cons rfl (op_q (q_assign rfl (by decide)) ?_)
                refine list_cons rfl (op_q (q_assign rfl (by decide)) ?_)
                refine list_nil ?_
                refine hK21 _ ?_; clear hK21 K21
                refine code_ret ?_
                refine blk_r ?_
                refine then_r ?_; clear hK10 K10
                refine then_r ?_
                refine blk_r ?_
                refine then_r ?_; clear hK6 K6
                refine ends_ret (cs := []) rfl rfl rfl rfl trivial ?_
                have e : ¬ (sep.length = 1 ∧ 0 < l.length ∧ JoinOk l (sep.getD 0 0)) := fun k => by
                  have e1 := long_out l sep i.toNat (by omega) (by omega) k.2.2
                  have e2 : out = [] := by rw [i3, show i.toNat = 0 by omega]; rfl
                  rw [join_take sep l (by omega), if_neg (by omega), List.nil_append] at e1
                  rw [e2, List.nil_append] at h7
                  omega
                simp only [if_neg e, decide_eq_false e]
              · skip
                (try simp only [Decidable.not_not] at h7)
                refine code_skip ?_
                refine blk_n ?_
                refine hK10 _ ?_; clear hK10 K10
                refine code_region ?_
                refine list_cons rfl (op_q (q_move rfl (by decide)) ?_)
                refine list_cons rfl (op_q (by first | exact q_addI rfl rfl (by decide) (by omega) (by omega) | exact q_ib rfl rfl rfl (by decide)) ?_)
                refine list_cons rfl (op_q (q_assign rfl (by decide)) ?_)
                refine list_nil ?_
                refine then_n ⟨(_, _, _, _), imp_covers ⟨rfl, rfl, rfl, rfl, rfl, rfl, trivial⟩, ?_, ?_⟩
                · (try dsimp only)
                  have e : sep = [sep.getD 0 0] := getD_u8 sep 0 (by omega)
                  refine ⟨by omega, by omega, ?_, by omega, fun j hj => ?_⟩
                  · rw [show (i + 1).toNat = i.toNat + 1 by omega, join_take sep l (by omega), i3]
                    first | rw [if_pos (by omega)] | (rw [if_neg (by omega), show i.toNat = 0 by omega]; rfl)
                  · by_cases e : j = i.toNat
                    · subst e; assumption
                    · exact i5 j (by omega)
                · (try dsimp only); omega
        · skip
          (try simp only [Decidable.not_not] at h3)
          refine code_exit ?_
          refine then_x ?_; clear hK8 K8
          refine then_x ?_
          refine blk_hit ?_
          refine hK6 _ ?_; clear hK6 K6
          refine code_seq (fun K22 hK22 => ?_)
          refine code_region ?_
          refine list_cons rfl (op_q (q_move rfl (by decide)) ?_)
          refine list_cons rfl (op_q (q_assign rfl (by decide)) ?_)
          refine list_cons rfl (op_q (q_assign rfl (by decide)) ?_)
          refine list_nil ?_
          refine hK22 _ ?_; clear hK22 K22
          refine code_ret ?_
          refine ends_ret (cs := []) rfl rfl rfl rfl trivial ?_
          rw [List.take_of_length_le (by omega)] at i3
          have e : (sep.length = 1 ∧ 0 < l.length ∧ JoinOk l (sep.getD 0 0)) := ⟨by omega, by omega, by
            have e1 := hjl l.length (by omega) (by omega)
            have e2 := getD_u8 sep 0 (by omega)
            rw [List.take_length, ← e2, ← i3] at e1
            omega, fun j hj => i5 j (by omega)⟩
          simp only [if_pos e, decide_eq_true e, i3]
  · simp only [Bool.false_eq_true, if_true, if_false, Decidable.not_not] at h1
    refine list_guard_n rfl rfl rfl rfl (by decide) rfl ?_
    refine list_guard_n rfl rfl rfl rfl (by decide) rfl ?_
    refine list_cons rfl (op_q (q_pick rfl rfl (by decide)) ?_)
    refine list_nil ?_
    refine hK3 _ ?_; clear hK3 K3
    refine code_cond_t rfl ?_
    refine code_seq (fun K23 hK23 => ?_)
    refine code_region ?_
    refine list_cons rfl (op_q (q_assign rfl (by decide)) ?_)
    refine list_cons rfl (op_q (q_assign rfl (by decide)) ?_)
    refine list_nil ?_
    refine hK23 _ ?_; clear hK23 K23
    refine code_ret ?_
    refine then_r ?_; clear hK2 K2
    refine ends_ret (cs := []) rfl rfl rfl rfl trivial ?_
    have e : ¬ (sep.length = 1 ∧ 0 < l.length ∧ JoinOk l (sep.getD 0 0)) := fun k => by have k1 := k.1; have k2 := k.2.1; omega
    simp only [if_neg e, decide_eq_false e]

set_option maxRecDepth 4000 in
theorem implLess_c (a b : List UInt8) : PCalls Try.prog 11 [.str a, .str b] (· = [.val (.bool (decide (Op.bytesLess a b = true)))]) := by
  refine pcalls_of_code (n := 8) az Try.func11 (by kernel_rfl) rfl rfl (Nat.le_of_ble_eq_true rfl) (by intro t u h; simp [Try.f11] at h) ?_
  refine code_seq (fun K1 hK1 => ?_)
  refine code_region ?_
  refine list_cons rfl (op_q (q_assign rfl (by decide)) ?_)
  refine list_nil ?_
  refine hK1 _ ?_; clear hK1 K1
  refine code_seq (fun K2 hK2 => ?_)
  refine code_region ?_
  refine list_cons rfl (op_q (q_move rfl (by decide)) ?_)
  refine list_cons rfl (op_q (q_move rfl (by decide)) ?_)
  refine list_cons rfl (op_q (q_sb rfl rfl rfl (by decide)) ?_)
  refine list_cons rfl (op_q (q_assign rfl (by decide)) ?_)
  refine list_nil ?_
  refine hK2 _ ?_; clear hK2 K2
  refine code_ret ?_
  refine ends_ret (cs := []) rfl rfl rfl rfl trivial ?_
  first | rfl | (cases h : Op.bytesLess a b <;> rfl)

set_option maxRecDepth 4000 in
theorem specLess_c (a b : List UInt8) : PCalls Try.prog 12 [.str a, .str b] (· = [.val (.bool (decide (Op.bytesLess a b = true)))]) := by
  refine pcalls_of_code (n := 8) az Try.func12 (by kernel_rfl) rfl rfl (Nat.le_of_ble_eq_true rfl) (by intro t u h; simp [Try.f12] at h) ?_
  refine code_seq (fun K1 hK1 => ?_)
  refine code_region ?_
  refine list_cons rfl (op_q (q_assign rfl (by decide)) ?_)
  refine list_nil ?_
  refine hK1 _ ?_; clear hK1 K1
  refine code_seq (fun K2 hK2 => ?_)
  refine code_region ?_
  refine list_cons rfl (op_q (q_move rfl (by decide)) ?_)
  refine list_cons rfl (op_q (q_move rfl (by decide)) ?_)
  refine list_cons rfl (op_q (q_sb rfl rfl rfl (by decide)) ?_)
  refine list_cons rfl (op_q (q_assign rfl (by decide)) ?_)
  refine list_nil ?_
  refine hK2 _ ?_; clear hK2 K2
  refine code_ret ?_
  refine ends_ret (cs := []) rfl rfl rfl rfl trivial ?_
  first | rfl | (cases h : Op.bytesLess a b <;> rfl)

end Go.Proofs.Ythgiialammjcbab
