/- Contracts of functions, walked over the pure layer; each says for which arguments. -/
import Derived.Test.YtjbbijlbenkgcaaDoorI4cTy
import Derived.Test.YtjbbijlbenkgcaaDoorTf
import Derived.Test.YtjbbijlbenkgcaaDoorSp
import Derived.Test.YtjbbijlbenkgcaaDoorS4
import Derived.Test.YtjbbijlbenkgcaaDoorS4c
import Derived.Test.YtjbbijlbenkgcaaDoorShelf
import Derived.Test.YtjbbijlbenkgcaaDoorIm
import Derived.Test.YtjbbijlbenkgcaaDoorS5
namespace Go.Proofs.YtjbbijlbenkgcaaDoor
open Go.RowKit I4cTy
set_option linter.unusedVariables false
set_option linter.unusedSimpArgs false

def usd (l : List Int) (k : Nat) : List PV := (List.range 10).map (fun (d : Nat) => PV.bool (decide (hasK l (d : Int) k = true)))
theorem usd_len (l : List Int) (k : Nat) : (usd l k).length = 10 := by simp [usd]
theorem usd_flat (l : List Int) (k : Nat) : PV.flatL (usd l k) = true := flat_map _ (fun _ => rfl) _
theorem usd_get (l : List Int) (k : Nat) {d : Int} (h0 : 0 ≤ d) (h1 : d < 10) : (usd l k)[d.toNat]? = some (.bool (decide (hasK l d k = true))) := by
  unfold usd
  rw [List.getElem?_map, List.getElem?_range (by omega), Option.map_some, Int.toNat_of_nonneg h0]
theorem usd_get1 (l : List Int) (k : Nat) {d : Int} (h0 : 0 ≤ d) (h1 : d < 10) : (usd l k)[d.toNat * 1]? = some (.bool (decide (hasK l d k = true))) := by
  rw [Nat.mul_one]; exact usd_get l k h0 h1
theorem usd_put (l : List Int) (k : Nat) {d : Int} {o : Nat} (h0 : 0 ≤ d) (h1 : d < 10) (hd : l.getD k 0 = d) (ho : o = d.toNat) : putAt (usd l k) o [PV.bool true] = usd l (k + 1) := by
  subst ho
  have hl := usd_len l k
  apply List.ext_getElem?
  intro j
  rw [putAt, List.append_assoc, List.getElem?_append, List.length_take, hl, show min d.toNat 10 = d.toNat by omega]
  by_cases hj : j < 10
  · have e2 := usd_get l (k + 1) (d := j) (by omega) (by omega)
    have e1 := usd_get l k (d := j) (by omega) (by omega)
    rw [Int.toNat_natCast] at e1 e2
    rw [e2, hasK, hd]
    by_cases c : j < d.toNat
    · rw [if_pos c, List.getElem?_take, if_pos c, e1, decide_eq_false (show ¬ d = (j : Int) by omega), Bool.or_false]
    · rw [if_neg c]
      by_cases c2 : j = d.toNat
      · rw [c2, Nat.sub_self, decide_eq_true (show d = ((d.toNat : Nat) : Int) by omega), Bool.or_true]; rfl
      · rw [List.getElem?_append, if_neg (by simp only [List.length_cons, List.length_nil]; omega), List.getElem?_drop, List.length_cons, List.length_nil, show d.toNat + (0 + 1) + (j - d.toNat - (0 + 1)) = j by omega, e1, decide_eq_false (show ¬ d = (j : Int) by omega), Bool.or_false]
  · have e2 : (usd l (k + 1))[j]? = none := List.getElem?_eq_none (by rw [usd_len]; omega)
    rw [e2, if_neg (by omega)]
    exact List.getElem?_eq_none (by simp only [List.length_append, List.length_cons, List.length_nil, List.length_drop, hl]; omega)
theorem usd_0 (l : List Int) : List.replicate 10 (PV.bool false) = usd l 0 := rfl
def lnk (l : List Int) (r : Bool) : Nat := if r then l.length else l.length - 1
theorem tab_get {a b : Nat} (ha : a < 10) (hb : b < 10) : ((tabS 100).map (PV.int .i64))[a * 10 + b * 1]? = some (.int .i64 (dgt a b)) := by
  have h2 := get_map1 (PV.int .i64) 0 (tabS 100) (k := a * 10 + b) (by simp [tabS, filN_len]; omega)
  rw [Nat.mul_one] at h2
  rw [Nat.mul_one, h2, tab_at ha hb]
theorem lnk_le (l : List Int) (r : Bool) : lnk l r ≤ l.length := by unfold lnk; split <;> omega

set_option maxRecDepth 4000 in
theorem impl_isOrder (l : List Int) (hl : l.length ≤ 4611686018427387904) : PCalls Tryd.prog 98 [.sl l.length (l.map (.int .i64))] (· = [.val (.bool (decide (ordK l l.length = true)))]) := by
  refine pcalls_of_code (n := 26) az Tryd.func98 (by kernel_rfl) rfl rfl (Nat.le_of_ble_eq_true rfl) (by intro t u h; simp [Tryd.f98] at h) ?_
  refine code_seq (fun K1 hK1 => ?_)
  refine code_region ?_
  refine list_cons rfl (op_q (q_assign rfl (by decide)) ?_)
  refine list_nil ?_
  refine hK1 _ ?_; clear hK1 K1
  refine code_seq (fun K2 hK2 => ?_)
  refine code_region ?_
  refine list_cons rfl (op_alloc zt_116 (by decide) (by decide) rfl ?_)
  refine list_nil ?_
  refine hK2 _ ?_; clear hK2 K2
  refine code_seq (fun K3 hK3 => ?_)
  refine code_seq (fun K4 hK4 => ?_)
  refine code_region ?_
  refine list_cons rfl (op_q (q_move rfl (by decide)) ?_)
  refine list_cons rfl (op_q (q_len_sl Tryd.underlying24 rfl rfl (by decide)) ?_)
  refine list_cons rfl (op_q (q_move rfl (by decide)) ?_)
  refine list_nil ?_
  refine hK4 _ ?_; clear hK4 K4
  refine code_block ?_
  refine code_loop (X := Bool × List PV × Int) (fun x => [(0, .par 0 (.sl l.length (l.map (.int .i64)))), (2, .val (.bool x.1)), (3, .box 3 116 x.2.1), (6, .par 0 (.sl l.length (l.map (.int .i64)))), (7, .val (.int .i64 l.length)), (8, .val (.int .i64 x.2.2))]) (fun x => 0 ≤ x.2.2 ∧ x.2.2 ≤ l.length ∧ ordK l x.2.2.toNat = true ∧ x.2.1 = usd l x.2.2.toNat) (fun x => (l.length - x.2.2).toNat) (_, _, _) (imp_covers ⟨rfl, rfl, rfl, rfl, rfl, rfl, trivial⟩) ?_ ?_
  · (try dsimp only)
    exact ⟨by omega, by omega, rfl, usd_0 l⟩
  · intro x hI
    obtain ⟨t2, used_c, t8⟩ := x
    replace hI : 0 ≤ t8 ∧ t8 ≤ l.length ∧ ordK l t8.toNat = true ∧ used_c = usd l t8.toNat := hI
    show codeT _ _ _ [(0, .par 0 (.sl l.length (l.map (.int .i64)))), (2, .val (.bool t2)), (3, .box 3 116 used_c), (6, .par 0 (.sl l.length (l.map (.int .i64)))), (7, .val (.int .i64 l.length)), (8, .val (.int .i64 t8))] _
    obtain ⟨i1, i2, i3, rfl⟩ := hI
    refine code_seq (fun K5 hK5 => ?_)
    refine code_region ?_
    refine list_cons rfl (op_q (q_lt rfl rfl (by decide)) ?_)
    refine list_nil ?_
    refine hK5 _ ?_; clear hK5 K5
    refine code_seq (fun K6 hK6 => ?_)
    refine code_cond_d rfl (fun h1 => ?_) (fun h1 => ?_)
    · skip
      (try simp only [Decidable.not_not] at h1)
      refine code_skip ?_
      refine hK6 _ ?_; clear hK6 K6
      refine code_seq (fun K7 hK7 => ?_)
      refine code_block ?_
      refine code_seq (fun K8 hK8 => ?_)
      refine code_region ?_
      refine list_cons rfl (op_q (q_indexAddr_rd sl_24 rfl (.inl ⟨_, rfl, rfl⟩) rfl (by omega) (by omega) (by decide)) ?_)
      refine list_cons rfl (op_q (q_load_rd one_3 rfl (.inl ⟨_, (by first | rfl | exact congrArg (SV.rpar _) (drop_map1 _ 0 _ (by first | omega | (simp; omega)))), rfl⟩) (by decide)) ?_)
      refine list_cons rfl (op_q (q_assign rfl (by decide)) ?_)
      refine list_nil ?_
      refine hK8 _ ?_; clear hK8 K8
      refine code_seq (fun K9 hK9 => ?_)
      refine code_seq (fun K10 hK10 => ?_)
      refine code_region ?_
      refine list_cons rfl (op_q (q_move rfl (by decide)) ?_)
      refine list_cons rfl (op_q (q_lt rfl rfl (by decide)) ?_)
      refine list_cons rfl (op_q (q_move rfl (by decide)) ?_)
      refine list_guard_d rfl rfl rfl rfl (by decide) rfl (by decide) (fun h2 => ?_) (fun h2 => ?_)
      · simp only [Bool.false_eq_true, if_true, if_false, Decidable.not_not] at h2
        refine id (op_q (q_move rfl (by decide)) ?_)
        refine list_guard_y rfl rfl rfl rfl (by decide) rfl ?_
        refine id (op_q (q_ge rfl rfl (by decide)) ?_)
        refine list_cons rfl (op_q (q_pick rfl rfl (by decide)) ?_)
        refine list_cons rfl (op_q (q_move rfl (by decide)) ?_)
        refine list_guard_d rfl rfl rfl rfl (by decide) rfl (by decide) (fun h3 => ?_) (fun h3 => ?_)
        · simp only [Bool.false_eq_true, if_true, if_false, Decidable.not_not] at h3
          refine id (op_q (q_move rfl (by decide)) ?_)
          refine list_guard_y rfl rfl rfl rfl (by decide) rfl ?_
          refine id (op_q (q_indexAddr_arr arr_116 rfl rfl rfl (by omega) (by omega) (by decide)) ?_)
          refine list_guard_y rfl rfl rfl rfl (by decide) rfl ?_
          refine id (op_q (q_load one_4 3 rfl rfl rfl (usd_get1 l t8.toNat (by omega) (by omega)) (by decide)) ?_)
          refine list_cons rfl (op_q (q_pick rfl rfl (by decide)) ?_)
          refine list_nil ?_
          refine hK10 _ ?_; clear hK10 K10
          refine codeT.imp (σ' := [(0, _), (2, _), (3, _), (5, _), (6, _), (7, _), (8, _), (22, _)]) ?_ (imp_covers ⟨rfl, rfl, rfl, rfl, rfl, rfl, rfl, rfl, trivial⟩)
          refine code_cond_d rfl (fun h4 => ?_) (fun h4 => ?_)
          · skip
            (try simp only [Decidable.not_not] at h4)
            refine code_seq (fun K11 hK11 => ?_)
            refine code_region ?_
            refine list_cons rfl (op_q (q_assign rfl (by decide)) ?_)
            refine list_nil ?_
            refine hK11 _ ?_; clear hK11 K11
            refine code_ret ?_
            refine then_r ?_; clear hK9 K9
            refine blk_r ?_
            refine then_r ?_; clear hK7 K7
            refine then_r ?_
            refine blk_r ?_
            refine then_r ?_; clear hK3 K3
            refine ends_ret (cs := []) rfl rfl rfl rfl trivial ?_
            first
              | (rw [ordK_not (l := l) (m := l.length) (j := t8.toNat) (by omega) (fun h => by have := h.1; omega)]; rfl)
              | (have hx := h4
                 rw [ordK_not (l := l) (m := l.length) (j := t8.toNat) (by omega) (fun h => by rw [h.2] at hx; exact absurd hx (by simp))]; rfl)
              | (rw [show l.length = t8.toNat by omega, i3]; rfl)
          (try simp only [Decidable.not_not] at h4)
          refine code_skip ?_
          refine hK9 _ ?_; clear hK9 K9
          refine code_region ?_
          refine list_cons rfl (op_q (q_move rfl (by decide)) ?_)
          refine list_cons rfl (op_q (q_indexAddr_arr arr_116 rfl rfl rfl (by omega) (by omega) (by decide)) ?_)
          refine list_cons rfl (op_store (one_4).2 3 [3] (by intro t ht; simp only [List.mem_cons, List.not_mem_nil, or_false] at ht; subst ht; rfl) (.inl rfl) rfl rfl rfl rfl rfl rfl (by rw [usd_len]; omega) (by decide) rfl ?_)
          refine list_nil ?_
          refine blk_n ?_
          refine hK7 _ ?_; clear hK7 K7
          refine codeT.imp (σ' := [(0, _), (2, _), (3, _), (5, _), (6, _), (7, _), (8, _)]) ?_ (imp_covers ⟨rfl, rfl, rfl, rfl, rfl, rfl, rfl, trivial⟩)
          refine code_region ?_
          refine list_cons rfl (op_q (by first | exact q_addI rfl rfl (by decide) (by omega) (by omega) | exact q_ib rfl rfl rfl (by decide)) ?_)
          refine list_cons rfl (op_q (q_move rfl (by decide)) ?_)
          refine list_nil ?_
          refine then_n ⟨(_, _, _), imp_covers ⟨rfl, rfl, rfl, rfl, rfl, rfl, trivial⟩, ?_, ?_⟩
          · (try dsimp only)
            refine ⟨by omega, by omega, ?_, ?_⟩
            · rw [show (t8 + 1).toNat = t8.toNat + 1 by omega]
              exact ordK_succ i3 ⟨by omega, by omega⟩ (by simpa using h4)
            · rw [show (t8 + 1).toNat = t8.toNat + 1 by omega]
              exact usd_put l t8.toNat (d := l.getD t8.toNat 0) (by omega) (by omega) rfl (by omega)
          · (try dsimp only); omega
        simp only [Bool.false_eq_true, if_true, if_false, Decidable.not_not] at h3
        refine list_guard_n rfl rfl rfl rfl (by decide) rfl ?_
        refine list_guard_n rfl rfl rfl rfl (by decide) rfl ?_
        refine list_cons rfl (op_q (q_pick rfl rfl (by decide)) ?_)
        refine list_nil ?_
        refine hK10 _ ?_; clear hK10 K10
        refine codeT.imp (σ' := [(0, _), (2, _), (3, _), (5, _), (6, _), (7, _), (8, _), (22, _)]) ?_ (imp_covers ⟨rfl, rfl, rfl, rfl, rfl, rfl, rfl, rfl, trivial⟩)
        refine code_cond_t rfl ?_
        refine code_seq (fun K12 hK12 => ?_)
        refine code_region ?_
        refine list_cons rfl (op_q (q_assign rfl (by decide)) ?_)
        refine list_nil ?_
        refine hK12 _ ?_; clear hK12 K12
        refine code_ret ?_
        refine then_r ?_; clear hK9 K9
        refine blk_r ?_
        refine then_r ?_; clear hK7 K7
        refine then_r ?_
        refine blk_r ?_
        refine then_r ?_; clear hK3 K3
        refine ends_ret (cs := []) rfl rfl rfl rfl trivial ?_
        first
          | (rw [ordK_not (l := l) (m := l.length) (j := t8.toNat) (by omega) (fun h => by have := h.1; omega)]; rfl)
          | (have hx := h3
             rw [ordK_not (l := l) (m := l.length) (j := t8.toNat) (by omega) (fun h => by rw [h.2] at hx; exact absurd hx (by simp))]; rfl)
          | (rw [show l.length = t8.toNat by omega, i3]; rfl)
      simp only [Bool.false_eq_true, if_true, if_false, Decidable.not_not] at h2
      refine list_guard_n rfl rfl rfl rfl (by decide) rfl ?_
      refine list_cons rfl (op_q (q_pick rfl rfl (by decide)) ?_)
      refine list_cons rfl (op_q (q_move rfl (by decide)) ?_)
      refine list_guard_n rfl rfl rfl rfl (by decide) rfl ?_
      refine list_guard_n rfl rfl rfl rfl (by decide) rfl ?_
      refine list_guard_n rfl rfl rfl rfl (by decide) rfl ?_
      refine list_cons rfl (op_q (q_pick rfl rfl (by decide)) ?_)
      refine list_nil ?_
      refine hK10 _ ?_; clear hK10 K10
      refine codeT.imp (σ' := [(0, _), (2, _), (3, _), (5, _), (6, _), (7, _), (8, _), (22, _)]) ?_ (imp_covers ⟨rfl, rfl, rfl, rfl, rfl, rfl, rfl, rfl, trivial⟩)
      refine code_cond_t rfl ?_
      refine code_seq (fun K13 hK13 => ?_)
      refine code_region ?_
      refine list_cons rfl (op_q (q_assign rfl (by decide)) ?_)
      refine list_nil ?_
      refine hK13 _ ?_; clear hK13 K13
      refine code_ret ?_
      refine then_r ?_; clear hK9 K9
      refine blk_r ?_
      refine then_r ?_; clear hK7 K7
      refine then_r ?_
      refine blk_r ?_
      refine then_r ?_; clear hK3 K3
      refine ends_ret (cs := []) rfl rfl rfl rfl trivial ?_
      first
        | (rw [ordK_not (l := l) (m := l.length) (j := t8.toNat) (by omega) (fun h => by have := h.1; omega)]; rfl)
        | (have hx := h2
           rw [ordK_not (l := l) (m := l.length) (j := t8.toNat) (by omega) (fun h => by rw [h.2] at hx; exact absurd hx (by simp))]; rfl)
        | (rw [show l.length = t8.toNat by omega, i3]; rfl)
    (try simp only [Decidable.not_not] at h1)
    refine code_exit ?_
    refine then_x ?_; clear hK6 K6
    refine then_x ?_
    refine blk_hit ?_
    refine hK3 _ ?_; clear hK3 K3
    refine code_seq (fun K14 hK14 => ?_)
    refine code_region ?_
    refine list_cons rfl (op_q (q_assign rfl (by decide)) ?_)
    refine list_nil ?_
    refine hK14 _ ?_; clear hK14 K14
    refine code_ret ?_
    refine ends_ret (cs := []) rfl rfl rfl rfl trivial ?_
    first
      | (rw [ordK_not (l := l) (m := l.length) (j := t8.toNat) (by omega) (fun h => by have := h.1; omega)]; rfl)
      | (have hx := h1
         rw [ordK_not (l := l) (m := l.length) (j := t8.toNat) (by omega) (fun h => by rw [h.2] at hx; exact absurd hx (by simp))]; rfl)
      | (rw [show l.length = t8.toNat by omega, i3]; rfl)

end Go.Proofs.YtjbbijlbenkgcaaDoor
