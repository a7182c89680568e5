/- Contracts of functions, walked over the pure layer; each says for which arguments. -/
import Derived.Test.YtfkdochnjcpedaaDoorI7Ty
import Derived.Test.YtfkdochnjcpedaaDoorTf
import Derived.Test.YtfkdochnjcpedaaDoorSp
import Derived.Test.YtfkdochnjcpedaaDoorS3
import Derived.Test.YtfkdochnjcpedaaDoorShelf
import Derived.Test.YtfkdochnjcpedaaDoorIm
import Derived.Test.YtfkdochnjcpedaaDoorS7
import Derived.Test.YtfkdochnjcpedaaDoorIm3f
namespace Go.Proofs.YtfkdochnjcpedaaDoor
open Go.RowKit I7Ty
set_option linter.unusedVariables false
set_option linter.unusedSimpArgs false

theorem hasK_ints : ∀ (n : Nat) (l : List Int), n ≤ l.length → HasK (List.replicate n [BK.int .i64]).flatten (l.map (PV.int .i64))
  | 0, _, _ => trivial
  | n + 1, [], h => absurd h (by simp)
  | n + 1, x :: l, h => by
    rw [List.replicate_succ, List.flatten_cons]
    exact ⟨PV.int .i64 x, l.map (PV.int .i64), rfl, ⟨x, rfl⟩, hasK_ints n l (by simpa using h)⟩
theorem eqP_ints : ∀ (a b : List Int), a.length = b.length → (EqP (a.map (PV.int .i64)) (b.map (PV.int .i64)) ↔ a = b)
  | [], [], _ => by simp [EqP]
  | [], _ :: _, h => by simp at h
  | _ :: _, [], h => by simp at h
  | x :: a, y :: b, h => by
    have ih := eqP_ints a b (by simpa using h)
    simp only [List.map_cons, EqP, Eq1, ih, List.cons.injEq]
theorem res_agg7 {az : TypeId → Nat} {σ : St} {t u l e : Nat} {cs : List PV} (h : σ.at t = some (.box l e cs)) (haz : (az u == 0) = false) (hf : PV.flatL cs = true) (hl : cs.length = az u) : St.res az σ [.cell t u] = some [.val (.agg cs)] := by
  unfold St.res
  rw [h, show St.res az σ [] = some [] from rfl]
  simp only [haz, Bool.false_eq_true, if_false]
  rw [hf, hl]
  simp
theorem put_all7 {a b : List PV} {n : Nat} (ha : a.length = n) (hb : b.length = n) : putAt a 0 (PV.agg b).cells = b := by
  unfold putAt PV.cells
  simp only [List.take_zero, List.nil_append, Nat.zero_add]
  rw [List.drop_of_length_le (by omega), List.append_nil]
theorem fltS {b k : Int} (h : StP b k) : FaultP (sdk b k) (slt b k) := by
  have hb := h.bd
  refine ⟨hb.1, hb.2, ?_⟩
  unfold sdk slt
  by_cases e : k = 1
  · rw [if_neg (show ¬ k = 2 by omega)]; simp
  · rw [if_neg e]; simp
/-- The digit cells of a test. -/
def celT (l : List Int) : List Int := l.map fun d => digT.getD d.toNat 0
theorem celT_len (l : List Int) : (celT l).length = l.length := by simp [celT]
theorem celT_at {l : List Int} {j : Nat} (h : j < l.length) : (celT l).getD j 0 = digT.getD (l.getD j 0).toNat 0 := by
  unfold celT
  simp [List.getD_eq_getElem?_getD, h]
/-- What the first m digits of a test show under a State, and zeros. -/
def shwK (l : List Int) (b k : Int) (m : Nat) : List Int := (List.range 10).map fun j => if j < m then shF (sdk b k) (slt b k) (digT.getD (l.getD j 0).toNat 0) else 0
theorem shwK_len (l : List Int) (b k : Int) (m : Nat) : (shwK l b k m).length = 10 := by simp [shwK]
theorem shwK_at {l : List Int} {b k : Int} {m j : Nat} (h : j < 10) : (shwK l b k m).getD j 0 = if j < m then shF (sdk b k) (slt b k) (digT.getD (l.getD j 0).toNat 0) else 0 := by
  unfold shwK
  rw [List.getD_eq_getElem?_getD, List.getElem?_map, List.getElem?_range h]; rfl
theorem shw_put {l : List Int} {b k v : Int} {m o : Nat} (h : m < 10) (ho : o = m) (hv : v = shF (sdk b k) (slt b k) (digT.getD (l.getD m 0).toNat 0)) : putAt ((shwK l b k m).map (PV.int .i64)) (o * 1) [PV.int .i64 v] = (shwK l b k (m + 1)).map (PV.int .i64) := by
  subst ho; subst hv
  rw [put_map1 (PV.int .i64) _ (by rw [shwK_len]; exact h)]
  congr 1
  apply List.ext_getElem (by simp [shwK])
  intro j h1 h2
  rw [List.getElem_set]
  have hj : j < 10 := by simpa [shwK] using h1
  simp only [shwK, List.getElem_map, List.getElem_range]
  by_cases e : o = j
  · rw [if_pos e, if_pos (by omega), e]
  · rw [if_neg e]
    by_cases e2 : j < o
    · rw [if_pos e2, if_pos (by omega)]
    · rw [if_neg e2, if_neg (by omega)]
theorem shF_good (n : Nat) : shF (sdk 0 0) (slt 0 0) (digT.getD n 0) = digT.getD n 0 := by
  by_cases h : n < 10
  · have key : ∀ i : Fin 10, shF (sdk 0 0) (slt 0 0) (digT.getD i.val 0) = digT.getD i.val 0 := by decide
    exact key ⟨n, h⟩
  · have e : digT.getD n 0 = 0 := by
      rw [List.getD_eq_getElem?_getD, List.getElem?_eq_none (by simp [digT]; omega)]; rfl
    rw [e]; decide
theorem shw_ne {l : List Int} (hT : TstP l) (b k : Int) : shwK l b k l.length ≠ shwK l 0 0 l.length ↔ 0 ≤ plc l b k := by
  have h10 := hT.1
  constructor
  · intro hne
    by_cases hp : 0 ≤ plc l b k
    · exact hp
    · exfalso
      apply hne
      apply List.ext_getElem (by simp [shwK])
      intro j h1 h2
      have hj : j < 10 := by simpa [shwK] using h1
      simp only [shwK, List.getElem_map, List.getElem_range]
      by_cases e : j < l.length
      · rw [if_pos e, if_pos e, shF_good]
        have hall : ∀ i, i < l.length → ¬ FdP b k (l.getD i 0) := by
          have hn := plc_bd l b k
          have hpl : plc l b k = -1 := by omega
          intro i hi hf
          unfold plc at hpl
          split at hpl
          · omega
          · rename_i hnone
            have := List.find?_eq_none.1 hnone i (List.mem_range.2 hi)
            exact this (decide_eq_true hf)
        have := hall j e
        unfold FdP at this
        exact Decidable.not_not.1 this
      · rw [if_neg e, if_neg e]
  · intro hp heq
    unfold plc at hp
    split at hp
    · rename_i i hi
      have hm := List.mem_range.1 (List.mem_of_find?_eq_some hi)
      have hf0 := List.find?_some (p := fun i => decide (FdP b k (l.getD i 0))) hi
      have hf : FdP b k (l.getD i 0) := of_decide_eq_true hf0
      have e1 := shwK_at (l := l) (b := b) (k := k) (m := l.length) (j := i) (by omega)
      have e2 := shwK_at (l := l) (b := 0) (k := 0) (m := l.length) (j := i) (by omega)
      rw [if_pos hm] at e1 e2
      rw [heq, e2, shF_good] at e1
      exact hf e1.symm
    · omega
/-- The States of the first so many that are as wanted. -/
def flt (p : Int → Int → Prop) [∀ b k, Decidable (p b k)] (n : Nat) : List (Int × Int) := (allS.take n).filter fun s => decide (p s.1 s.2)
theorem flt_len (p : Int → Int → Prop) [∀ b k, Decidable (p b k)] (n : Nat) : (flt p n).length ≤ 15 := by
  unfold flt
  refine Nat.le_trans (List.length_filter_le _ _) ?_
  rw [List.length_take, allS_len]; omega
def stN (k b : Nat) : Nat := if k = 0 then min b 1 else 1 + 7 * (k - 1) + b
theorem stN_yes {b k : Int} (hk : 0 ≤ k ∧ k ≤ 2) (hb : 0 ≤ b ∧ b ≤ 6) (h : StP b k) : allS.take (stN k.toNat (b + 1).toNat) = allS.take (stN k.toNat b.toNat) ++ [(b, k)] := by
  obtain ⟨kn, rfl⟩ : ∃ n : Nat, k = n := ⟨k.toNat, by omega⟩
  obtain ⟨bn, rfl⟩ : ∃ n : Nat, b = n := ⟨b.toNat, by omega⟩
  have key : ∀ i : Fin 3, ∀ j : Fin 7, StP (j.val : Int) (i.val : Int) → allS.take (stN i.val (j.val + 1)) = allS.take (stN i.val j.val) ++ [((j.val : Int), (i.val : Int))] := by decide
  have := key ⟨kn, by omega⟩ ⟨bn, by omega⟩ h
  rw [show ((bn : Int) + 1).toNat = bn + 1 by omega]
  exact this
theorem stN_no {b k : Int} (hk : 0 ≤ k ∧ k ≤ 2) (hb : 0 ≤ b ∧ b ≤ 6) (h : ¬ StP b k) : allS.take (stN k.toNat (b + 1).toNat) = allS.take (stN k.toNat b.toNat) := by
  obtain ⟨kn, rfl⟩ : ∃ n : Nat, k = n := ⟨k.toNat, by omega⟩
  obtain ⟨bn, rfl⟩ : ∃ n : Nat, b = n := ⟨b.toNat, by omega⟩
  have key : ∀ i : Fin 3, ∀ j : Fin 7, ¬ StP (j.val : Int) (i.val : Int) → allS.take (stN i.val (j.val + 1)) = allS.take (stN i.val j.val) := by decide
  have := key ⟨kn, by omega⟩ ⟨bn, by omega⟩ h
  rw [show ((bn : Int) + 1).toNat = bn + 1 by omega]
  exact this
theorem stN_next {k : Int} (hk : 0 ≤ k ∧ k ≤ 2) : stN (k + 1).toNat 0 = stN k.toNat 7 := by
  obtain ⟨kn, rfl⟩ : ∃ n : Nat, k = n := ⟨k.toNat, by omega⟩
  rw [show ((kn : Int) + 1).toNat = kn + 1 by omega, show ((kn : Int)).toNat = kn by omega]
  have key : ∀ i : Fin 3, stN (i.val + 1) 0 = stN i.val 7 := by decide
  exact key ⟨kn, by omega⟩
theorem flt_yes {p : Int → Int → Prop} [∀ b k, Decidable (p b k)] {b k : Int} (hk : 0 ≤ k ∧ k ≤ 2) (hb : 0 ≤ b ∧ b ≤ 6) (h : StP b k) (hp : p b k) : flt p (stN k.toNat (b + 1).toNat) = flt p (stN k.toNat b.toNat) ++ [(b, k)] := by
  unfold flt
  rw [stN_yes hk hb h, List.filter_append, List.filter_cons, if_pos (decide_eq_true hp)]; rfl
theorem flt_no {p : Int → Int → Prop} [∀ b k, Decidable (p b k)] {b k : Int} (hk : 0 ≤ k ∧ k ≤ 2) (hb : 0 ≤ b ∧ b ≤ 6) (h : ¬ (StP b k ∧ p b k)) : flt p (stN k.toNat (b + 1).toNat) = flt p (stN k.toNat b.toNat) := by
  unfold flt
  by_cases hs : StP b k
  · rw [stN_yes hk hb hs, List.filter_append, List.filter_cons, if_neg (fun e => h ⟨hs, of_decide_eq_true e⟩)]; simp
  · rw [stN_no hk hb hs]
theorem snocS {g g' : List (Int × Int)} {a b : Int} (h : g' = g ++ [(a, b)]) : g'.length = g.length + 1 ∧ fl g' = fl g ++ [PV.int .i64 a, PV.int .i64 b] := by
  subst h; exact ⟨by simp, by simp [fl]⟩
theorem fnd_of {l : List Int} (hT : TstP l) : flt (fun b k => 0 ≤ plc l b k) 15 = fnd l true ∧ flt (fun b k => k ≠ 0 ∧ ¬ 0 ≤ plc l b k) 15 = fnd l false := by
  have h0 : ¬ 0 ≤ plc l 0 0 := fun h => (shw_ne hT 0 0).2 h rfl
  have e : allS = (0, 0) :: allS.drop 1 := rfl
  have ek : allS.take 15 = allS := rfl
  have ed : (allS.take 15).drop 1 = allS.drop 1 := rfl
  constructor
  · unfold flt fnd fndK
    rw [ed, ek, e, List.filter_cons, if_neg (fun z => h0 (of_decide_eq_true z))]
    apply List.filter_congr
    intro s _
    simp
  · unfold flt fnd fndK
    rw [ed, ek, e, List.filter_cons, if_neg (fun z => (of_decide_eq_true z).1 rfl)]
    apply List.filter_congr
    intro s hs
    have hk : s.2 ≠ 0 := by
      have key : ∀ s ∈ allS.drop 1, s.2 ≠ 0 := by decide
      exact key s hs
    by_cases hp : 0 ≤ plc l s.1 s.2
    · rw [decide_eq_false (fun z => z.2 hp), decide_eq_true hp]; rfl
    · rw [decide_eq_true ⟨hk, hp⟩, decide_eq_false hp]; rfl

set_option maxRecDepth 4000 in
theorem impl_IsState (b k : Int) : PCalls Tryd.prog 79 [.agg [.int .i64 b, .int .i64 k]] (· = [.val (.bool (decide (StP b k)))]) := by
  refine pcalls_of_code (n := 21) az Tryd.func79 (by kernel_rfl) rfl rfl (Nat.le_of_ble_eq_true rfl) (by intro t u h; simp [Tryd.f79] at h) ?_
  refine code_seq (fun K1 hK1 => ?_)
  refine code_region ?_
  refine list_cons rfl (op_box rfl (.inl ⟨rfl, rfl⟩) (by decide) (by decide) rfl ?_)
  refine list_cons rfl (op_q (q_assign rfl (by decide)) ?_)
  refine list_nil ?_
  refine hK1 _ ?_; clear hK1 K1
  refine code_seq (fun K2 hK2 => ?_)
  refine code_seq (fun K3 hK3 => ?_)
  refine code_region ?_
  refine list_cons rfl (op_q (q_fieldAddr fi_71_1 rfl rfl (by decide)) ?_)
  refine list_cons rfl (op_q (q_load one_3 1 rfl rfl rfl (by first | rfl | exact get_map1 _ 0 _ (by first | omega | (simp; omega))) (by decide)) ?_)
  refine list_nil ?_
  refine hK3 _ ?_; clear hK3 K3
  refine code_block ?_
  refine code_seq (fun K4 hK4 => ?_)
  refine code_region ?_
  refine list_cons rfl (op_q (q_eq rfl rfl (by decide)) ?_)
  refine list_cons rfl (op_q (q_assign rfl (by decide)) ?_)
  refine list_nil ?_
  refine hK4 _ ?_; clear hK4 K4
  refine code_cond_d rfl (fun h1 => ?_) (fun h1 => ?_)
  · skip
    (try simp only [Decidable.not_not] at h1)
    refine code_seq (fun K5 hK5 => ?_)
    refine code_region ?_
    refine list_cons rfl (op_q (q_fieldAddr fi_71_0 rfl rfl (by decide)) ?_)
    refine list_cons rfl (op_q (q_load one_3 1 rfl rfl rfl (by first | rfl | exact get_map1 _ 0 _ (by first | omega | (simp; omega))) (by decide)) ?_)
    refine list_cons rfl (op_q (q_eq rfl rfl (by decide)) ?_)
    refine list_cons rfl (op_q (q_assign rfl (by decide)) ?_)
    refine list_nil ?_
    refine hK5 _ ?_; clear hK5 K5
    refine code_ret ?_
    refine blk_r ?_
    refine then_r ?_; clear hK2 K2
    refine ends_ret (cs := []) rfl rfl rfl rfl trivial ?_
    first
      | (congr 3; exact decide_eq_decide.mpr ⟨fun e => by unfold StP; omega, fun e => by unfold StP at e; omega⟩)
      | (rw [decide_eq_false (fun e => by unfold StP at e; omega)]; done)
  (try simp only [Decidable.not_not] at h1)
  refine code_seq (fun K6 hK6 => ?_)
  refine code_seq (fun K7 hK7 => ?_)
  refine code_region ?_
  refine list_cons rfl (op_q (q_eq rfl rfl (by decide)) ?_)
  refine list_cons rfl (op_q (q_assign rfl (by decide)) ?_)
  refine list_nil ?_
  refine hK7 _ ?_; clear hK7 K7
  refine code_cond_d rfl (fun h2 => ?_) (fun h2 => ?_)
  · skip
    (try simp only [Decidable.not_not] at h2)
    refine code_skip ?_
    refine hK6 _ ?_; clear hK6 K6
    refine code_cond_d rfl (fun h3 => ?_) (fun h3 => ?_)
    · skip
      (try simp only [Decidable.not_not] at h3)
      refine code_seq (fun K8 hK8 => ?_)
      refine code_region ?_
      refine list_cons rfl (op_q (q_fieldAddr fi_71_0 rfl rfl (by decide)) ?_)
      refine list_cons rfl (op_q (q_load one_3 1 rfl rfl rfl (by first | rfl | exact get_map1 _ 0 _ (by first | omega | (simp; omega))) (by decide)) ?_)
      refine list_cons rfl (op_q (q_ge rfl rfl (by decide)) ?_)
      refine list_cons rfl (op_q (q_move rfl (by decide)) ?_)
      refine list_guard_d rfl rfl rfl rfl (by decide) rfl (by decide) (fun h4 => ?_) (fun h4 => ?_)
      · simp only [Bool.false_eq_true, if_true, if_false, Decidable.not_not] at h4
        refine id (op_q (q_fieldAddr fi_71_0 rfl rfl (by decide)) ?_)
        refine list_guard_y rfl rfl rfl rfl (by decide) rfl ?_
        refine id (op_q (q_load one_3 1 rfl rfl rfl (by first | rfl | exact get_map1 _ 0 _ (by first | omega | (simp; omega))) (by decide)) ?_)
        refine list_guard_y rfl rfl rfl rfl (by decide) rfl ?_
        refine id (op_q (q_lt rfl rfl (by decide)) ?_)
        refine list_cons rfl (op_q (q_pick rfl rfl (by decide)) ?_)
        refine list_cons rfl (op_q (q_assign rfl (by decide)) ?_)
        refine list_nil ?_
        refine hK8 _ ?_; clear hK8 K8
        refine codeT.imp (σ' := [(0, _), (1, _), (2, _), (4, _), (10, _)]) ?_ (imp_covers ⟨rfl, rfl, rfl, rfl, rfl, trivial⟩)
        refine code_ret ?_
        refine blk_r ?_
        refine then_r ?_; clear hK2 K2
        refine ends_ret (cs := []) rfl rfl rfl rfl trivial ?_
        first
          | (congr 3; exact decide_eq_decide.mpr ⟨fun e => by unfold StP; omega, fun e => by unfold StP at e; omega⟩)
          | (rw [decide_eq_false (fun e => by unfold StP at e; omega)]; done)
      simp only [Bool.false_eq_true, if_true, if_false, Decidable.not_not] at h4
      refine list_guard_n rfl rfl rfl rfl (by decide) rfl ?_
      refine list_guard_n rfl rfl rfl rfl (by decide) rfl ?_
      refine list_cons rfl (op_q (q_pick rfl rfl (by decide)) ?_)
      refine list_cons rfl (op_q (q_assign rfl (by decide)) ?_)
      refine list_nil ?_
      refine hK8 _ ?_; clear hK8 K8
      refine codeT.imp (σ' := [(0, _), (1, _), (2, _), (4, _), (10, _)]) ?_ (imp_covers ⟨rfl, rfl, rfl, rfl, rfl, trivial⟩)
      refine code_ret ?_
      refine blk_r ?_
      refine then_r ?_; clear hK2 K2
      refine ends_ret (cs := []) rfl rfl rfl rfl trivial ?_
      first
        | (congr 3; exact decide_eq_decide.mpr ⟨fun e => by unfold StP; omega, fun e => by unfold StP at e; omega⟩)
        | (rw [decide_eq_false (fun e => by unfold StP at e; omega)]; done)
    (try simp only [Decidable.not_not] at h3)
    refine code_skip ?_
    refine blk_n ?_
    refine hK2 _ ?_; clear hK2 K2
    refine code_seq (fun K9 hK9 => ?_)
    refine code_region ?_
    refine list_cons rfl (op_q (q_assign rfl (by decide)) ?_)
    refine list_nil ?_
    refine hK9 _ ?_; clear hK9 K9
    refine code_ret ?_
    refine ends_ret (cs := []) rfl rfl rfl rfl trivial ?_
    first
      | (congr 3; exact decide_eq_decide.mpr ⟨fun e => by unfold StP; omega, fun e => by unfold StP at e; omega⟩)
      | (rw [decide_eq_false (fun e => by unfold StP at e; omega)]; done)
  (try simp only [Decidable.not_not] at h2)
  refine code_region ?_
  refine list_cons rfl (op_q (q_eq rfl rfl (by decide)) ?_)
  refine list_cons rfl (op_q (q_assign rfl (by decide)) ?_)
  refine list_nil ?_
  refine hK6 _ ?_; clear hK6 K6
  refine code_cond_d rfl (fun h5 => ?_) (fun h5 => ?_)
  · skip
    (try simp only [Decidable.not_not] at h5)
    refine code_seq (fun K10 hK10 => ?_)
    refine code_region ?_
    refine list_cons rfl (op_q (q_fieldAddr fi_71_0 rfl rfl (by decide)) ?_)
    refine list_cons rfl (op_q (q_load one_3 1 rfl rfl rfl (by first | rfl | exact get_map1 _ 0 _ (by first | omega | (simp; omega))) (by decide)) ?_)
    refine list_cons rfl (op_q (q_ge rfl rfl (by decide)) ?_)
    refine list_cons rfl (op_q (q_move rfl (by decide)) ?_)
    refine list_guard_d rfl rfl rfl rfl (by decide) rfl (by decide) (fun h6 => ?_) (fun h6 => ?_)
    · simp only [Bool.false_eq_true, if_true, if_false, Decidable.not_not] at h6
      refine id (op_q (q_fieldAddr fi_71_0 rfl rfl (by decide)) ?_)
      refine list_guard_y rfl rfl rfl rfl (by decide) rfl ?_
      refine id (op_q (q_load one_3 1 rfl rfl rfl (by first | rfl | exact get_map1 _ 0 _ (by first | omega | (simp; omega))) (by decide)) ?_)
      refine list_guard_y rfl rfl rfl rfl (by decide) rfl ?_
      refine id (op_q (q_lt rfl rfl (by decide)) ?_)
      refine list_cons rfl (op_q (q_pick rfl rfl (by decide)) ?_)
      refine list_cons rfl (op_q (q_assign rfl (by decide)) ?_)
      refine list_nil ?_
      refine hK10 _ ?_; clear hK10 K10
      refine codeT.imp (σ' := [(0, _), (1, _), (2, _), (4, _), (10, _)]) ?_ (imp_covers ⟨rfl, rfl, rfl, rfl, rfl, trivial⟩)
      refine code_ret ?_
      refine blk_r ?_
      refine then_r ?_; clear hK2 K2
      refine ends_ret (cs := []) rfl rfl rfl rfl trivial ?_
      first
        | (congr 3; exact decide_eq_decide.mpr ⟨fun e => by unfold StP; omega, fun e => by unfold StP at e; omega⟩)
        | (rw [decide_eq_false (fun e => by unfold StP at e; omega)]; done)
    simp only [Bool.false_eq_true, if_true, if_false, Decidable.not_not] at h6
    refine list_guard_n rfl rfl rfl rfl (by decide) rfl ?_
    refine list_guard_n rfl rfl rfl rfl (by decide) rfl ?_
    refine list_cons rfl (op_q (q_pick rfl rfl (by decide)) ?_)
    refine list_cons rfl (op_q (q_assign rfl (by decide)) ?_)
    refine list_nil ?_
    refine hK10 _ ?_; clear hK10 K10
    refine codeT.imp (σ' := [(0, _), (1, _), (2, _), (4, _), (10, _)]) ?_ (imp_covers ⟨rfl, rfl, rfl, rfl, rfl, trivial⟩)
    refine code_ret ?_
    refine blk_r ?_
    refine then_r ?_; clear hK2 K2
    refine ends_ret (cs := []) rfl rfl rfl rfl trivial ?_
    first
      | (congr 3; exact decide_eq_decide.mpr ⟨fun e => by unfold StP; omega, fun e => by unfold StP at e; omega⟩)
      | (rw [decide_eq_false (fun e => by unfold StP at e; omega)]; done)
  (try simp only [Decidable.not_not] at h5)
  refine code_skip ?_
  refine blk_n ?_
  refine hK2 _ ?_; clear hK2 K2
  refine code_seq (fun K11 hK11 => ?_)
  refine code_region ?_
  refine list_cons rfl (op_q (q_assign rfl (by decide)) ?_)
  refine list_nil ?_
  refine hK11 _ ?_; clear hK11 K11
  refine code_ret ?_
  refine ends_ret (cs := []) rfl rfl rfl rfl trivial ?_
  first
    | (congr 3; exact decide_eq_decide.mpr ⟨fun e => by unfold StP; omega, fun e => by unfold StP at e; omega⟩)
    | (rw [decide_eq_false (fun e => by unfold StP at e; omega)]; done)

set_option maxRecDepth 8000 in
set_option maxHeartbeats 2000000 in
theorem impl_FaultOfState (b k : Int) : PCalls Tryd.prog 91 [.agg [.int .i64 b, .int .i64 k]] (· = [.val (.agg [.int .i64 (if StP b k then sdk b k else 0), .int .i64 (if StP b k then slt b k else 0)]), .val (.bool (decide (StP b k)))]) := by
  refine pcalls_of_code (n := 23) az Tryd.func91 (by kernel_rfl) rfl rfl (Nat.le_of_ble_eq_true rfl) (by intro t u h; simp [Tryd.f91] at h; obtain ⟨_, rfl⟩ := h <;> first | exact resTy_agg agg_91 (by decide)) ?_
  refine code_seq (fun K1 hK1 => ?_)
  refine code_region ?_
  refine list_cons rfl (op_box rfl (.inl ⟨rfl, rfl⟩) (by decide) (by decide) rfl ?_)
  refine list_cons rfl (op_alloc zt_91 (by decide) (by decide) rfl ?_)
  refine list_cons rfl (op_q (q_assign rfl (by decide)) ?_)
  refine list_nil ?_
  refine hK1 _ ?_; clear hK1 K1
  refine code_seq (fun K2 hK2 => ?_)
  refine code_seq (fun K3 hK3 => ?_)
  refine code_region ?_
  refine list_cons rfl (op_q (q_load_agg agg_71 1 (.inr ⟨rfl, _, rfl⟩) rfl rfl (by first | decide | omega | exact Nat.le_refl _ | (simp; done) | (simp; omega)) (by first | rfl | exact flat_part (flat_map _ (fun _ => rfl) _) _ _) (by decide)) ?_)
  refine list_cons rfl (op_call _ (impl_IsState _ _) rfl rfl (by decide) (by decide) (by decide) rfl ?_)
  rintro _ rfl
  refine list_cons rfl (op_q (by first | exact q_notd rfl (by decide) | exact q_not rfl (by decide)) ?_)
  refine list_nil ?_
  refine hK3 _ ?_; clear hK3 K3
  refine codeT.imp (σ' := [(0, _), (1, _), (2, _), (3, _), (6, _)]) ?_ (imp_covers ⟨rfl, rfl, rfl, rfl, rfl, trivial⟩)
  refine code_cond_d rfl (fun h1 => ?_) (fun h1 => ?_)
  · skip
    (try simp only [Decidable.not_not] at h1); (try have hS := (h1 : StP b k)); (try have hbk : k = 1 ∨ k = 2 → 0 ≤ b ∧ b ≤ 6 := fun e => by unfold StP at hS; omega)
    refine code_seq (fun K4 hK4 => ?_)
    refine code_region ?_
    refine list_cons rfl (op_q (q_build bt_91 (parts := []) rfl rfl (by decide)) ?_)
    refine list_cons rfl (op_store (agg_91).2 2 [2] (by intro t ht; simp only [List.mem_cons, List.not_mem_nil, or_false] at ht; subst ht; rfl) (.inr ⟨rfl, _, rfl⟩) rfl rfl rfl rfl (by first | rfl | exact flat_part (flat_map _ (fun _ => rfl) _) _ _ | exact flat_map _ (fun _ => rfl) _) (by first | rfl | (simp [PV.cells]; done)) (by first | decide | omega | exact Nat.le_refl _ | (simp; done) | (simp; omega)) (by decide) rfl ?_)
    refine list_cons rfl (op_q (q_assign rfl (by decide)) ?_)
    refine list_nil ?_
    refine hK4 _ ?_; clear hK4 K4
    refine codeT.imp (σ' := [(0, _), (1, _), (2, _), (3, _)]) ?_ (imp_covers ⟨rfl, rfl, rfl, rfl, trivial⟩)
    refine code_ret ?_
    refine then_r ?_; clear hK2 K2
    refine ends_ret (cs := []) rfl rfl rfl rfl trivial ?_
    first
      | (rw [if_neg h1, if_neg h1, decide_eq_false h1]; rfl)
      | (rw [if_pos hS, if_pos hS, decide_eq_true hS]; unfold sdk slt
         first
         | (rw [if_pos (by omega), if_neg (by omega)]; done)
         | (rw [if_neg (by omega), if_pos (by omega)]; done)
         | (rw [if_neg (by omega), if_neg (by omega)]; done)
         | (rw [if_pos (by omega), if_neg (by omega)]; rfl)
         | (rw [if_neg (by omega), if_pos (by omega)]; rfl)
         | (rw [if_neg (by omega), if_neg (by omega)]; rfl))
  (try simp only [Decidable.not_not] at h1); (try have hS := (h1 : StP b k)); (try have hbk : k = 1 ∨ k = 2 → 0 ≤ b ∧ b ≤ 6 := fun e => by unfold StP at hS; omega)
  refine code_skip ?_
  refine hK2 _ ?_; clear hK2 K2
  refine code_seq (fun K5 hK5 => ?_)
  refine code_seq (fun K6 hK6 => ?_)
  refine code_region ?_
  refine list_cons rfl (op_q (q_fieldAddr fi_71_1 rfl rfl (by decide)) ?_)
  refine list_cons rfl (op_q (q_load one_3 1 rfl rfl rfl (by first | rfl | exact get_map1 _ 0 _ (by first | omega | (simp; omega))) (by decide)) ?_)
  refine list_nil ?_
  refine hK6 _ ?_; clear hK6 K6
  refine code_block ?_
  refine code_seq (fun K7 hK7 => ?_)
  refine code_region ?_
  refine list_cons rfl (op_q (q_eq rfl rfl (by decide)) ?_)
  refine list_cons rfl (op_q (q_assign rfl (by decide)) ?_)
  refine list_nil ?_
  refine hK7 _ ?_; clear hK7 K7
  refine code_cond_d rfl (fun h2 => ?_) (fun h2 => ?_)
  · skip
    (try simp only [Decidable.not_not] at h2); (try have hS := (h2 : StP b k)); (try have hbk : k = 1 ∨ k = 2 → 0 ≤ b ∧ b ≤ 6 := fun e => by unfold StP at hS; omega)
    refine code_seq (fun K8 hK8 => ?_)
    refine code_region ?_
    refine list_cons rfl (op_q (q_fieldAddr fi_71_0 rfl rfl (by decide)) ?_)
    refine list_cons rfl (op_q (q_load one_3 1 rfl rfl rfl (by first | rfl | exact get_map1 _ 0 _ (by first | omega | (simp; omega))) (by decide)) ?_)
    refine list_cons rfl (op_q (by first | exact q_shl1 rfl rfl (by decide) (by omega) (by omega) | exact q_shlI rfl rfl (by decide) (by omega) (by omega) (by omega) | exact q_shl rfl rfl (by omega) (by decide)) ?_)
    refine list_cons rfl (op_q (q_build bt_91 (parts := [(0, .tmp 14)]) rfl rfl (by decide)) ?_)
    refine list_cons rfl (op_store (agg_91).2 2 [2] (by intro t ht; simp only [List.mem_cons, List.not_mem_nil, or_false] at ht; subst ht; rfl) (.inr ⟨rfl, _, rfl⟩) rfl rfl rfl rfl (by first | rfl | exact flat_part (flat_map _ (fun _ => rfl) _) _ _ | exact flat_map _ (fun _ => rfl) _) (by first | rfl | (simp [PV.cells]; done)) (by first | decide | omega | exact Nat.le_refl _ | (simp; done) | (simp; omega)) (by decide) rfl ?_)
    refine list_cons rfl (op_q (q_assign rfl (by decide)) ?_)
    refine list_nil ?_
    refine hK8 _ ?_; clear hK8 K8
    refine codeT.imp (σ' := [(0, _), (1, _), (2, _), (3, _), (9, _)]) ?_ (imp_covers ⟨rfl, rfl, rfl, rfl, rfl, trivial⟩)
    refine code_ret ?_
    refine blk_r ?_
    refine then_r ?_; clear hK5 K5
    refine ends_ret (cs := []) rfl rfl rfl rfl trivial ?_
    first
      | (rw [if_neg h1, if_neg h1, decide_eq_false h1]; rfl)
      | (rw [if_pos hS, if_pos hS, decide_eq_true hS]; unfold sdk slt
         first
         | (rw [if_pos (by omega), if_neg (by omega)]; done)
         | (rw [if_neg (by omega), if_pos (by omega)]; done)
         | (rw [if_neg (by omega), if_neg (by omega)]; done)
         | (rw [if_pos (by omega), if_neg (by omega)]; rfl)
         | (rw [if_neg (by omega), if_pos (by omega)]; rfl)
         | (rw [if_neg (by omega), if_neg (by omega)]; rfl))
  (try simp only [Decidable.not_not] at h2); (try have hS := (h2 : StP b k)); (try have hbk : k = 1 ∨ k = 2 → 0 ≤ b ∧ b ≤ 6 := fun e => by unfold StP at hS; omega)
  refine code_seq (fun K9 hK9 => ?_)
  refine code_region ?_
  refine list_cons rfl (op_q (q_eq rfl rfl (by decide)) ?_)
  refine list_cons rfl (op_q (q_assign rfl (by decide)) ?_)
  refine list_nil ?_
  refine hK9 _ ?_; clear hK9 K9
  refine code_cond_d rfl (fun h3 => ?_) (fun h3 => ?_)
  · skip
    (try simp only [Decidable.not_not] at h3); (try have hS := (h3 : StP b k)); (try have hbk : k = 1 ∨ k = 2 → 0 ≤ b ∧ b ≤ 6 := fun e => by unfold StP at hS; omega)
    refine code_seq (fun K10 hK10 => ?_)
    refine code_region ?_
    refine list_cons rfl (op_q (q_fieldAddr fi_71_0 rfl rfl (by decide)) ?_)
    refine list_cons rfl (op_q (q_load one_3 1 rfl rfl rfl (by first | rfl | exact get_map1 _ 0 _ (by first | omega | (simp; omega))) (by decide)) ?_)
    refine list_cons rfl (op_q (by first | exact q_shl1 rfl rfl (by decide) (by omega) (by omega) | exact q_shlI rfl rfl (by decide) (by omega) (by omega) (by omega) | exact q_shl rfl rfl (by omega) (by decide)) ?_)
    refine list_cons rfl (op_q (q_build bt_91 (parts := [(1, .tmp 20)]) rfl rfl (by decide)) ?_)
    refine list_cons rfl (op_store (agg_91).2 2 [2] (by intro t ht; simp only [List.mem_cons, List.not_mem_nil, or_false] at ht; subst ht; rfl) (.inr ⟨rfl, _, rfl⟩) rfl rfl rfl rfl (by first | rfl | exact flat_part (flat_map _ (fun _ => rfl) _) _ _ | exact flat_map _ (fun _ => rfl) _) (by first | rfl | (simp [PV.cells]; done)) (by first | decide | omega | exact Nat.le_refl _ | (simp; done) | (simp; omega)) (by decide) rfl ?_)
    refine list_cons rfl (op_q (q_assign rfl (by decide)) ?_)
    refine list_nil ?_
    refine hK10 _ ?_; clear hK10 K10
    refine codeT.imp (σ' := [(0, _), (1, _), (2, _), (3, _), (9, _)]) ?_ (imp_covers ⟨rfl, rfl, rfl, rfl, rfl, trivial⟩)
    refine code_ret ?_
    refine blk_r ?_
    refine then_r ?_; clear hK5 K5
    refine ends_ret (cs := []) rfl rfl rfl rfl trivial ?_
    first
      | (rw [if_neg h1, if_neg h1, decide_eq_false h1]; rfl)
      | (rw [if_pos hS, if_pos hS, decide_eq_true hS]; unfold sdk slt
         first
         | (rw [if_pos (by omega), if_neg (by omega)]; done)
         | (rw [if_neg (by omega), if_pos (by omega)]; done)
         | (rw [if_neg (by omega), if_neg (by omega)]; done)
         | (rw [if_pos (by omega), if_neg (by omega)]; rfl)
         | (rw [if_neg (by omega), if_pos (by omega)]; rfl)
         | (rw [if_neg (by omega), if_neg (by omega)]; rfl))
  (try simp only [Decidable.not_not] at h3); (try have hS := (h3 : StP b k)); (try have hbk : k = 1 ∨ k = 2 → 0 ≤ b ∧ b ≤ 6 := fun e => by unfold StP at hS; omega)
  refine code_skip ?_
  refine blk_n ?_
  refine hK5 _ ?_; clear hK5 K5
  refine code_seq (fun K11 hK11 => ?_)
  refine code_region ?_
  refine list_cons rfl (op_q (q_build bt_91 (parts := []) rfl rfl (by decide)) ?_)
  refine list_cons rfl (op_store (agg_91).2 2 [2] (by intro t ht; simp only [List.mem_cons, List.not_mem_nil, or_false] at ht; subst ht; rfl) (.inr ⟨rfl, _, rfl⟩) rfl rfl rfl rfl (by first | rfl | exact flat_part (flat_map _ (fun _ => rfl) _) _ _ | exact flat_map _ (fun _ => rfl) _) (by first | rfl | (simp [PV.cells]; done)) (by first | decide | omega | exact Nat.le_refl _ | (simp; done) | (simp; omega)) (by decide) rfl ?_)
  refine list_cons rfl (op_q (q_assign rfl (by decide)) ?_)
  refine list_nil ?_
  refine hK11 _ ?_; clear hK11 K11
  refine codeT.imp (σ' := [(0, _), (1, _), (2, _), (3, _), (9, _)]) ?_ (imp_covers ⟨rfl, rfl, rfl, rfl, rfl, trivial⟩)
  refine code_ret ?_
  refine ends_ret (cs := []) rfl rfl rfl rfl trivial ?_
  first
    | (rw [if_neg h1, if_neg h1, decide_eq_false h1]; rfl)
    | (rw [if_pos hS, if_pos hS, decide_eq_true hS]; unfold sdk slt
       first
       | (rw [if_pos (by omega), if_neg (by omega)]; done)
       | (rw [if_neg (by omega), if_pos (by omega)]; done)
       | (rw [if_neg (by omega), if_neg (by omega)]; done)
       | (rw [if_pos (by omega), if_neg (by omega)]; rfl)
       | (rw [if_neg (by omega), if_pos (by omega)]; rfl)
       | (rw [if_neg (by omega), if_neg (by omega)]; rfl))

theorem fillD (l : List Int) (f : Int → Int) {k : Nat} (h : k < l.length) : putAt (((l.take k).map f ++ List.replicate (l.length - k) 0).map (PV.int .i64)) (k * 1) [PV.int .i64 (f (l.getD k 0))] = (((l.take (k + 1)).map f ++ List.replicate (l.length - (k + 1)) 0).map (PV.int .i64)) := by
  rw [put_map1 (PV.int .i64) _ (by simp; omega), map_takeD h, List.set_append_right _ _ (by simp; omega), show k - ((l.take k).map f).length = 0 by simp; omega, show l.length - k = l.length - (k + 1) + 1 by omega, List.replicate_succ, List.set_cons_zero]
  simp

set_option maxRecDepth 8000 in
set_option maxHeartbeats 2000000 in
theorem impl_digitCells (l : List Int) (h10 : l.length ≤ 10) : PCalls Tryd.prog 81 [.sl l.length (l.map (.int .i64))] (· = [.own 0 3 1 (if TstP l then celT l else []).length ((if TstP l then celT l else []).map (.int .i64)), .val (.bool (decide (TstP l)))]) := by
  refine pcalls_of_code (n := 33) az Tryd.func81 (by kernel_rfl) rfl rfl (Nat.le_of_ble_eq_true rfl) (by intro t u h; simp [Tryd.f81] at h) ?_
  refine code_seq (fun K1 hK1 => ?_)
  refine code_region ?_
  refine list_cons rfl (op_q (q_assign rfl (by decide)) ?_)
  refine list_cons rfl (op_q (q_assign rfl (by decide)) ?_)
  refine list_nil ?_
  refine hK1 _ ?_; clear hK1 K1
  refine code_seq (fun K2 hK2 => ?_)
  refine code_region ?_
  refine list_cons rfl (op_q (q_move rfl (by decide)) ?_)
  refine list_cons rfl (op_q (q_len_sl Tryd.underlying32 rfl rfl (by decide)) ?_)
  refine list_cons rfl (op_make sl_32 rfl rfl (by omega) (by decide) (by decide) rfl ?_)
  refine list_cons rfl (op_q (q_assign rfl (by decide)) ?_)
  refine list_nil ?_
  refine hK2 _ ?_; clear hK2 K2
  refine code_seq (fun K3 hK3 => ?_)
  refine code_seq (fun K4 hK4 => ?_)
  refine code_region ?_
  refine list_cons rfl (op_q (q_move rfl (by decide)) ?_)
  refine list_cons rfl (op_q (q_len_sl Tryd.underlying32 rfl rfl (by decide)) ?_)
  refine list_cons rfl (op_q (q_move rfl (by decide)) ?_)
  refine list_nil ?_
  refine hK4 _ ?_; clear hK4 K4
  refine code_block ?_
  refine code_loop (X := PV × Bool × Nat × List PV × Int) (fun x => [(0, .par 0 (.sl l.length (l.map (.int .i64)))), (2, .val x.1), (3, .val (.bool x.2.1)), (4, .own 11 3 1 x.2.2.1 x.2.2.2.1), (12, .par 0 (.sl l.length (l.map (.int .i64)))), (13, .val (.int .i64 l.length)), (14, .val (.int .i64 x.2.2.2.2))]) (fun x => 0 ≤ x.2.2.2.2 ∧ x.2.2.2.2 ≤ l.length ∧ x.2.2.1 = l.length ∧ x.2.2.2.1 = ((l.take x.2.2.2.2.toNat).map (fun d : Int => digT.getD d.toNat 0) ++ List.replicate (l.length - x.2.2.2.2.toNat) 0).map (.int .i64) ∧ ∀ j, j < x.2.2.2.2.toNat → 0 ≤ l.getD j 0 ∧ l.getD j 0 ≤ 9) (fun x => (l.length - x.2.2.2.2).toNat) (_, _, _, _, _) (imp_covers ⟨rfl, rfl, rfl, rfl, rfl, rfl, rfl, trivial⟩) ?_ ?_
  · (try dsimp only)
    exact ⟨by omega, by omega, rfl, zeros_map1 (PV.int .i64) 0 l.length, fun j hj => absurd hj (Nat.not_lt_zero j)⟩
  · intro x hI
    obtain ⟨t2_p, t3, cells_n, cells_c, t14⟩ := x
    replace hI : 0 ≤ t14 ∧ t14 ≤ l.length ∧ cells_n = l.length ∧ cells_c = ((l.take t14.toNat).map (fun d : Int => digT.getD d.toNat 0) ++ List.replicate (l.length - t14.toNat) 0).map (.int .i64) ∧ ∀ j, j < t14.toNat → 0 ≤ l.getD j 0 ∧ l.getD j 0 ≤ 9 := hI
    show codeT _ _ _ [(0, .par 0 (.sl l.length (l.map (.int .i64)))), (2, .val t2_p), (3, .val (.bool t3)), (4, .own 11 3 1 cells_n cells_c), (12, .par 0 (.sl l.length (l.map (.int .i64)))), (13, .val (.int .i64 l.length)), (14, .val (.int .i64 t14))] _
    obtain ⟨i1, i2, rfl, rfl, i3⟩ := hI
    refine code_seq (fun K5 hK5 => ?_)
    refine code_region ?_
    refine list_cons rfl (op_q (q_lt rfl rfl (by decide)) ?_)
    refine list_nil ?_
    refine hK5 _ ?_; clear hK5 K5
    refine code_seq (fun K6 hK6 => ?_)
    refine code_cond_d rfl (fun h1 => ?_) (fun h1 => ?_)
    · skip
      (try simp only [Decidable.not_not] at h1)
      refine code_skip ?_
      refine hK6 _ ?_; clear hK6 K6
      refine code_seq (fun K7 hK7 => ?_)
      refine code_block ?_
      refine code_seq (fun K8 hK8 => ?_)
      refine code_region ?_
      refine list_cons rfl (op_q (q_move rfl (by decide)) ?_)
      refine list_cons rfl (op_q (q_indexAddr_rd sl_32 rfl (.inl ⟨_, rfl, rfl⟩) rfl (by omega) (by omega) (by decide)) ?_)
      refine list_cons rfl (op_q (q_load_rd one_3 rfl (.inl ⟨_, (by first | rfl | exact congrArg (SV.rpar _) (drop_map1 _ 0 _ (by first | omega | (simp; omega)))), rfl⟩) (by decide)) ?_)
      refine list_cons rfl (op_q (q_assign rfl (by decide)) ?_)
      refine list_cons rfl (op_q (q_assign rfl (by decide)) ?_)
      refine list_nil ?_
      refine hK8 _ ?_; clear hK8 K8
      refine code_seq (fun K9 hK9 => ?_)
      refine code_region ?_
      refine list_cons rfl (op_q (q_move rfl (by decide)) ?_)
      refine list_cons rfl (op_call _ (impl_CellOf _) rfl rfl (by decide) (by decide) (by decide) rfl ?_)
      rintro _ rfl
      refine list_cons rfl (op_q (q_move rfl (by decide)) ?_)
      refine list_cons rfl (op_q (q_extract rfl rfl (by decide)) ?_)
      refine list_cons rfl (op_q (q_extract rfl rfl (by decide)) ?_)
      refine list_cons rfl (op_q (q_assign rfl (by decide)) ?_)
      refine list_cons rfl (op_q (q_assign rfl (by decide)) ?_)
      refine list_nil ?_
      refine hK9 _ ?_; clear hK9 K9
      refine codeT.imp (σ' := [(0, _), (2, _), (3, _), (4, _), (5, _), (6, _), (7, _), (8, _), (12, _), (13, _), (14, _)]) ?_ (imp_covers ⟨rfl, rfl, rfl, rfl, rfl, rfl, rfl, rfl, rfl, rfl, rfl, trivial⟩)
      refine code_seq (fun K10 hK10 => ?_)
      refine code_seq (fun K11 hK11 => ?_)
      refine code_region ?_
      refine list_cons rfl (op_q (q_move rfl (by decide)) ?_)
      refine list_cons rfl (op_q (by first | exact q_notd rfl (by decide) | exact q_not rfl (by decide)) ?_)
      refine list_nil ?_
      refine hK11 _ ?_; clear hK11 K11
      refine code_cond_d rfl (fun h2 => ?_) (fun h2 => ?_)
      · skip
        (try simp only [Decidable.not_not] at h2)
        refine code_seq (fun K12 hK12 => ?_)
        refine code_region ?_
        refine list_cons rfl (op_buildSlice sl_32 (parts := []) rfl rfl rfl (by decide) (by decide) (by decide) rfl ?_)
        refine list_cons rfl (op_q (q_assign rfl (by decide)) ?_)
        refine list_cons rfl (op_q (q_assign rfl (by decide)) ?_)
        refine list_nil ?_
        refine hK12 _ ?_; clear hK12 K12
        refine code_ret ?_
        refine then_r ?_; clear hK10 K10
        refine blk_r ?_
        refine then_r ?_; clear hK7 K7
        refine then_r ?_
        refine blk_r ?_
        refine then_r ?_; clear hK3 K3
        refine ends_ret (cs := []) rfl rfl rfl rfl trivial ?_
        first
          | (have e : TstP l := ⟨h10, fun j hj => i3 j (by omega)⟩
             simp only [if_pos e, decide_eq_true e, show t14.toNat = l.length by omega, List.take_length, Nat.sub_self, List.replicate_zero, List.append_nil, celT_len]; rfl)
          | (have e : ¬ TstP l := fun e => absurd (e.2 t14.toNat (by omega)) (by assumption)
             simp only [if_neg e, decide_eq_false e]; rfl)
      (try simp only [Decidable.not_not] at h2)
      refine code_skip ?_
      refine hK10 _ ?_; clear hK10 K10
      refine code_region ?_
      refine list_cons rfl (op_q (q_move rfl (by decide)) ?_)
      refine list_cons rfl (op_q (q_move rfl (by decide)) ?_)
      refine list_cons rfl (op_q (q_move rfl (by decide)) ?_)
      refine list_cons rfl (op_q (q_indexAddr_own sl_32 rfl rfl (by omega) (by omega) (by decide)) ?_)
      refine list_cons rfl (op_store (one_3).2 4 [4, 27] (by intro t ht; simp only [List.mem_cons, List.not_mem_nil, or_false] at ht; rcases ht with rfl | rfl <;> rfl) (.inl rfl) rfl rfl rfl rfl rfl rfl (by first | decide | omega | exact Nat.le_refl _ | (simp; done) | (simp; omega)) (by decide) rfl ?_)
      refine list_nil ?_
      refine blk_n ?_
      refine hK7 _ ?_; clear hK7 K7
      refine codeT.imp (σ' := [(0, _), (2, _), (3, _), (4, _), (5, _), (6, _), (7, _), (8, _), (12, _), (13, _), (14, _)]) ?_ (imp_covers ⟨rfl, rfl, rfl, rfl, rfl, rfl, rfl, rfl, rfl, rfl, rfl, trivial⟩)
      refine code_region ?_
      refine list_cons rfl (op_q (by first | exact q_addI rfl rfl (by decide) (by omega) (by omega) | exact q_ib rfl rfl rfl (by decide)) ?_)
      refine list_cons rfl (op_q (q_move rfl (by decide)) ?_)
      refine list_nil ?_
      refine then_n ⟨(_, _, _, _, _), imp_covers ⟨rfl, rfl, rfl, rfl, rfl, rfl, rfl, trivial⟩, ?_, ?_⟩
      · (try dsimp only)
        refine ⟨by omega, by omega, rfl, ?_, fun j hj => ?_⟩
        · have hd : 0 ≤ l.getD t14.toNat 0 ∧ l.getD t14.toNat 0 ≤ 9 := (by assumption)
          rw [show (t14 + 1).toNat = t14.toNat + 1 by omega]
          simp only [if_pos hd]
          exact fillD l (fun d : Int => digT.getD d.toNat 0) (by omega)
        · by_cases e : j = t14.toNat
          · subst e; assumption
          · exact i3 j (by omega)
      · (try dsimp only); omega
    (try simp only [Decidable.not_not] at h1)
    refine code_exit ?_
    refine then_x ?_; clear hK6 K6
    refine then_x ?_
    refine blk_hit ?_
    refine hK3 _ ?_; clear hK3 K3
    refine code_seq (fun K13 hK13 => ?_)
    refine code_region ?_
    refine list_cons rfl (op_q (q_move rfl (by decide)) ?_)
    refine list_cons rfl (op_q (q_assign rfl (by decide)) ?_)
    refine list_cons rfl (op_q (q_assign rfl (by decide)) ?_)
    refine list_nil ?_
    refine hK13 _ ?_; clear hK13 K13
    refine code_ret ?_
    refine ends_ret (cs := []) rfl rfl rfl rfl trivial ?_
    first
      | (have e : TstP l := ⟨h10, fun j hj => i3 j (by omega)⟩
         simp only [if_pos e, decide_eq_true e, show t14.toNat = l.length by omega, List.take_length, Nat.sub_self, List.replicate_zero, List.append_nil, celT_len]; rfl)
      | (have e : ¬ TstP l := fun e => absurd (e.2 t14.toNat (by omega)) (by assumption)
         simp only [if_neg e, decide_eq_false e]; rfl)

set_option maxRecDepth 4000 in
theorem impl_testCells (l : List Int) (hl : l.length ≤ 4611686018427387904) : PCalls Tryd.prog 64 [.sl l.length (l.map (.int .i64))] (· = [.own 0 3 1 (if TstP l then celT l else []).length ((if TstP l then celT l else []).map (.int .i64)), .val (.bool (decide (TstP l)))]) := by
  refine pcalls_of_code (n := 12) az Tryd.func64 (by kernel_rfl) rfl rfl (Nat.le_of_ble_eq_true rfl) (by intro t u h; simp [Tryd.f64] at h) ?_
  refine code_seq (fun K1 hK1 => ?_)
  refine code_region ?_
  refine list_cons rfl (op_q (q_assign rfl (by decide)) ?_)
  refine list_cons rfl (op_q (q_assign rfl (by decide)) ?_)
  refine list_nil ?_
  refine hK1 _ ?_; clear hK1 K1
  refine code_seq (fun K2 hK2 => ?_)
  refine code_seq (fun K3 hK3 => ?_)
  refine code_region ?_
  refine list_cons rfl (op_q (q_move rfl (by decide)) ?_)
  refine list_cons rfl (op_q (q_len_sl Tryd.underlying32 rfl rfl (by decide)) ?_)
  refine list_cons rfl (op_q (q_gt rfl rfl (by decide)) ?_)
  refine list_nil ?_
  refine hK3 _ ?_; clear hK3 K3
  refine code_cond_d rfl (fun h1 => ?_) (fun h1 => ?_)
  · skip
    (try simp only [Decidable.not_not] at h1)
    refine code_seq (fun K4 hK4 => ?_)
    refine code_region ?_
    refine list_cons rfl (op_buildSlice sl_32 (parts := []) rfl rfl rfl (by decide) (by decide) (by decide) rfl ?_)
    refine list_cons rfl (op_q (q_assign rfl (by decide)) ?_)
    refine list_cons rfl (op_q (q_assign rfl (by decide)) ?_)
    refine list_nil ?_
    refine hK4 _ ?_; clear hK4 K4
    refine code_ret ?_
    refine then_r ?_; clear hK2 K2
    refine ends_ret (cs := []) rfl rfl rfl rfl trivial ?_
    first
      | rfl
      | (have e : ¬ TstP l := fun e => by have := e.1; omega
         simp only [if_neg e, decide_eq_false e]; rfl)
  (try simp only [Decidable.not_not] at h1)
  refine code_skip ?_
  refine hK2 _ ?_; clear hK2 K2
  refine code_seq (fun K5 hK5 => ?_)
  refine code_region ?_
  refine list_cons rfl (op_q (q_move rfl (by decide)) ?_)
  refine list_cons rfl (op_call _ (impl_digitCells _ (by omega)) rfl rfl (by decide) (by decide) (by decide) rfl ?_)
  rintro _ rfl
  refine list_cons rfl (op_q (q_extract rfl rfl (by decide)) ?_)
  refine list_cons rfl (op_q (q_extract rfl rfl (by decide)) ?_)
  refine list_cons rfl (op_q (q_assign rfl (by decide)) ?_)
  refine list_cons rfl (op_q (q_assign rfl (by decide)) ?_)
  refine list_nil ?_
  refine hK5 _ ?_; clear hK5 K5
  refine codeT.imp (σ' := [(0, _), (2, _), (3, _)]) ?_ (imp_covers ⟨rfl, rfl, rfl, trivial⟩)
  refine code_ret ?_
  refine ends_ret (cs := []) rfl rfl rfl rfl trivial ?_
  first
    | rfl
    | (have e : ¬ TstP l := fun e => by have := e.1; omega
       simp only [if_neg e, decide_eq_false e]; rfl)

set_option maxRecDepth 4000 in
theorem showingsN (l : List Int) (hl : l.length ≤ 4611686018427387904) (hT : ¬ TstP l) : PCalls Tryd.prog 77 [.sl l.length (l.map (.int .i64))] (· = [.val (.cst 2), .val (.bool false)]) := by
  refine pcalls_of_code (n := 14) az Tryd.func77 (by kernel_rfl) rfl rfl (Nat.le_of_ble_eq_true rfl) (by intro t u h; simp [Tryd.f77] at h) ?_
  refine code_seq (fun K1 hK1 => ?_)
  refine code_region ?_
  refine list_cons rfl (op_q (q_assign rfl (by decide)) ?_)
  refine list_cons rfl (op_q (q_assign rfl (by decide)) ?_)
  refine list_nil ?_
  refine hK1 _ ?_; clear hK1 K1
  refine code_seq (fun K2 hK2 => ?_)
  refine code_region ?_
  refine list_cons rfl (op_q (q_move rfl (by decide)) ?_)
  refine list_cons rfl (op_call _ (impl_testCells l hl) rfl rfl (by decide) (by decide) (by decide) rfl ?_)
  rintro _ rfl; simp only [if_neg hT, decide_eq_false hT]
  refine list_cons rfl (op_q (q_move rfl (by decide)) ?_)
  refine list_cons rfl (op_q (q_extract rfl rfl (by decide)) ?_)
  refine list_cons rfl (op_q (q_extract rfl rfl (by decide)) ?_)
  refine list_cons rfl (op_alloc zt_32 (by decide) (by decide) rfl ?_)
  refine list_cons rfl (op_storeB (one_32).2 rfl rfl rfl rfl rfl (by decide) (by decide) rfl ?_)
  refine list_cons rfl (op_q (q_assign rfl (by decide)) ?_)
  refine list_nil ?_
  refine hK2 _ ?_; clear hK2 K2
  refine codeT.imp (σ' := [(0, _), (2, _), (3, _), (4, _), (5, _)]) ?_ (imp_covers ⟨rfl, rfl, rfl, rfl, rfl, trivial⟩)
  refine code_seq (fun K3 hK3 => ?_)
  refine code_seq (fun K4 hK4 => ?_)
  refine code_region ?_
  refine list_cons rfl (op_q (q_move rfl (by decide)) ?_)
  refine list_cons rfl (op_q (by first | exact q_notd rfl (by decide) | exact q_not rfl (by decide)) ?_)
  refine list_nil ?_
  refine hK4 _ ?_; clear hK4 K4
  refine code_cond_t rfl ?_
  refine code_seq (fun K5 hK5 => ?_)
  refine code_region ?_
  refine list_cons rfl (op_q (q_assign rfl (by decide)) ?_)
  refine list_cons rfl (op_q (q_assign rfl (by decide)) ?_)
  refine list_nil ?_
  refine hK5 _ ?_; clear hK5 K5
  refine code_ret ?_
  refine then_r ?_; clear hK3 K3
  refine ends_ret (cs := []) rfl rfl rfl rfl trivial ?_
  rfl

set_option maxRecDepth 4000 in
theorem showingsY (l : List Int) (hl : l.length ≤ 4611686018427387904) (hT : TstP l) : PCalls Tryd.prog 77 [.sl l.length (l.map (.int .i64))] (· = [.bor 0 (.clo 90 [.ptr [.sl (celT l).length ((celT l).map (.int .i64))]]), .val (.bool true)]) := by
  refine pcalls_of_code (n := 14) az Tryd.func77 (by kernel_rfl) rfl rfl (Nat.le_of_ble_eq_true rfl) (by intro t u h; simp [Tryd.f77] at h) ?_
  refine code_seq (fun K1 hK1 => ?_)
  refine code_region ?_
  refine list_cons rfl (op_q (q_assign rfl (by decide)) ?_)
  refine list_cons rfl (op_q (q_assign rfl (by decide)) ?_)
  refine list_nil ?_
  refine hK1 _ ?_; clear hK1 K1
  refine code_seq (fun K2 hK2 => ?_)
  refine code_region ?_
  refine list_cons rfl (op_q (q_move rfl (by decide)) ?_)
  refine list_cons rfl (op_call _ (impl_testCells l hl) rfl rfl (by decide) (by decide) (by decide) rfl ?_)
  rintro _ rfl; simp only [if_pos hT, decide_eq_true hT]
  refine list_cons rfl (op_q (q_move rfl (by decide)) ?_)
  refine list_cons rfl (op_q (q_extract rfl rfl (by decide)) ?_)
  refine list_cons rfl (op_q (q_extract rfl rfl (by decide)) ?_)
  refine list_cons rfl (op_alloc zt_32 (by decide) (by decide) rfl ?_)
  refine list_cons rfl (op_storeB (one_32).2 rfl rfl rfl rfl rfl (by decide) (by decide) rfl ?_)
  refine list_cons rfl (op_q (q_assign rfl (by decide)) ?_)
  refine list_nil ?_
  refine hK2 _ ?_; clear hK2 K2
  refine codeT.imp (σ' := [(0, _), (2, _), (3, _), (4, _), (5, _)]) ?_ (imp_covers ⟨rfl, rfl, rfl, rfl, rfl, trivial⟩)
  refine code_seq (fun K3 hK3 => ?_)
  refine code_seq (fun K4 hK4 => ?_)
  refine code_region ?_
  refine list_cons rfl (op_q (q_move rfl (by decide)) ?_)
  refine list_cons rfl (op_q (by first | exact q_notd rfl (by decide) | exact q_not rfl (by decide)) ?_)
  refine list_nil ?_
  refine hK4 _ ?_; clear hK4 K4
  refine code_cond_f rfl ?_
  refine code_skip ?_
  refine hK3 _ ?_; clear hK3 K3
  refine code_seq (fun K5 hK5 => ?_)
  refine code_region ?_
  refine list_cons rfl (op_makeFuncC (xs := [.tmp 4]) rfl rfl rfl (by decide) (by decide) rfl ?_)
  refine list_cons rfl (op_q (q_assign rfl (by decide)) ?_)
  refine list_cons rfl (op_q (q_assign rfl (by decide)) ?_)
  refine list_nil ?_
  refine hK5 _ ?_; clear hK5 K5
  refine codeT.imp (σ' := [(0, _), (2, _), (3, _), (4, _), (5, _)]) ?_ (imp_covers ⟨rfl, rfl, rfl, rfl, rfl, trivial⟩)
  refine code_ret ?_
  refine ends_ret (cs := []) rfl rfl rfl rfl trivial ?_
  rfl

set_option maxRecDepth 8000 in
set_option maxHeartbeats 2000000 in
theorem showing1_c (l : List Int) (b k : Int) (hT : TstP l) (hS : StP b k) : PCalls Tryd.prog 90 [.agg [.int .i64 b, .int .i64 k], .ptr [.sl (celT l).length ((celT l).map (.int .i64))]] (· = [.val (.agg ((shwK l b k l.length).map (.int .i64)))]) := by
  refine pcalls_of_code (n := 31) az Tryd.func90 (by kernel_rfl) rfl rfl (Nat.le_of_ble_eq_true rfl) (by intro t u h; simp [Tryd.f90] at h; obtain ⟨_, rfl⟩ := h <;> first | exact resTy_agg agg_84 (by decide)) ?_
  refine codeT.imp ?_ (imp_rpar (s := 1) (i := 1) rfl)
  have h10 := hT.1
  have hcl := celT_len l
  have hF := fltS hS
  refine code_seq (fun K1 hK1 => ?_)
  refine code_region ?_
  refine list_cons rfl (op_box rfl (.inl ⟨rfl, rfl⟩) (by decide) (by decide) rfl ?_)
  refine list_cons rfl (op_alloc zt_84 (by decide) (by decide) rfl ?_)
  refine list_nil ?_
  refine hK1 _ ?_; clear hK1 K1
  refine code_seq (fun K2 hK2 => ?_)
  refine code_region ?_
  refine list_cons rfl (op_alloc zt_84 (by decide) (by decide) rfl ?_)
  refine list_nil ?_
  refine hK2 _ ?_; clear hK2 K2
  refine code_seq (fun K3 hK3 => ?_)
  refine code_region ?_
  refine list_cons rfl (op_q (q_load_agg agg_71 2 (.inr ⟨rfl, _, rfl⟩) rfl rfl (by first | decide | omega | exact Nat.le_refl _ | (simp; done) | (simp; omega)) (by first | rfl | exact flat_part (flat_map _ (fun _ => rfl) _) _ _) (by decide)) ?_)
  refine list_cons rfl (op_call _ (impl_FaultOfState b k) rfl rfl (by decide) (by decide) (by decide) rfl ?_)
  rintro _ rfl; simp only [if_pos hS, decide_eq_true hS]
  refine list_cons rfl (op_q (q_move rfl (by decide)) ?_)
  refine list_cons rfl (op_q (q_extract rfl rfl (by decide)) ?_)
  refine list_cons rfl (op_q (q_extract rfl rfl (by decide)) ?_)
  refine list_cons rfl (op_alloc zt_91 (by decide) (by decide) rfl ?_)
  refine list_cons rfl (op_store (agg_91).2 5 [5] (by intro t ht; simp only [List.mem_cons, List.not_mem_nil, or_false] at ht; subst ht; rfl) (.inr ⟨rfl, _, rfl⟩) rfl rfl rfl rfl (by first | rfl | exact flat_part (flat_map _ (fun _ => rfl) _) _ _ | exact flat_map _ (fun _ => rfl) _) (by first | rfl | (simp [PV.cells, shwK_len]; done)) (by first | decide | omega | exact Nat.le_refl _ | (simp; done) | (simp; omega)) (by decide) rfl ?_)
  refine list_cons rfl (op_q (q_assign rfl (by decide)) ?_)
  refine list_nil ?_
  refine hK3 _ ?_; clear hK3 K3
  refine codeT.imp (σ' := [(0, _), (1, _), (2, _), (3, _), (4, _), (5, _)]) ?_ (imp_covers ⟨rfl, rfl, rfl, rfl, rfl, rfl, trivial⟩)
  refine code_seq (fun K4 hK4 => ?_)
  refine code_seq (fun K5 hK5 => ?_)
  refine code_region ?_
  refine list_cons rfl (op_q (q_load_rd one_32 rfl (.inl ⟨_, (by first | rfl | exact congrArg (SV.rpar _) (drop_map1 _ [] _ (by first | omega | (simp; omega)))), rfl⟩) (by decide)) ?_)
  refine list_cons rfl (op_q (q_len_sl Tryd.underlying32 rfl rfl (by decide)) ?_)
  refine list_cons rfl (op_q (q_move rfl (by decide)) ?_)
  refine list_nil ?_
  refine hK5 _ ?_; clear hK5 K5
  refine code_block ?_
  refine code_loop (X := List PV × List PV × Int) (fun x => [(0, .val (.agg [.int .i64 b, .int .i64 k])), (1, .rpar 1 [.sl (celT l).length ((celT l).map (.int .i64))]), (2, .box 2 71 x.1), (3, .box 3 84 [.int .i64 0, .int .i64 0, .int .i64 0, .int .i64 0, .int .i64 0, .int .i64 0, .int .i64 0, .int .i64 0, .int .i64 0, .int .i64 0]), (4, .box 4 84 x.2.1), (5, .box 5 91 [.int .i64 (sdk b k), .int .i64 (slt b k)]), (14, .par 1 (.sl (celT l).length ((celT l).map (.int .i64)))), (15, .val (.int .i64 (celT l).length)), (16, .val (.int .i64 x.2.2))]) (fun x => 0 ≤ x.2.2 ∧ x.2.2 ≤ l.length ∧ x.2.1 = (shwK l b k x.2.2.toNat).map (.int .i64)) (fun x => (l.length - x.2.2).toNat) (_, _, _) (imp_covers ⟨rfl, rfl, rfl, rfl, rfl, rfl, rfl, rfl, rfl, trivial⟩) ?_ ?_
  · (try dsimp only)
    exact ⟨by omega, by omega, rfl⟩
  · intro x hI
    obtain ⟨s_2_c, shown_c, t16⟩ := x
    replace hI : 0 ≤ t16 ∧ t16 ≤ l.length ∧ shown_c = (shwK l b k t16.toNat).map (.int .i64) := hI
    show codeT _ _ _ [(0, .val (.agg [.int .i64 b, .int .i64 k])), (1, .rpar 1 [.sl (celT l).length ((celT l).map (.int .i64))]), (2, .box 2 71 s_2_c), (3, .box 3 84 [.int .i64 0, .int .i64 0, .int .i64 0, .int .i64 0, .int .i64 0, .int .i64 0, .int .i64 0, .int .i64 0, .int .i64 0, .int .i64 0]), (4, .box 4 84 shown_c), (5, .box 5 91 [.int .i64 (sdk b k), .int .i64 (slt b k)]), (14, .par 1 (.sl (celT l).length ((celT l).map (.int .i64)))), (15, .val (.int .i64 (celT l).length)), (16, .val (.int .i64 t16))] _
    obtain ⟨i1, i2, rfl⟩ := hI
    have hca := fun h : t16.toNat < l.length => celT_at h
    have hW : t16.toNat < l.length → FaultP (sdk b k) (slt b k) ∧ 0 ≤ (celT l).getD t16.toNat 0 ∧ (celT l).getD t16.toNat 0 ≤ 127 := fun h => ⟨hF, by rw [hca h]; exact digT_cell _⟩
    refine code_seq (fun K6 hK6 => ?_)
    refine code_region ?_
    refine list_cons rfl (op_q (q_lt rfl rfl (by decide)) ?_)
    refine list_nil ?_
    refine hK6 _ ?_; clear hK6 K6
    refine code_seq (fun K7 hK7 => ?_)
    refine code_cond_d rfl (fun h1 => ?_) (fun h1 => ?_)
    · skip
      (try simp only [Decidable.not_not] at h1)
      refine code_skip ?_
      refine hK7 _ ?_; clear hK7 K7
      refine code_seq (fun K8 hK8 => ?_)
      refine code_block ?_
      refine code_seq (fun K9 hK9 => ?_)
      refine code_region ?_
      refine list_cons rfl (op_q (q_move rfl (by decide)) ?_)
      refine list_cons rfl (op_q (q_indexAddr_rd sl_32 rfl (.inl ⟨_, rfl, rfl⟩) rfl (by omega) (by omega) (by decide)) ?_)
      refine list_cons rfl (op_q (q_load_rd one_3 rfl (.inl ⟨_, (by first | rfl | exact congrArg (SV.rpar _) (drop_map1 _ 0 _ (by first | omega | (simp; omega)))), rfl⟩) (by decide)) ?_)
      refine list_cons rfl (op_q (q_assign rfl (by decide)) ?_)
      refine list_cons rfl (op_q (q_assign rfl (by decide)) ?_)
      refine list_nil ?_
      refine hK9 _ ?_; clear hK9 K9
      refine code_region ?_
      refine list_cons rfl (op_q (q_move rfl (by decide)) ?_)
      refine list_cons rfl (op_q (q_load_agg agg_91 5 (.inr ⟨rfl, _, rfl⟩) rfl rfl (by first | decide | omega | exact Nat.le_refl _ | (simp; done) | (simp; omega)) (by first | rfl | exact flat_part (flat_map _ (fun _ => rfl) _) _ _) (by decide)) ?_)
      refine list_cons rfl (op_q (q_move rfl (by decide)) ?_)
      refine list_cons rfl (op_call _ (impl_ShownCell (sdk b k) (slt b k) ((celT l).getD t16.toNat 0)) rfl rfl (by decide) (by decide) (by decide) rfl ?_)
      rintro _ rfl; simp only [if_pos (hW (by omega)), decide_eq_true (hW (by omega))]
      refine list_cons rfl (op_q (q_move rfl (by decide)) ?_)
      refine list_cons rfl (op_q (q_extract rfl rfl (by decide)) ?_)
      refine list_cons rfl (op_q (q_extract rfl rfl (by decide)) ?_)
      refine list_cons rfl (op_q (q_indexAddr_arr arr_84 rfl rfl rfl (by omega) (by omega) (by decide)) ?_)
      refine list_cons rfl (op_store (one_3).2 4 [4] (by intro t ht; simp only [List.mem_cons, List.not_mem_nil, or_false] at ht; subst ht; rfl) (.inl rfl) rfl rfl rfl rfl rfl rfl (by rw [List.length_map, shwK_len]; simp; omega) (by decide) rfl ?_)
      refine list_nil ?_
      refine blk_n ?_
      refine hK8 _ ?_; clear hK8 K8
      refine codeT.imp (σ' := [(0, _), (1, _), (2, _), (3, _), (4, _), (5, _), (7, _), (8, _), (14, _), (15, _), (16, _)]) ?_ (imp_covers ⟨rfl, rfl, rfl, rfl, rfl, rfl, rfl, rfl, rfl, rfl, rfl, trivial⟩)
      refine code_region ?_
      refine list_cons rfl (op_q (by first | exact q_addI rfl rfl (by decide) (by omega) (by omega) | exact q_ib rfl rfl rfl (by decide)) ?_)
      refine list_cons rfl (op_q (q_move rfl (by decide)) ?_)
      refine list_nil ?_
      refine then_n ⟨(_, _, _), imp_covers ⟨rfl, rfl, rfl, rfl, rfl, rfl, rfl, rfl, rfl, trivial⟩, ?_, ?_⟩
      · (try dsimp only)
        exact ⟨by omega, by omega, by rw [show (t16 + 1).toNat = t16.toNat + 1 by omega]; exact shw_put (by omega) rfl (by rw [hca (by omega)])⟩
      · (try dsimp only); omega
    (try simp only [Decidable.not_not] at h1)
    refine code_exit ?_
    refine then_x ?_; clear hK7 K7
    refine then_x ?_
    refine blk_hit ?_
    refine hK4 _ ?_; clear hK4 K4
    refine code_seq (fun K10 hK10 => ?_)
    refine code_region ?_
    refine list_cons rfl (op_q (q_load_agg agg_84 4 (.inr ⟨rfl, _, rfl⟩) rfl rfl (by rw [List.length_map, shwK_len]; decide) (by first | rfl | exact flat_part (flat_map _ (fun _ => rfl) _) _ _) (by decide)) ?_)
    refine list_cons rfl (op_store (agg_84).2 3 [3] (by intro t ht; simp only [List.mem_cons, List.not_mem_nil, or_false] at ht; subst ht; rfl) (.inr ⟨rfl, _, rfl⟩) rfl rfl rfl rfl (by first | rfl | exact flat_part (flat_map _ (fun _ => rfl) _) _ _ | exact flat_map _ (fun _ => rfl) _) (by first | rfl | (simp [PV.cells, shwK_len]; done)) (by first | decide | omega | exact Nat.le_refl _ | (simp; done) | (simp; omega)) (by decide) rfl ?_)
    refine list_nil ?_
    refine hK10 _ ?_; clear hK10 K10
    refine codeT.imp (σ' := [(0, _), (1, _), (2, _), (3, _), (4, _), (5, _), (14, _), (15, _), (16, _)]) ?_ (imp_covers ⟨rfl, rfl, rfl, rfl, rfl, rfl, rfl, rfl, rfl, trivial⟩)
    refine code_ret ?_
    refine ends_ret (cs := []) (res_agg7 (cs := (shwK l b k l.length).map (.int .i64)) (congrArg (fun z => some (SV.box 3 84 z)) (by rw [show t16.toNat = l.length by omega, List.take_of_length_le (by rw [List.length_drop, List.length_map, shwK_len]; exact Nat.sub_le _ _)]; exact put_all7 (n := 10) rfl (by simp [shwK_len]))) rfl (flat_map _ (fun _ => rfl) _) (by simp [shwK_len]; rfl)) rfl rfl rfl trivial ?_
    rfl

set_option maxRecDepth 4000 in
theorem finderN (l : List Int) (hl : l.length ≤ 4611686018427387904) (hT : ¬ TstP l) : PCalls Tryd.prog 59 [.sl l.length (l.map (.int .i64))] (· = [.val (.cst 2), .val (.bool false)]) := by
  refine pcalls_of_code (n := 18) az Tryd.func59 (by kernel_rfl) rfl rfl (Nat.le_of_ble_eq_true rfl) (by intro t u h; simp [Tryd.f59] at h) ?_
  refine code_seq (fun K1 hK1 => ?_)
  refine code_region ?_
  refine list_cons rfl (op_q (q_assign rfl (by decide)) ?_)
  refine list_cons rfl (op_q (q_assign rfl (by decide)) ?_)
  refine list_nil ?_
  refine hK1 _ ?_; clear hK1 K1
  refine code_seq (fun K2 hK2 => ?_)
  refine code_region ?_
  refine list_cons rfl (op_q (q_move rfl (by decide)) ?_)
  refine list_cons rfl (op_call _ (showingsN l hl hT) rfl rfl (by decide) (by decide) (by decide) rfl ?_)
  rintro _ rfl
  refine list_cons rfl (op_q (q_move rfl (by decide)) ?_)
  refine list_cons rfl (op_q (q_extract rfl rfl (by decide)) ?_)
  refine list_cons rfl (op_q (q_extract rfl rfl (by decide)) ?_)
  refine list_cons rfl (op_alloc zt_80 (by decide) (by decide) rfl ?_)
  refine list_cons rfl (op_store (one_80).2 4 [4] (by intro t ht; simp only [List.mem_cons, List.not_mem_nil, or_false] at ht; subst ht; rfl) (.inr ⟨rfl, _, rfl⟩) rfl rfl rfl rfl rfl rfl (by first | decide | omega | exact Nat.le_refl _ | (simp; done) | (simp; omega)) (by decide) rfl ?_)
  refine list_cons rfl (op_q (q_assign rfl (by decide)) ?_)
  refine list_nil ?_
  refine hK2 _ ?_; clear hK2 K2
  refine codeT.imp (σ' := [(0, _), (2, _), (3, _), (4, _), (5, _)]) ?_ (imp_covers ⟨rfl, rfl, rfl, rfl, rfl, trivial⟩)
  refine code_seq (fun K3 hK3 => ?_)
  refine code_seq (fun K4 hK4 => ?_)
  refine code_region ?_
  refine list_cons rfl (op_q (q_move rfl (by decide)) ?_)
  refine list_cons rfl (op_q (by first | exact q_notd rfl (by decide) | exact q_not rfl (by decide)) ?_)
  refine list_nil ?_
  refine hK4 _ ?_; clear hK4 K4
  refine code_cond_t rfl ?_
  refine code_seq (fun K5 hK5 => ?_)
  refine code_region ?_
  refine list_cons rfl (op_q (q_assign rfl (by decide)) ?_)
  refine list_cons rfl (op_q (q_assign rfl (by decide)) ?_)
  refine list_nil ?_
  refine hK5 _ ?_; clear hK5 K5
  refine code_ret ?_
  refine then_r ?_; clear hK3 K3
  refine ends_ret (cs := []) rfl rfl rfl rfl trivial ?_
  rfl

set_option maxRecDepth 8000 in
set_option maxHeartbeats 2000000 in
theorem finderY (l : List Int) (hl : l.length ≤ 4611686018427387904) (hT : TstP l) : PCalls Tryd.prog 59 [.sl l.length (l.map (.int .i64))] (· = [.bor 0 (.clo 78 (.ptr [.clo 90 [.ptr [.sl (celT l).length ((celT l).map (.int .i64))]]] :: [.ptr ((shwK l 0 0 l.length).map (.int .i64))])), .val (.bool true)]) := by
  refine pcalls_of_code (n := 18) az Tryd.func59 (by kernel_rfl) rfl rfl (Nat.le_of_ble_eq_true rfl) (by intro t u h; simp [Tryd.f59] at h) ?_
  refine code_seq (fun K1 hK1 => ?_)
  refine code_region ?_
  refine list_cons rfl (op_q (q_assign rfl (by decide)) ?_)
  refine list_cons rfl (op_q (q_assign rfl (by decide)) ?_)
  refine list_nil ?_
  refine hK1 _ ?_; clear hK1 K1
  refine code_seq (fun K2 hK2 => ?_)
  refine code_region ?_
  refine list_cons rfl (op_q (q_move rfl (by decide)) ?_)
  refine list_cons rfl (op_call _ (showingsY l hl hT) rfl rfl (by decide) (by decide) (by decide) rfl ?_)
  rintro _ rfl
  refine list_cons rfl (op_q (q_move rfl (by decide)) ?_)
  refine list_cons rfl (op_q (q_extract rfl rfl (by decide)) ?_)
  refine list_cons rfl (op_q (q_extract rfl rfl (by decide)) ?_)
  refine list_cons rfl (op_alloc zt_80 (by decide) (by decide) rfl ?_)
  refine list_cons rfl (op_storeB (one_80).2 rfl rfl rfl rfl rfl (by decide) (by decide) rfl ?_)
  refine list_cons rfl (op_q (q_assign rfl (by decide)) ?_)
  refine list_nil ?_
  refine hK2 _ ?_; clear hK2 K2
  refine codeT.imp (σ' := [(0, _), (2, _), (3, _), (4, _), (5, _)]) ?_ (imp_covers ⟨rfl, rfl, rfl, rfl, rfl, trivial⟩)
  refine code_seq (fun K3 hK3 => ?_)
  refine code_seq (fun K4 hK4 => ?_)
  refine code_region ?_
  refine list_cons rfl (op_q (q_move rfl (by decide)) ?_)
  refine list_cons rfl (op_q (by first | exact q_notd rfl (by decide) | exact q_not rfl (by decide)) ?_)
  refine list_nil ?_
  refine hK4 _ ?_; clear hK4 K4
  refine code_cond_f rfl ?_
  refine code_skip ?_
  refine hK3 _ ?_; clear hK3 K3
  refine code_seq (fun K5 hK5 => ?_)
  refine code_region ?_
  refine list_cons rfl (op_q (q_load_boxD one_80 rfl (by decide)) ?_)
  refine list_cons rfl (op_q (q_build bt_71 (parts := [(1, _)]) rfl rfl (by decide)) ?_)
  refine list_cons rfl (op_callV _ rfl rfl rfl rfl (pcV (showing1_c l 0 0 hT (.inl ⟨rfl, rfl⟩))) (by decide) ?_)
  rintro _ rfl
  refine list_cons rfl (op_alloc zt_84 (by decide) (by decide) rfl ?_)
  refine list_cons rfl (op_store (agg_84).2 6 [6] (by intro t ht; simp only [List.mem_cons, List.not_mem_nil, or_false] at ht; subst ht; rfl) (.inr ⟨rfl, _, rfl⟩) rfl rfl rfl rfl (by first | rfl | exact flat_part (flat_map _ (fun _ => rfl) _) _ _ | exact flat_map _ (fun _ => rfl) _) (by first | rfl | (simp [PV.cells]; done)) (by first | decide | omega | exact Nat.le_refl _ | (simp; done) | (simp; omega)) (by decide) rfl ?_)
  refine list_nil ?_
  refine hK5 _ ?_; clear hK5 K5
  refine codeT.imp (σ' := [(0, _), (2, _), (3, _), (4, _), (5, _), (6, _)]) ?_ (imp_covers ⟨rfl, rfl, rfl, rfl, rfl, rfl, trivial⟩)
  refine code_seq (fun K6 hK6 => ?_)
  refine code_region ?_
  refine list_cons rfl (op_makeFuncC (xs := [.tmp 4, .tmp 6]) rfl rfl rfl (by decide) (by decide) rfl ?_)
  refine list_cons rfl (op_q (q_assign rfl (by decide)) ?_)
  refine list_cons rfl (op_q (q_assign rfl (by decide)) ?_)
  refine list_nil ?_
  refine hK6 _ ?_; clear hK6 K6
  refine codeT.imp (σ' := [(0, _), (2, _), (3, _), (4, _), (5, _), (6, _)]) ?_ (imp_covers ⟨rfl, rfl, rfl, rfl, rfl, rfl, trivial⟩)
  refine code_ret ?_
  refine ends_ret (cs := []) rfl rfl rfl rfl trivial ?_
  rfl

set_option maxRecDepth 8000 in
set_option maxHeartbeats 2000000 in
theorem finder1_c (l : List Int) (b k : Int) (hT : TstP l) (hS : StP b k) : PCalls Tryd.prog 78 [.agg [.int .i64 b, .int .i64 k], .ptr [.clo 90 [.ptr [.sl (celT l).length ((celT l).map (.int .i64))]]], .ptr ((shwK l 0 0 l.length).map (.int .i64))] (· = [.val (.bool (decide (0 ≤ plc l b k)))]) := by
  refine pcalls_of_code (n := 10) az Tryd.func78 (by kernel_rfl) rfl rfl (Nat.le_of_ble_eq_true rfl) (by intro t u h; simp [Tryd.f78] at h) ?_
  refine codeT.imp ?_ (imp_rpar (s := 1) (i := 1) rfl)
  refine codeT.imp ?_ (imp_rpar (s := 2) (i := 2) rfl)
  refine code_seq (fun K1 hK1 => ?_)
  refine code_region ?_
  refine list_cons rfl (op_box rfl (.inl ⟨rfl, rfl⟩) (by decide) (by decide) rfl ?_)
  refine list_cons rfl (op_q (q_assign rfl (by decide)) ?_)
  refine list_nil ?_
  refine hK1 _ ?_; clear hK1 K1
  refine code_seq (fun K2 hK2 => ?_)
  refine code_draw (by kernel_rfl) (by kernel_rfl) ?_
  refine draw_q rfl (q_load_rdP one_80 rfl (by decide)) ?_
  refine draw_q rfl (q_load_agg agg_71 3 (.inr ⟨rfl, _, rfl⟩) rfl rfl (by first | decide | exact Nat.le_refl _ | (rw [List.length_map, shwK_len]; decide)) (by first | rfl | exact flat_part (flat_map _ (fun _ => rfl) _) _ _) (by decide)) ?_
  refine draw_callV _ rfl rfl rfl rfl (showing1_c l b k hT hS) rfl (by decide) ?_
  refine draw_q rfl (q_load_rd_aggE agg_84 rfl (.inl ⟨_, rfl⟩) (by first | decide | exact Nat.le_refl _ | (rw [List.length_map, shwK_len]; decide)) (List.take_of_length_le (by rw [List.length_map, shwK_len]; decide)) (flat_map _ (fun _ => rfl) _) (by decide)) ?_
  refine draw_q rfl (q_aggne (by decide) agg_84 eqty_84 eqg_84 rfl rfl (hasK_ints 10 _ (by rw [shwK_len]; decide)) (hasK_ints 10 _ (by rw [shwK_len]; decide)) (by rw [List.length_map, shwK_len]; rfl) (by rw [List.length_map, shwK_len]; rfl) (by decide)) ?_
  refine draw_q rfl (q_assign rfl (by decide)) ?_
  refine draw_nil ?_
  refine hK2 _ ?_; clear hK2 K2
  refine codeT.imp (σ' := [(0, _), (1, _), (2, _), (3, _), (4, _)]) ?_ (imp_covers ⟨rfl, rfl, rfl, rfl, rfl, trivial⟩)
  refine code_ret ?_
  refine ends_ret (cs := []) rfl rfl rfl rfl trivial ?_
  congr 3
  exact decide_eq_decide.mpr ((not_congr (eqP_ints _ _ (by rw [shwK_len, shwK_len]))).trans (shw_ne hT b k))

set_option maxRecDepth 8000 in
set_option maxHeartbeats 2000000 in
theorem statesThat_c (f : FuncId) (z caps : List PV) (p : Int → Int → Prop) [∀ b k, Decidable (p b k)] (hf : ∀ b k, StP b k → PCalls Tryd.prog f (.agg [.int .i64 b, .int .i64 k] :: .ptr z :: caps) (· = [.val (.bool (decide (p b k)))])) : PCalls Tryd.prog 60 [.clo f (.ptr z :: caps)] (· = [.own 0 71 2 (flt p 15).length (fl (flt p 15))]) := by
  refine pcalls_of_code (n := 31) az Tryd.func60 (by kernel_rfl) rfl rfl (Nat.le_of_ble_eq_true rfl) (by intro t u h; simp [Tryd.f60] at h) ?_
  refine code_seq (fun K1 hK1 => ?_)
  refine code_region ?_
  refine list_cons rfl (op_q (q_assign rfl (by decide)) ?_)
  refine list_nil ?_
  refine hK1 _ ?_; clear hK1 K1
  refine code_seq (fun K2 hK2 => ?_)
  refine code_region ?_
  refine list_cons rfl (op_buildSlice sl_36 (parts := []) rfl rfl rfl (by decide) (by decide) (by decide) rfl ?_)
  refine list_cons rfl (op_q (q_assign rfl (by decide)) ?_)
  refine list_nil ?_
  refine hK2 _ ?_; clear hK2 K2
  refine code_seq (fun K3 hK3 => ?_)
  refine code_seq (fun K4 hK4 => ?_)
  refine code_region ?_
  refine list_cons rfl (op_q (q_assign rfl (by decide)) ?_)
  refine list_nil ?_
  refine hK4 _ ?_; clear hK4 K4
  refine code_block ?_
  refine code_loop (X := PV × Nat × List PV × Int) (fun x => [(0, .par 0 (.clo f (.ptr z :: caps))), (2, .val x.1), (3, .own 7 71 2 x.2.1 x.2.2.1), (4, .val (.int .i64 x.2.2.2))]) (fun x => 0 ≤ x.2.2.2 ∧ x.2.2.2 ≤ 3 ∧ ∃ L : List (Int × Int), x.2.1 = L.length ∧ x.2.2.1 = fl L ∧ L = flt p (stN x.2.2.2.toNat 0)) (fun x => (3 - x.2.2.2).toNat) (_, _, _, _) (imp_covers ⟨rfl, rfl, rfl, rfl, trivial⟩) ?_ ?_
  · (try dsimp only)
    exact ⟨by omega, by omega, [], rfl, rfl, rfl⟩
  · intro x hI
    obtain ⟨t2_p, states_n, states_c, kind⟩ := x
    replace hI : 0 ≤ kind ∧ kind ≤ 3 ∧ ∃ L : List (Int × Int), states_n = L.length ∧ states_c = fl L ∧ L = flt p (stN kind.toNat 0) := hI
    show codeT _ _ _ [(0, .par 0 (.clo f (.ptr z :: caps))), (2, .val t2_p), (3, .own 7 71 2 states_n states_c), (4, .val (.int .i64 kind))] _
    obtain ⟨i1, i2, L, rfl, rfl, rfl⟩ := hI
    refine code_seq (fun K5 hK5 => ?_)
    refine code_seq (fun K6 hK6 => ?_)
    refine code_region ?_
    refine list_cons rfl (op_q (q_move rfl (by decide)) ?_)
    refine list_cons rfl (op_q (q_le rfl rfl (by decide)) ?_)
    refine list_nil ?_
    refine hK6 _ ?_; clear hK6 K6
    refine code_cond_d rfl (fun h1 => ?_) (fun h1 => ?_)
    · skip
      (try simp only [Decidable.not_not] at h1); (try have hS := (h1 : StP _ _))
      refine code_skip ?_
      refine hK5 _ ?_; clear hK5 K5
      refine code_seq (fun K7 hK7 => ?_)
      refine code_block ?_
      refine code_seq (fun K8 hK8 => ?_)
      refine code_region ?_
      refine list_cons rfl (op_q (q_move rfl (by decide)) ?_)
      refine list_nil ?_
      refine hK8 _ ?_; clear hK8 K8
      refine code_block ?_
      refine code_loop (X := PV × Nat × List PV × Int) (fun x => [(0, .par 0 (.clo f (.ptr z :: caps))), (2, .val x.1), (3, .own 7 71 2 x.2.1 x.2.2.1), (4, .val (.int .i64 kind)), (12, .val (.int .i64 x.2.2.2))]) (fun x => 0 ≤ x.2.2.2 ∧ x.2.2.2 ≤ 7 ∧ ∃ L : List (Int × Int), x.2.1 = L.length ∧ x.2.2.1 = fl L ∧ L = flt p (stN kind.toNat x.2.2.2.toNat)) (fun x => (7 - x.2.2.2).toNat) (_, _, _, _) (imp_covers ⟨rfl, rfl, rfl, rfl, rfl, trivial⟩) ?_ ?_
      · (try dsimp only)
        exact ⟨by omega, by omega, _, rfl, rfl, rfl⟩
      · intro x hI
        obtain ⟨t2_p, states_n, states_c, t12⟩ := x
        replace hI : 0 ≤ t12 ∧ t12 ≤ 7 ∧ ∃ L : List (Int × Int), states_n = L.length ∧ states_c = fl L ∧ L = flt p (stN kind.toNat t12.toNat) := hI
        show codeT _ _ _ [(0, .par 0 (.clo f (.ptr z :: caps))), (2, .val t2_p), (3, .own 7 71 2 states_n states_c), (4, .val (.int .i64 kind)), (12, .val (.int .i64 t12))] _
        obtain ⟨j1, j2, M, rfl, rfl, hM⟩ := hI
        have hMl : M.length ≤ 15 := by rw [hM]; exact flt_len _ _
        refine code_seq (fun K9 hK9 => ?_)
        refine code_region ?_
        refine list_cons rfl (op_q (q_lt rfl rfl (by decide)) ?_)
        refine list_nil ?_
        refine hK9 _ ?_; clear hK9 K9
        refine code_seq (fun K10 hK10 => ?_)
        refine code_cond_d rfl (fun h2 => ?_) (fun h2 => ?_)
        · skip
          (try simp only [Decidable.not_not] at h2); (try have hS := (h2 : StP _ _))
          refine code_skip ?_
          refine hK10 _ ?_; clear hK10 K10
          refine code_seq (fun K11 hK11 => ?_)
          refine code_block ?_
          refine code_seq (fun K12 hK12 => ?_)
          refine code_region ?_
          refine list_cons rfl (op_q (q_move rfl (by decide)) ?_)
          refine list_cons rfl (op_q (q_assign rfl (by decide)) ?_)
          refine list_nil ?_
          refine hK12 _ ?_; clear hK12 K12
          refine code_seq (fun K13 hK13 => ?_)
          refine code_region ?_
          refine list_cons rfl (op_q (q_move rfl (by decide)) ?_)
          refine list_cons rfl (op_q (q_move rfl (by decide)) ?_)
          refine list_cons rfl (op_q (q_build bt_71 (parts := [(0, .tmp 15), (1, .tmp 16)]) rfl rfl (by decide)) ?_)
          refine list_cons rfl (op_alloc zt_71 (by decide) (by decide) rfl ?_)
          refine list_cons rfl (op_store (agg_71).2 6 [6] (by intro t ht; simp only [List.mem_cons, List.not_mem_nil, or_false] at ht; subst ht; rfl) (.inr ⟨rfl, _, rfl⟩) rfl rfl rfl rfl (by first | rfl | exact flat_part (flat_map _ (fun _ => rfl) _) _ _ | exact flat_map _ (fun _ => rfl) _) (by first | rfl | (simp [PV.cells]; done)) (by first | decide | omega | exact Nat.le_refl _ | (simp; done) | (simp; omega)) (by decide) rfl ?_)
          refine list_nil ?_
          refine hK13 _ ?_; clear hK13 K13
          refine codeT.imp (σ' := [(0, _), (2, _), (3, _), (4, _), (5, _), (6, _), (12, _)]) ?_ (imp_covers ⟨rfl, rfl, rfl, rfl, rfl, rfl, rfl, trivial⟩)
          refine code_seq (fun K14 hK14 => ?_)
          refine code_region ?_
          refine list_cons rfl (op_q (q_load_agg agg_71 6 (.inr ⟨rfl, _, rfl⟩) rfl rfl (by first | decide | omega | exact Nat.le_refl _ | (simp; done) | (simp; omega)) (by first | rfl | exact flat_part (flat_map _ (fun _ => rfl) _) _ _) (by decide)) ?_)
          refine list_cons rfl (op_call _ (impl_IsState _ _) rfl rfl (by decide) (by decide) (by decide) rfl ?_)
          rintro _ rfl
          refine list_cons rfl (op_q (q_move rfl (by decide)) ?_)
          refine list_guard_d rfl rfl rfl rfl (by decide) rfl (by decide) (fun h3 => ?_) (fun h3 => ?_)
          · simp only [Bool.false_eq_true, if_true, if_false, Decidable.not_not] at h3
            (try simp only [Decidable.not_not] at h3); (try have hS := (h3 : StP _ _))
            refine id (op_q (q_move rfl (by decide)) ?_)
            refine list_guard_y rfl rfl rfl rfl (by decide) rfl ?_
            refine id (op_q (q_load_agg agg_71 6 (.inr ⟨rfl, _, rfl⟩) rfl rfl (by first | decide | omega | exact Nat.le_refl _ | (simp; done) | (simp; omega)) (by first | rfl | exact flat_part (flat_map _ (fun _ => rfl) _) _ _) (by decide)) ?_)
            refine list_guard_y rfl rfl rfl rfl (by decide) rfl ?_
            refine id (op_callV _ rfl rfl rfl rfl (pcV (hf _ _ hS)) (by decide) ?_)
            rintro _ rfl
            refine list_cons rfl (op_q (q_pick rfl rfl (by decide)) ?_)
            refine list_nil ?_
            refine hK14 _ ?_; clear hK14 K14
            refine codeT.imp (σ' := [(0, _), (2, _), (3, _), (4, _), (5, _), (6, _), (12, _), (24, _)]) ?_ (imp_covers ⟨rfl, rfl, rfl, rfl, rfl, rfl, rfl, rfl, trivial⟩)
            refine code_cond_d rfl (fun h4 => ?_) (fun h4 => ?_)
            · skip
              (try simp only [Decidable.not_not] at h4); (try have hS := (h4 : StP _ _))
              refine code_region ?_
              refine list_cons rfl (op_q (q_move rfl (by decide)) ?_)
              refine list_cons rfl (op_q (q_load_agg agg_71 6 (.inr ⟨rfl, _, rfl⟩) rfl rfl (by first | decide | omega | exact Nat.le_refl _ | (simp; done) | (simp; omega)) (by first | rfl | exact flat_part (flat_map _ (fun _ => rfl) _) _ _) (by decide)) ?_)
              refine list_cons rfl (op_buildSlice sl_36 (parts := [(0, .tmp 26)]) rfl rfl rfl (by decide) (by decide) (by decide) rfl ?_)
              refine list_cons rfl (op_append_gen sl_36 (l := 7) (.inl rfl) rfl rfl (l2 := none) (.inl ⟨rfl, (by first | rfl | exact flat_map _ (fun _ => rfl) _)⟩) (by first | rfl | (simp [PV.cells, putAt, zeros]; done)) (by have := flt_len p (stN kind.toNat t12.toNat); omega) (by decide) (by decide) (by decide) ?_)
              refine list_cons rfl (op_q (q_assign rfl (by decide)) ?_)
              refine list_nil ?_
              refine blk_n ?_
              refine hK11 _ ?_; clear hK11 K11
              refine codeT.imp (σ' := [(0, _), (2, _), (3, _), (4, _), (5, _), (6, _), (12, _)]) ?_ (imp_covers ⟨rfl, rfl, rfl, rfl, rfl, rfl, rfl, trivial⟩)
              refine code_region ?_
              refine list_cons rfl (op_q (by first | exact q_addI rfl rfl (by decide) (by omega) (by omega) | exact q_ib rfl rfl rfl (by decide)) ?_)
              refine list_cons rfl (op_q (q_move rfl (by decide)) ?_)
              refine list_nil ?_
              refine then_n ⟨(_, _, _, _), imp_covers ⟨rfl, rfl, rfl, rfl, rfl, trivial⟩, ?_, ?_⟩
              · (try dsimp only)
                first
                  | (have hp := (h4 : p _ _)
                     have hs := snocS (flt_yes (p := p) ⟨by omega, by omega⟩ ⟨by omega, by omega⟩ hS hp)
                     exact ⟨by omega, by omega, _, by rw [hM]; exact hs.1.symm, by rw [hM]; exact hs.2.symm, rfl⟩)
                  | exact ⟨by omega, by omega, M, rfl, rfl, by rw [hM]; exact (flt_no ⟨by omega, by omega⟩ ⟨by omega, by omega⟩ (fun e => h4 e.2)).symm⟩
                  | exact ⟨by omega, by omega, M, rfl, rfl, by rw [hM]; exact (flt_no ⟨by omega, by omega⟩ ⟨by omega, by omega⟩ (fun e => h4 e.1)).symm⟩
              · (try dsimp only); omega
            (try simp only [Decidable.not_not] at h4); (try have hS := (h4 : StP _ _))
            refine code_skip ?_
            refine blk_n ?_
            refine hK11 _ ?_; clear hK11 K11
            refine code_region ?_
            refine list_cons rfl (op_q (by first | exact q_addI rfl rfl (by decide) (by omega) (by omega) | exact q_ib rfl rfl rfl (by decide)) ?_)
            refine list_cons rfl (op_q (q_move rfl (by decide)) ?_)
            refine list_nil ?_
            refine then_n ⟨(_, _, _, _), imp_covers ⟨rfl, rfl, rfl, rfl, rfl, trivial⟩, ?_, ?_⟩
            · (try dsimp only)
              first
                | (have hp := (h4 : p _ _)
                   have hs := snocS (flt_yes (p := p) ⟨by omega, by omega⟩ ⟨by omega, by omega⟩ hS hp)
                   exact ⟨by omega, by omega, _, by rw [hM]; exact hs.1.symm, by rw [hM]; exact hs.2.symm, rfl⟩)
                | exact ⟨by omega, by omega, M, rfl, rfl, by rw [hM]; exact (flt_no ⟨by omega, by omega⟩ ⟨by omega, by omega⟩ (fun e => h4 e.2)).symm⟩
                | exact ⟨by omega, by omega, M, rfl, rfl, by rw [hM]; exact (flt_no ⟨by omega, by omega⟩ ⟨by omega, by omega⟩ (fun e => h4 e.1)).symm⟩
            · (try dsimp only); omega
          simp only [Bool.false_eq_true, if_true, if_false, Decidable.not_not] at h3
          (try simp only [Decidable.not_not] at h3); (try have hS := (h3 : StP _ _))
          refine list_guard_n rfl rfl rfl rfl (by decide) rfl ?_
          refine list_guard_n rfl rfl rfl rfl (by decide) rfl ?_
          refine list_cons rfl (op_q (q_pick rfl rfl (by decide)) ?_)
          refine list_nil ?_
          refine hK14 _ ?_; clear hK14 K14
          refine code_cond_f rfl ?_
          refine code_skip ?_
          refine blk_n ?_
          refine hK11 _ ?_; clear hK11 K11
          refine code_region ?_
          refine list_cons rfl (op_q (by first | exact q_addI rfl rfl (by decide) (by omega) (by omega) | exact q_ib rfl rfl rfl (by decide)) ?_)
          refine list_cons rfl (op_q (q_move rfl (by decide)) ?_)
          refine list_nil ?_
          refine then_n ⟨(_, _, _, _), imp_covers ⟨rfl, rfl, rfl, rfl, rfl, trivial⟩, ?_, ?_⟩
          · (try dsimp only)
            first
              | (have hp := (h3 : p _ _)
                 have hs := snocS (flt_yes (p := p) ⟨by omega, by omega⟩ ⟨by omega, by omega⟩ hS hp)
                 exact ⟨by omega, by omega, _, by rw [hM]; exact hs.1.symm, by rw [hM]; exact hs.2.symm, rfl⟩)
              | exact ⟨by omega, by omega, M, rfl, rfl, by rw [hM]; exact (flt_no ⟨by omega, by omega⟩ ⟨by omega, by omega⟩ (fun e => h3 e.2)).symm⟩
              | exact ⟨by omega, by omega, M, rfl, rfl, by rw [hM]; exact (flt_no ⟨by omega, by omega⟩ ⟨by omega, by omega⟩ (fun e => h3 e.1)).symm⟩
          · (try dsimp only); omega
        (try simp only [Decidable.not_not] at h2); (try have hS := (h2 : StP _ _))
        refine code_exit ?_
        refine then_x ?_; clear hK10 K10
        refine then_x ?_
        refine blk_hit ?_
        refine blk_n ?_
        refine hK7 _ ?_; clear hK7 K7
        refine code_region ?_
        refine list_cons rfl (op_q (q_move rfl (by decide)) ?_)
        refine list_cons rfl (op_q (by first | exact q_addI rfl rfl (by decide) (by omega) (by omega) | exact q_ib rfl rfl rfl (by decide)) ?_)
        refine list_cons rfl (op_q (q_assign rfl (by decide)) ?_)
        refine list_nil ?_
        refine then_n ⟨(_, _, _, _), imp_covers ⟨rfl, rfl, rfl, rfl, trivial⟩, ?_, ?_⟩
        · (try dsimp only)
          exact ⟨by omega, by omega, M, rfl, rfl, by rw [hM, stN_next ⟨by omega, by omega⟩, show t12.toNat = 7 by omega]⟩
        · (try dsimp only); omega
    (try simp only [Decidable.not_not] at h1); (try have hS := (h1 : StP _ _))
    refine code_exit ?_
    refine then_x ?_; clear hK5 K5
    refine then_x ?_
    refine blk_hit ?_
    refine hK3 _ ?_; clear hK3 K3
    refine code_seq (fun K15 hK15 => ?_)
    refine code_region ?_
    refine list_cons rfl (op_q (q_move rfl (by decide)) ?_)
    refine list_cons rfl (op_q (q_assign rfl (by decide)) ?_)
    refine list_nil ?_
    refine hK15 _ ?_; clear hK15 K15
    refine code_ret ?_
    refine ends_ret (cs := []) rfl rfl rfl rfl trivial ?_
    first
      | (have e : stN kind.toNat 0 = 15 := by rw [show kind.toNat = 3 by omega]; rfl
         rw [e]; done)

set_option maxRecDepth 4000 in
theorem FoundStatesN (l : List Int) (hl : l.length ≤ 4611686018427387904) (hT : ¬ TstP l) : PCalls Tryd.prog 25 [.sl l.length (l.map (.int .i64))] (· = [.own 0 71 2 (([] : List (Int × Int))).length (fl (([] : List (Int × Int)))), .val (.bool false)]) := by
  refine pcalls_of_code (n := 16) az Tryd.func25 (by kernel_rfl) rfl rfl (Nat.le_of_ble_eq_true rfl) (by intro t u h; simp [Tryd.f25] at h) ?_
  refine code_seq (fun K1 hK1 => ?_)
  refine code_region ?_
  refine list_cons rfl (op_q (q_assign rfl (by decide)) ?_)
  refine list_cons rfl (op_q (q_assign rfl (by decide)) ?_)
  refine list_nil ?_
  refine hK1 _ ?_; clear hK1 K1
  refine code_seq (fun K2 hK2 => ?_)
  refine code_region ?_
  refine list_cons rfl (op_q (q_move rfl (by decide)) ?_)
  refine list_cons rfl (op_call _ (finderN l hl hT) rfl rfl (by decide) (by decide) (by decide) rfl ?_)
  rintro _ rfl
  refine list_cons rfl (op_q (q_move rfl (by decide)) ?_)
  refine list_cons rfl (op_q (q_extract rfl rfl (by decide)) ?_)
  refine list_cons rfl (op_q (q_extract rfl rfl (by decide)) ?_)
  refine list_cons rfl (op_q (q_assign rfl (by decide)) ?_)
  refine list_cons rfl (op_q (q_assign rfl (by decide)) ?_)
  refine list_nil ?_
  refine hK2 _ ?_; clear hK2 K2
  refine codeT.imp (σ' := [(0, _), (2, _), (3, _), (4, _), (5, _)]) ?_ (imp_covers ⟨rfl, rfl, rfl, rfl, rfl, trivial⟩)
  refine code_seq (fun K3 hK3 => ?_)
  refine code_seq (fun K4 hK4 => ?_)
  refine code_region ?_
  refine list_cons rfl (op_q (q_move rfl (by decide)) ?_)
  refine list_cons rfl (op_q (by first | exact q_notd rfl (by decide) | exact q_not rfl (by decide)) ?_)
  refine list_nil ?_
  refine hK4 _ ?_; clear hK4 K4
  refine code_cond_t rfl ?_
  refine code_seq (fun K5 hK5 => ?_)
  refine code_region ?_
  refine list_cons rfl (op_buildSlice sl_36 (parts := []) rfl rfl rfl (by decide) (by decide) (by decide) rfl ?_)
  refine list_cons rfl (op_q (q_assign rfl (by decide)) ?_)
  refine list_cons rfl (op_q (q_assign rfl (by decide)) ?_)
  refine list_nil ?_
  refine hK5 _ ?_; clear hK5 K5
  refine code_ret ?_
  refine then_r ?_; clear hK3 K3
  refine ends_ret (cs := []) rfl rfl rfl rfl trivial ?_
  rfl

set_option maxRecDepth 8000 in
set_option maxHeartbeats 2000000 in
theorem FoundStatesY (l : List Int) (hl : l.length ≤ 4611686018427387904) (hT : TstP l) : PCalls Tryd.prog 25 [.sl l.length (l.map (.int .i64))] (· = [.own 0 71 2 (fnd l true).length (fl (fnd l true)), .val (.bool true)]) := by
  refine pcalls_of_code (n := 16) az Tryd.func25 (by kernel_rfl) rfl rfl (Nat.le_of_ble_eq_true rfl) (by intro t u h; simp [Tryd.f25] at h) ?_
  refine code_seq (fun K1 hK1 => ?_)
  refine code_region ?_
  refine list_cons rfl (op_q (q_assign rfl (by decide)) ?_)
  refine list_cons rfl (op_q (q_assign rfl (by decide)) ?_)
  refine list_nil ?_
  refine hK1 _ ?_; clear hK1 K1
  refine code_seq (fun K2 hK2 => ?_)
  refine code_region ?_
  refine list_cons rfl (op_q (q_move rfl (by decide)) ?_)
  refine list_cons rfl (op_call _ (finderY l hl hT) rfl rfl (by decide) (by decide) (by decide) rfl ?_)
  rintro _ rfl
  refine list_cons rfl (op_q (q_move rfl (by decide)) ?_)
  refine list_cons rfl (op_q (q_extract rfl rfl (by decide)) ?_)
  refine list_cons rfl (op_q (q_extract rfl rfl (by decide)) ?_)
  refine list_cons rfl (op_q (q_assign rfl (by decide)) ?_)
  refine list_cons rfl (op_q (q_assign rfl (by decide)) ?_)
  refine list_nil ?_
  refine hK2 _ ?_; clear hK2 K2
  refine codeT.imp (σ' := [(0, _), (2, _), (3, _), (4, _), (5, _)]) ?_ (imp_covers ⟨rfl, rfl, rfl, rfl, rfl, trivial⟩)
  refine code_seq (fun K3 hK3 => ?_)
  refine code_seq (fun K4 hK4 => ?_)
  refine code_region ?_
  refine list_cons rfl (op_q (q_move rfl (by decide)) ?_)
  refine list_cons rfl (op_q (by first | exact q_notd rfl (by decide) | exact q_not rfl (by decide)) ?_)
  refine list_nil ?_
  refine hK4 _ ?_; clear hK4 K4
  refine code_cond_f rfl ?_
  refine code_skip ?_
  refine hK3 _ ?_; clear hK3 K3
  refine code_seq (fun K5 hK5 => ?_)
  refine code_region ?_
  refine list_cons rfl (op_q (q_move rfl (by decide)) ?_)
  refine list_cons rfl (op_call _ (statesThat_c 78 [.clo 90 [.ptr [.sl (celT l).length ((celT l).map (.int .i64))]]] [.ptr ((shwK l 0 0 l.length).map (.int .i64))] (fun b k => 0 ≤ plc l b k) (fun b k hS => finder1_c l b k hT hS)) rfl rfl (by decide) (by decide) (by decide) rfl ?_)
  rintro _ rfl
  refine list_cons rfl (op_q (q_assign rfl (by decide)) ?_)
  refine list_cons rfl (op_q (q_assign rfl (by decide)) ?_)
  refine list_nil ?_
  refine hK5 _ ?_; clear hK5 K5
  refine codeT.imp (σ' := [(0, _), (2, _), (3, _), (4, _), (5, _)]) ?_ (imp_covers ⟨rfl, rfl, rfl, rfl, rfl, trivial⟩)
  refine code_ret ?_
  refine ends_ret (cs := []) rfl rfl rfl rfl trivial ?_
  rw [(fnd_of hT).1]

theorem impl_FoundStates (l : List Int) (hl : l.length ≤ 4611686018427387904) : PCalls Tryd.prog 25 [.sl l.length (l.map (.int .i64))] (· = [.own 0 71 2 (if TstP l then fnd l true else []).length (fl (if TstP l then fnd l true else [])), .val (.bool (decide (TstP l)))]) := by
  by_cases h : TstP l
  · simp only [if_pos h, decide_eq_true h]; exact FoundStatesY l hl h
  · simp only [if_neg h, decide_eq_false h]; exact FoundStatesN l hl h

set_option maxRecDepth 4000 in
theorem HiddenStatesN (l : List Int) (hl : l.length ≤ 4611686018427387904) (hT : ¬ TstP l) : PCalls Tryd.prog 32 [.sl l.length (l.map (.int .i64))] (· = [.own 0 71 2 (([] : List (Int × Int))).length (fl (([] : List (Int × Int)))), .val (.bool false)]) := by
  refine pcalls_of_code (n := 16) az Tryd.func32 (by kernel_rfl) rfl rfl (Nat.le_of_ble_eq_true rfl) (by intro t u h; simp [Tryd.f32] at h) ?_
  refine code_seq (fun K1 hK1 => ?_)
  refine code_region ?_
  refine list_cons rfl (op_q (q_assign rfl (by decide)) ?_)
  refine list_cons rfl (op_q (q_assign rfl (by decide)) ?_)
  refine list_nil ?_
  refine hK1 _ ?_; clear hK1 K1
  refine code_seq (fun K2 hK2 => ?_)
  refine code_region ?_
  refine list_cons rfl (op_q (q_move rfl (by decide)) ?_)
  refine list_cons rfl (op_call _ (finderN l hl hT) rfl rfl (by decide) (by decide) (by decide) rfl ?_)
  rintro _ rfl
  refine list_cons rfl (op_q (q_move rfl (by decide)) ?_)
  refine list_cons rfl (op_q (q_extract rfl rfl (by decide)) ?_)
  refine list_cons rfl (op_q (q_extract rfl rfl (by decide)) ?_)
  refine list_cons rfl (op_alloc zt_65 (by decide) (by decide) rfl ?_)
  refine list_cons rfl (op_store (one_65).2 4 [4] (by intro t ht; simp only [List.mem_cons, List.not_mem_nil, or_false] at ht; subst ht; rfl) (.inr ⟨rfl, _, rfl⟩) rfl rfl rfl rfl rfl rfl (by first | decide | omega | exact Nat.le_refl _ | (simp; done) | (simp; omega)) (by decide) rfl ?_)
  refine list_cons rfl (op_q (q_assign rfl (by decide)) ?_)
  refine list_nil ?_
  refine hK2 _ ?_; clear hK2 K2
  refine codeT.imp (σ' := [(0, _), (2, _), (3, _), (4, _), (5, _)]) ?_ (imp_covers ⟨rfl, rfl, rfl, rfl, rfl, trivial⟩)
  refine code_seq (fun K3 hK3 => ?_)
  refine code_seq (fun K4 hK4 => ?_)
  refine code_region ?_
  refine list_cons rfl (op_q (q_move rfl (by decide)) ?_)
  refine list_cons rfl (op_q (by first | exact q_notd rfl (by decide) | exact q_not rfl (by decide)) ?_)
  refine list_nil ?_
  refine hK4 _ ?_; clear hK4 K4
  refine code_cond_t rfl ?_
  refine code_seq (fun K5 hK5 => ?_)
  refine code_region ?_
  refine list_cons rfl (op_buildSlice sl_36 (parts := []) rfl rfl rfl (by decide) (by decide) (by decide) rfl ?_)
  refine list_cons rfl (op_q (q_assign rfl (by decide)) ?_)
  refine list_cons rfl (op_q (q_assign rfl (by decide)) ?_)
  refine list_nil ?_
  refine hK5 _ ?_; clear hK5 K5
  refine code_ret ?_
  refine then_r ?_; clear hK3 K3
  refine ends_ret (cs := []) rfl rfl rfl rfl trivial ?_
  rfl

set_option maxRecDepth 8000 in
set_option maxHeartbeats 2000000 in
theorem hidden1_c (l : List Int) (b k : Int) (hT : TstP l) (hS : StP b k) : PCalls Tryd.prog 62 [.agg [.int .i64 b, .int .i64 k], .ptr [.clo 78 (.ptr [.clo 90 [.ptr [.sl (celT l).length ((celT l).map (.int .i64))]]] :: [.ptr ((shwK l 0 0 l.length).map (.int .i64))])]] (· = [.val (.bool (decide (k ≠ 0 ∧ ¬ 0 ≤ plc l b k)))]) := by
  refine pcalls_of_code (n := 13) az Tryd.func62 (by kernel_rfl) rfl rfl (Nat.le_of_ble_eq_true rfl) (by intro t u h; simp [Tryd.f62] at h) ?_
  refine codeT.imp ?_ (imp_rpar (s := 1) (i := 1) rfl)
  refine code_seq (fun K1 hK1 => ?_)
  refine code_region ?_
  refine list_cons rfl (op_box rfl (.inl ⟨rfl, rfl⟩) (by decide) (by decide) rfl ?_)
  refine list_cons rfl (op_q (q_assign rfl (by decide)) ?_)
  refine list_nil ?_
  refine hK1 _ ?_; clear hK1 K1
  refine code_seq (fun K2 hK2 => ?_)
  refine code_region ?_
  refine list_cons rfl (op_q (q_fieldAddr fi_71_1 rfl rfl (by decide)) ?_)
  refine list_cons rfl (op_q (q_load one_3 2 rfl rfl rfl (by first | rfl | exact get_map1 _ 0 _ (by first | omega | (simp; omega))) (by decide)) ?_)
  refine list_cons rfl (op_q (q_ne rfl rfl (by decide)) ?_)
  refine list_cons rfl (op_q (q_move rfl (by decide)) ?_)
  refine list_guard_d rfl rfl rfl rfl (by decide) rfl (by decide) (fun h1 => ?_) (fun h1 => ?_)
  · simp only [Bool.false_eq_true, if_true, if_false, Decidable.not_not] at h1
    refine id (op_q (q_load_rdP one_65 rfl (by decide)) ?_)
    refine list_guard_y rfl rfl rfl rfl (by decide) rfl ?_
    refine id (op_q (q_load_agg agg_71 2 (.inr ⟨rfl, _, rfl⟩) rfl rfl (by first | decide | omega | exact Nat.le_refl _ | (simp; done) | (simp; omega)) (by first | rfl | exact flat_part (flat_map _ (fun _ => rfl) _) _ _) (by decide)) ?_)
    refine list_guard_y rfl rfl rfl rfl (by decide) rfl ?_
    refine id (op_callV _ rfl rfl rfl rfl (pcV (finder1_c l b k hT hS)) (by decide) ?_)
    rintro _ rfl
    refine list_guard_y rfl rfl rfl rfl (by decide) rfl ?_
    refine id (op_q (by first | exact q_notd rfl (by decide) | exact q_not rfl (by decide)) ?_)
    refine list_cons rfl (op_q (q_pick rfl rfl (by decide)) ?_)
    refine list_cons rfl (op_q (q_assign rfl (by decide)) ?_)
    refine list_nil ?_
    refine hK2 _ ?_; clear hK2 K2
    refine codeT.imp (σ' := [(0, _), (1, _), (2, _), (3, _)]) ?_ (imp_covers ⟨rfl, rfl, rfl, rfl, trivial⟩)
    refine code_ret ?_
    refine ends_ret (cs := []) rfl rfl rfl rfl trivial ?_
    first
      | (rw [decide_eq_false (fun e => e.1 (by assumption))]; done)
      | (rw [← decide_not]; congr 3; exact decide_eq_decide.mpr ⟨fun e => ⟨h1, e⟩, fun e => e.2⟩)
      | (congr 3; exact decide_eq_decide.mpr ⟨fun e => ⟨h1, e⟩, fun e => e.2⟩)
  simp only [Bool.false_eq_true, if_true, if_false, Decidable.not_not] at h1
  refine list_guard_n rfl rfl rfl rfl (by decide) rfl ?_
  refine list_guard_n rfl rfl rfl rfl (by decide) rfl ?_
  refine list_guard_n rfl rfl rfl rfl (by decide) rfl ?_
  refine list_cons rfl (op_q (q_pick rfl rfl (by decide)) ?_)
  refine list_cons rfl (op_q (q_assign rfl (by decide)) ?_)
  refine list_nil ?_
  refine hK2 _ ?_; clear hK2 K2
  refine code_ret ?_
  refine ends_ret (cs := []) rfl rfl rfl rfl trivial ?_
  first
    | (rw [decide_eq_false (fun e => e.1 (by assumption))]; done)
    | (rw [← decide_not]; congr 3; exact decide_eq_decide.mpr ⟨fun e => ⟨h1, e⟩, fun e => e.2⟩)
    | (congr 3; exact decide_eq_decide.mpr ⟨fun e => ⟨h1, e⟩, fun e => e.2⟩)

set_option maxRecDepth 8000 in
set_option maxHeartbeats 2000000 in
theorem HiddenStatesY (l : List Int) (hl : l.length ≤ 4611686018427387904) (hT : TstP l) : PCalls Tryd.prog 32 [.sl l.length (l.map (.int .i64))] (· = [.own 0 71 2 (fnd l false).length (fl (fnd l false)), .val (.bool true)]) := by
  refine pcalls_of_code (n := 16) az Tryd.func32 (by kernel_rfl) rfl rfl (Nat.le_of_ble_eq_true rfl) (by intro t u h; simp [Tryd.f32] at h) ?_
  refine code_seq (fun K1 hK1 => ?_)
  refine code_region ?_
  refine list_cons rfl (op_q (q_assign rfl (by decide)) ?_)
  refine list_cons rfl (op_q (q_assign rfl (by decide)) ?_)
  refine list_nil ?_
  refine hK1 _ ?_; clear hK1 K1
  refine code_seq (fun K2 hK2 => ?_)
  refine code_region ?_
  refine list_cons rfl (op_q (q_move rfl (by decide)) ?_)
  refine list_cons rfl (op_call _ (finderY l hl hT) rfl rfl (by decide) (by decide) (by decide) rfl ?_)
  rintro _ rfl
  refine list_cons rfl (op_q (q_move rfl (by decide)) ?_)
  refine list_cons rfl (op_q (q_extract rfl rfl (by decide)) ?_)
  refine list_cons rfl (op_q (q_extract rfl rfl (by decide)) ?_)
  refine list_cons rfl (op_alloc zt_65 (by decide) (by decide) rfl ?_)
  refine list_cons rfl (op_storeB (one_65).2 rfl rfl rfl rfl rfl (by decide) (by decide) rfl ?_)
  refine list_cons rfl (op_q (q_assign rfl (by decide)) ?_)
  refine list_nil ?_
  refine hK2 _ ?_; clear hK2 K2
  refine codeT.imp (σ' := [(0, _), (2, _), (3, _), (4, _), (5, _)]) ?_ (imp_covers ⟨rfl, rfl, rfl, rfl, rfl, trivial⟩)
  refine code_seq (fun K3 hK3 => ?_)
  refine code_seq (fun K4 hK4 => ?_)
  refine code_region ?_
  refine list_cons rfl (op_q (q_move rfl (by decide)) ?_)
  refine list_cons rfl (op_q (by first | exact q_notd rfl (by decide) | exact q_not rfl (by decide)) ?_)
  refine list_nil ?_
  refine hK4 _ ?_; clear hK4 K4
  refine code_cond_f rfl ?_
  refine code_skip ?_
  refine hK3 _ ?_; clear hK3 K3
  refine code_seq (fun K5 hK5 => ?_)
  refine code_region ?_
  refine list_cons rfl (op_makeFuncC (xs := [.tmp 4]) rfl rfl rfl (by decide) (by decide) rfl ?_)
  refine list_cons rfl (op_call _ (statesThat_c 62 [.clo 78 (.ptr [.clo 90 [.ptr [.sl (celT l).length ((celT l).map (.int .i64))]]] :: [.ptr ((shwK l 0 0 l.length).map (.int .i64))])] [] (fun b k => k ≠ 0 ∧ ¬ 0 ≤ plc l b k) (fun b k hS => hidden1_c l b k hT hS)) rfl rfl (by decide) (by decide) (by decide) rfl ?_)
  rintro _ rfl
  refine list_cons rfl (op_q (q_assign rfl (by decide)) ?_)
  refine list_cons rfl (op_q (q_assign rfl (by decide)) ?_)
  refine list_nil ?_
  refine hK5 _ ?_; clear hK5 K5
  refine codeT.imp (σ' := [(0, _), (2, _), (3, _), (4, _), (5, _)]) ?_ (imp_covers ⟨rfl, rfl, rfl, rfl, rfl, trivial⟩)
  refine code_ret ?_
  refine ends_ret (cs := []) rfl rfl rfl rfl trivial ?_
  rw [(fnd_of hT).2]

theorem impl_HiddenStates (l : List Int) (hl : l.length ≤ 4611686018427387904) : PCalls Tryd.prog 32 [.sl l.length (l.map (.int .i64))] (· = [.own 0 71 2 (if TstP l then fnd l false else []).length (fl (if TstP l then fnd l false else [])), .val (.bool (decide (TstP l)))]) := by
  by_cases h : TstP l
  · simp only [if_pos h, decide_eq_true h]; exact HiddenStatesY l hl h
  · simp only [if_neg h, decide_eq_false h]; exact HiddenStatesN l hl h

set_option maxRecDepth 4000 in
theorem impl_IsFullTest (l : List Int) (hl : l.length ≤ 4611686018427387904) : PCalls Tryd.prog 21 [.sl l.length (l.map (.int .i64))] (· = [.val (.bool (decide (TstP l ∧ FulP l))), .val (.bool (decide (TstP l)))]) := by
  refine pcalls_of_code (n := 18) az Tryd.func21 (by kernel_rfl) rfl rfl (Nat.le_of_ble_eq_true rfl) (by intro t u h; simp [Tryd.f21] at h) ?_
  have hfl : (if TstP l then fnd l false else []).length ≤ 14 := by
    split
    · exact fnd_len _ _
    · simp
  refine code_seq (fun K1 hK1 => ?_)
  refine code_region ?_
  refine list_cons rfl (op_q (q_assign rfl (by decide)) ?_)
  refine list_cons rfl (op_q (q_assign rfl (by decide)) ?_)
  refine list_nil ?_
  refine hK1 _ ?_; clear hK1 K1
  refine code_seq (fun K2 hK2 => ?_)
  refine code_region ?_
  refine list_cons rfl (op_q (q_move rfl (by decide)) ?_)
  refine list_cons rfl (op_call _ (impl_HiddenStates _ (by first | omega | (simp; omega))) rfl rfl (by decide) (by decide) (by decide) rfl ?_)
  rintro _ rfl
  refine list_cons rfl (op_q (q_move rfl (by decide)) ?_)
  refine list_cons rfl (op_q (q_extract rfl rfl (by decide)) ?_)
  refine list_cons rfl (op_q (q_extract rfl rfl (by decide)) ?_)
  refine list_cons rfl (op_q (q_assign rfl (by decide)) ?_)
  refine list_cons rfl (op_q (q_assign rfl (by decide)) ?_)
  refine list_nil ?_
  refine hK2 _ ?_; clear hK2 K2
  refine codeT.imp (σ' := [(0, _), (2, _), (3, _), (4, _), (5, _)]) ?_ (imp_covers ⟨rfl, rfl, rfl, rfl, rfl, trivial⟩)
  refine code_seq (fun K3 hK3 => ?_)
  refine code_region ?_
  refine list_cons rfl (op_q (q_move rfl (by decide)) ?_)
  refine list_cons rfl (op_q (q_move rfl (by decide)) ?_)
  refine list_guard_d rfl rfl rfl rfl (by decide) rfl (by decide) (fun h1 => ?_) (fun h1 => ?_)
  · simp only [Bool.false_eq_true, if_true, if_false, Decidable.not_not] at h1
    refine id (op_q (q_move rfl (by decide)) ?_)
    refine list_guard_y rfl rfl rfl rfl (by decide) rfl ?_
    refine id (op_q (q_len_sl Tryd.underlying36 rfl rfl (by decide)) ?_)
    refine list_guard_y rfl rfl rfl rfl (by decide) rfl ?_
    refine id (op_q (q_eq rfl rfl (by decide)) ?_)
    refine list_cons rfl (op_q (q_pick rfl rfl (by decide)) ?_)
    refine list_cons rfl (op_q (q_move rfl (by decide)) ?_)
    refine list_cons rfl (op_q (q_assign rfl (by decide)) ?_)
    refine list_cons rfl (op_q (q_assign rfl (by decide)) ?_)
    refine list_nil ?_
    refine hK3 _ ?_; clear hK3 K3
    refine codeT.imp (σ' := [(0, _), (2, _), (3, _), (4, _), (5, _)]) ?_ (imp_covers ⟨rfl, rfl, rfl, rfl, rfl, trivial⟩)
    refine code_ret ?_
    refine ends_ret (cs := []) rfl rfl rfl rfl trivial ?_
    first
      | (rw [decide_eq_false (fun e : TstP l ∧ FulP l => h1 e.1), decide_eq_false h1]; done)
      | (rw [decide_eq_true h1]; simp only [if_pos h1]; congr 3; exact decide_eq_decide.mpr ⟨fun e => ⟨h1, (ful_len l).1 e⟩, fun e => (ful_len l).2 e.2⟩)
  simp only [Bool.false_eq_true, if_true, if_false, Decidable.not_not] at h1
  refine list_guard_n rfl rfl rfl rfl (by decide) rfl ?_
  refine list_guard_n rfl rfl rfl rfl (by decide) rfl ?_
  refine list_cons rfl (op_q (q_pick rfl rfl (by decide)) ?_)
  refine list_cons rfl (op_q (q_move rfl (by decide)) ?_)
  refine list_cons rfl (op_q (q_assign rfl (by decide)) ?_)
  refine list_cons rfl (op_q (q_assign rfl (by decide)) ?_)
  refine list_nil ?_
  refine hK3 _ ?_; clear hK3 K3
  refine code_ret ?_
  refine ends_ret (cs := []) rfl rfl rfl rfl trivial ?_
  first
    | (rw [decide_eq_false (fun e : TstP l ∧ FulP l => h1 e.1), decide_eq_false h1]; done)
    | (rw [decide_eq_true h1]; simp only [if_pos h1]; congr 3; exact decide_eq_decide.mpr ⟨fun e => ⟨h1, (ful_len l).1 e⟩, fun e => (ful_len l).2 e.2⟩)

end Go.Proofs.YtfkdochnjcpedaaDoor
