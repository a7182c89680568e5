/- Contracts of functions, walked over the pure layer; each says for which arguments. -/
import Derived.Test.Ytlipkomdajogiaaf2Ty
import Derived.Test.YtlipkomdajogiaaTf
import Derived.Test.Ytlipkomdajogiaaf1
namespace Go.Proofs.Ytlipkomdajogiaa
open Go.RowKit f2Ty
set_option linter.unusedVariables false
set_option linter.unusedSimpArgs false
set_option maxRecDepth 4000 in
theorem impl_IsCell (c : Int) : PCalls Try.prog 84 [.int .i64 c] (· = [.val (.bool (decide (0 ≤ c ∧ c ≤ 127)))]) := by
  refine pcalls_of_code (n := 9) az Try.func84 (by kernel_rfl) rfl rfl (Nat.le_of_ble_eq_true rfl) (by intro t u h; simp [Try.f84] at h) ?_
  refine code_seq (fun K1 hK1 => ?_)
  refine code_region ?_
  refine list_cons rfl (op_q (q_assign rfl (by decide)) ?_)
  refine list_nil ?_
  refine hK1 _ ?_; clear hK1 K1
  refine code_seq (fun K2 hK2 => ?_)
  refine code_region ?_
  refine list_cons rfl (op_q (q_move rfl (by decide)) ?_)
  refine list_cons rfl (op_q (q_ge rfl rfl (by decide)) ?_)
  refine list_cons rfl (op_q (q_move rfl (by decide)) ?_)
  refine list_guard_d rfl rfl rfl rfl (by decide) rfl (by decide) (fun h1 => ?_) (fun h1 => ?_)
  · simp only [Bool.false_eq_true, if_true, if_false, Decidable.not_not] at h1
    refine id (op_q (q_move rfl (by decide)) ?_)
    refine list_guard_y rfl rfl rfl rfl (by decide) rfl ?_
    refine id (op_q (q_lt rfl rfl (by decide)) ?_)
    refine list_cons rfl (op_q (q_pick rfl rfl (by decide)) ?_)
    refine list_cons rfl (op_q (q_assign rfl (by decide)) ?_)
    refine list_nil ?_
    refine hK2 _ ?_; clear hK2 K2
    refine code_ret ?_
    refine ends_ret (cs := []) rfl rfl rfl rfl trivial ?_
    first | (congr 3; exact decide_eq_decide.mpr ⟨fun k => by omega, fun k => by omega⟩) | (rw [decide_eq_false (by omega)])
  simp only [Bool.false_eq_true, if_true, if_false, Decidable.not_not] at h1
  refine list_guard_n rfl rfl rfl rfl (by decide) rfl ?_
  refine list_cons rfl (op_q (q_pick rfl rfl (by decide)) ?_)
  refine list_cons rfl (op_q (q_assign rfl (by decide)) ?_)
  refine list_nil ?_
  refine hK2 _ ?_; clear hK2 K2
  refine code_ret ?_
  refine ends_ret (cs := []) rfl rfl rfl rfl trivial ?_
  first | (congr 3; exact decide_eq_decide.mpr ⟨fun k => by omega, fun k => by omega⟩) | (rw [decide_eq_false (by omega)])
set_option maxRecDepth 4000 in
theorem indexA_c (l : List Int) (f : FuncId) (p : Int → Prop) [DecidablePred p] (hl : l.length ≤ 4611686018427387904) (hf : ∀ j, j < l.length → PCalls Try.prog f [.int .i64 (l.getD j 0)] (· = [.val (.bool (decide (p (l.getD j 0))))])) : PCalls Try.prog 128 [.sl l.length (l.map (.int .i64)), .clo f []] (fun rs => ∃ i : Int, rs = [.val (.int .i64 i)] ∧ (0 ≤ i ↔ ∃ j, j < l.length ∧ p (l.getD j 0))) := by
  refine pcalls_of_code (n := 19) az Try.func128 (by kernel_rfl) rfl rfl (Nat.le_of_ble_eq_true rfl) (by intro t u h; simp [Try.f128] at h) ?_
  refine code_seq (fun K1 hK1 => ?_)
  refine code_region ?_
  refine list_cons rfl (op_q (q_assign rfl (by decide)) ?_)
  refine list_nil ?_
  refine hK1 _ ?_; clear hK1 K1
  refine code_seq (fun K2 hK2 => ?_)
  refine code_seq (fun K3 hK3 => ?_)
  refine code_region ?_
  refine list_cons rfl (op_q (q_move rfl (by decide)) ?_)
  refine list_cons rfl (op_q (q_len_sl Try.underlying27 rfl rfl (by decide)) ?_)
  refine list_cons rfl (op_q (q_move rfl (by decide)) ?_)
  refine list_nil ?_
  refine hK3 _ ?_; clear hK3 K3
  refine code_block ?_
  refine code_loop (X := Int × Int) (fun x => [(0, .par 0 (.sl l.length (l.map (.int .i64)))), (1, .val (.clo f [])), (4, .val (.int .i64 x.1)), (7, .val (.int .i64 l.length)), (8, .val (.int .i64 x.2))]) (fun x => 0 ≤ x.2 ∧ x.2 ≤ l.length ∧ ∀ j, j < x.2.toNat → ¬ p (l.getD j 0)) (fun x => (l.length - x.2).toNat) (_, _) (imp_covers ⟨rfl, rfl, rfl, rfl, rfl, trivial⟩) ?_ ?_
  · (try dsimp only)
    exact ⟨by omega, by omega, fun j hj => by simp at hj⟩
  · intro x hI
    obtain ⟨t4, t8⟩ := x
    replace hI : 0 ≤ t8 ∧ t8 ≤ l.length ∧ ∀ j, j < t8.toNat → ¬ p (l.getD j 0) := hI
    show codeT _ _ _ [(0, .par 0 (.sl l.length (l.map (.int .i64)))), (1, .val (.clo f [])), (4, .val (.int .i64 t4)), (7, .val (.int .i64 l.length)), (8, .val (.int .i64 t8))] _
    obtain ⟨i1, i2, i3⟩ := hI
    refine code_seq (fun K4 hK4 => ?_)
    refine code_region ?_
    refine list_cons rfl (op_q (q_lt rfl rfl (by decide)) ?_)
    refine list_nil ?_
    refine hK4 _ ?_; clear hK4 K4
    refine code_seq (fun K5 hK5 => ?_)
    refine code_cond_d rfl (fun h1 => ?_) (fun h1 => ?_)
    · skip
      (try simp only [Decidable.not_not] at h1)
      refine code_skip ?_
      refine hK5 _ ?_; clear hK5 K5
      refine code_seq (fun K6 hK6 => ?_)
      refine code_block ?_
      refine code_seq (fun K7 hK7 => ?_)
      refine code_region ?_
      refine list_cons rfl (op_q (q_move rfl (by decide)) ?_)
      refine list_cons rfl (op_q (q_assign rfl (by decide)) ?_)
      refine list_nil ?_
      refine hK7 _ ?_; clear hK7 K7
      refine code_seq (fun K8 hK8 => ?_)
      refine code_region ?_
      refine list_cons rfl (op_q (q_move rfl (by decide)) ?_)
      refine list_cons rfl (op_q (q_move rfl (by decide)) ?_)
      refine list_cons rfl (op_q (q_move rfl (by decide)) ?_)
      refine list_cons rfl (op_q (q_indexAddr_rd sl_27 rfl (.inl ⟨_, rfl, rfl⟩) rfl (by omega) (by omega) (by decide)) ?_)
      refine list_cons rfl (op_q (q_load_rd one_3 rfl (.inl ⟨_, (by first | rfl | exact congrArg (SV.rpar _) (drop_map1 _ 0 _ (by first | omega | (simp; omega)))), rfl⟩) (by decide)) ?_)
      refine list_cons rfl (op_callV _ rfl rfl rfl rfl (pcV (hf t8.toNat (by omega))) (by decide) ?_)
      rintro _ rfl
      refine list_nil ?_
      refine hK8 _ ?_; clear hK8 K8
      refine codeT.imp (σ' := [(0, _), (1, _), (4, _), (5, _), (7, _), (8, _), (16, _)]) ?_ (imp_covers ⟨rfl, rfl, rfl, rfl, rfl, rfl, rfl, trivial⟩)
      refine code_cond_d rfl (fun h2 => ?_) (fun h2 => ?_)
      · skip
        (try simp only [Decidable.not_not] at h2)
        refine code_seq (fun K9 hK9 => ?_)
        refine code_region ?_
        refine list_cons rfl (op_q (q_move rfl (by decide)) ?_)
        refine list_cons rfl (op_q (q_assign rfl (by decide)) ?_)
        refine list_nil ?_
        refine hK9 _ ?_; clear hK9 K9
        refine code_ret ?_
        refine blk_r ?_
        refine then_r ?_; clear hK6 K6
        refine then_r ?_
        refine blk_r ?_
        refine then_r ?_; clear hK2 K2
        refine ends_ret (cs := []) rfl rfl rfl rfl trivial ?_
        first
          | exact ⟨_, rfl, fun _ => ⟨t8.toNat, by omega, h2⟩, fun _ => by omega⟩
          | exact ⟨_, rfl, fun h => by omega, fun ⟨j, hj, hp⟩ => absurd hp (i3 j (by omega))⟩
      (try simp only [Decidable.not_not] at h2)
      refine code_skip ?_
      refine blk_n ?_
      refine hK6 _ ?_; clear hK6 K6
      refine code_region ?_
      refine list_cons rfl (op_q (by first | exact q_addI rfl rfl (by decide) (by omega) (by omega) | exact q_ib rfl rfl rfl (by decide)) ?_)
      refine list_cons rfl (op_q (q_move rfl (by decide)) ?_)
      refine list_nil ?_
      refine then_n ⟨(_, _), imp_covers ⟨rfl, rfl, rfl, rfl, rfl, trivial⟩, ?_, ?_⟩
      · (try dsimp only)
        refine ⟨by omega, by omega, fun j hj => ?_⟩
        by_cases e : j = t8.toNat
        · subst e; exact h2
        · exact i3 j (by omega)
      · (try dsimp only); omega
    (try simp only [Decidable.not_not] at h1)
    refine code_exit ?_
    refine then_x ?_; clear hK5 K5
    refine then_x ?_
    refine blk_hit ?_
    refine hK2 _ ?_; clear hK2 K2
    refine code_seq (fun K10 hK10 => ?_)
    refine code_region ?_
    refine list_cons rfl (op_q (q_assign rfl (by decide)) ?_)
    refine list_nil ?_
    refine hK10 _ ?_; clear hK10 K10
    refine code_ret ?_
    refine ends_ret (cs := []) rfl rfl rfl rfl trivial ?_
    first
      | exact ⟨_, rfl, fun _ => ⟨t8.toNat, by omega, h1⟩, fun _ => by omega⟩
      | exact ⟨_, rfl, fun h => by omega, fun ⟨j, hj, hp⟩ => absurd hp (i3 j (by omega))⟩
set_option maxRecDepth 4000 in
theorem containsA_c (l : List Int) (f : FuncId) (p : Int → Prop) [DecidablePred p] (hl : l.length ≤ 4611686018427387904) (hf : ∀ j, j < l.length → PCalls Try.prog f [.int .i64 (l.getD j 0)] (· = [.val (.bool (decide (p (l.getD j 0))))])) : PCalls Try.prog 120 [.sl l.length (l.map (.int .i64)), .clo f []] (fun rs => rs = [.val (.bool (decide (∃ j, j < l.length ∧ p (l.getD j 0))))]) := by
  refine pcalls_of_code (n := 9) az Try.func120 (by kernel_rfl) rfl rfl (Nat.le_of_ble_eq_true rfl) (by intro t u h; simp [Try.f120] at h) ?_
  refine code_seq (fun K1 hK1 => ?_)
  refine code_region ?_
  refine list_cons rfl (op_q (q_assign rfl (by decide)) ?_)
  refine list_nil ?_
  refine hK1 _ ?_; clear hK1 K1
  refine code_seq (fun K2 hK2 => ?_)
  refine code_region ?_
  refine list_cons rfl (op_q (q_move rfl (by decide)) ?_)
  refine list_cons rfl (op_q (q_move rfl (by decide)) ?_)
  refine list_cons rfl (op_call _ (indexA_c l f p hl hf) rfl rfl (by decide) (by decide) (by decide) rfl ?_)
  rintro _ ⟨ix, rfl, hix⟩
  refine list_cons rfl (op_q (q_ge rfl rfl (by decide)) ?_)
  refine list_cons rfl (op_q (q_assign rfl (by decide)) ?_)
  refine list_nil ?_
  refine hK2 _ ?_; clear hK2 K2
  refine codeT.imp (σ' := [(0, _), (1, _), (4, _)]) ?_ (imp_covers ⟨rfl, rfl, rfl, trivial⟩)
  refine code_ret ?_
  refine ends_ret (cs := []) rfl rfl rfl rfl trivial ?_
  congr 3
  exact decide_eq_decide.mpr hix
set_option maxRecDepth 4000 in
theorem areCells1_c (c : Int) : PCalls Try.prog 121 [.int .i64 c] (· = [.val (.bool (decide (¬ (0 ≤ c ∧ c ≤ 127))))]) := by
  refine pcalls_of_code (n := 6) az Try.func121 (by kernel_rfl) rfl rfl (Nat.le_of_ble_eq_true rfl) (by intro t u h; simp [Try.f121] at h) ?_
  refine code_seq (fun K1 hK1 => ?_)
  refine code_region ?_
  refine list_cons rfl (op_q (q_assign rfl (by decide)) ?_)
  refine list_nil ?_
  refine hK1 _ ?_; clear hK1 K1
  refine code_seq (fun K2 hK2 => ?_)
  refine code_region ?_
  refine list_cons rfl (op_q (q_move rfl (by decide)) ?_)
  refine list_cons rfl (op_call _ (impl_IsCell _) rfl rfl (by decide) (by decide) (by decide) rfl ?_)
  rintro _ rfl
  refine list_cons rfl (op_q (by first | exact q_notd rfl (by decide) | exact q_not rfl (by decide)) ?_)
  refine list_cons rfl (op_q (q_assign rfl (by decide)) ?_)
  refine list_nil ?_
  refine hK2 _ ?_; clear hK2 K2
  refine codeT.imp (σ' := [(0, _), (2, _)]) ?_ (imp_covers ⟨rfl, rfl, trivial⟩)
  refine code_ret ?_
  refine ends_ret (cs := []) rfl rfl rfl rfl trivial ?_
  rfl
set_option maxRecDepth 4000 in
theorem impl_areCells (l : List Int) (hl : l.length ≤ 4611686018427387904) : PCalls Try.prog 105 [.sl l.length (l.map (.int .i64))] (· = [.val (.bool (decide (∀ j, j < l.length → 0 ≤ l.getD j 0 ∧ l.getD j 0 ≤ 127)))]) := by
  refine pcalls_of_code (n := 6) az Try.func105 (by kernel_rfl) rfl rfl (Nat.le_of_ble_eq_true rfl) (by intro t u h; simp [Try.f105] at h) ?_
  refine code_seq (fun K1 hK1 => ?_)
  refine code_region ?_
  refine list_cons rfl (op_q (q_assign rfl (by decide)) ?_)
  refine list_nil ?_
  refine hK1 _ ?_; clear hK1 K1
  refine code_seq (fun K2 hK2 => ?_)
  refine code_region ?_
  refine list_cons rfl (op_q (q_move rfl (by decide)) ?_)
  refine list_cons rfl (op_call _ (containsA_c l 121 (fun c => ¬ (0 ≤ c ∧ c ≤ 127)) hl (fun j hj => areCells1_c _)) rfl rfl (by decide) (by decide) (by decide) rfl ?_)
  rintro _ rfl
  refine list_cons rfl (op_q (by first | exact q_notd rfl (by decide) | exact q_not rfl (by decide)) ?_)
  refine list_cons rfl (op_q (q_assign rfl (by decide)) ?_)
  refine list_nil ?_
  refine hK2 _ ?_; clear hK2 K2
  refine codeT.imp (σ' := [(0, _), (2, _)]) ?_ (imp_covers ⟨rfl, rfl, trivial⟩)
  refine code_ret ?_
  refine ends_ret (cs := []) rfl rfl rfl rfl trivial ?_
  congr 3
  exact decide_eq_decide.mpr ⟨fun k j hj => Decidable.not_not.1 (fun e => k ⟨j, hj, e⟩), fun k ⟨j, hj, e⟩ => e (k j hj)⟩
set_option maxRecDepth 4000 in
theorem impl_IsRow (l : List Int) (hl : l.length ≤ 4611686018427387904) : PCalls Try.prog 88 [.sl l.length (l.map (.int .i64))] (· = [.val (.bool (decide (RowP l)))]) := by
  refine pcalls_of_code (n := 10) az Try.func88 (by kernel_rfl) rfl rfl (Nat.le_of_ble_eq_true rfl) (by intro t u h; simp [Try.f88] at h) ?_
  refine code_seq (fun K1 hK1 => ?_)
  refine code_region ?_
  refine list_cons rfl (op_q (q_assign rfl (by decide)) ?_)
  refine list_nil ?_
  refine hK1 _ ?_; clear hK1 K1
  refine code_seq (fun K2 hK2 => ?_)
  refine code_region ?_
  refine list_cons rfl (op_q (q_move rfl (by decide)) ?_)
  refine list_cons rfl (op_q (q_len_sl Try.underlying27 rfl rfl (by decide)) ?_)
  refine list_cons rfl (op_q (q_le rfl rfl (by decide)) ?_)
  refine list_cons rfl (op_q (q_move rfl (by decide)) ?_)
  refine list_guard_d rfl rfl rfl rfl (by decide) rfl (by decide) (fun h1 => ?_) (fun h1 => ?_)
  · simp only [Bool.false_eq_true, if_true, if_false, Decidable.not_not] at h1
    refine id (op_q (q_move rfl (by decide)) ?_)
    refine list_guard_y rfl rfl rfl rfl (by decide) rfl ?_
    refine id (op_call _ (impl_areCells _ (by first | omega | (simp; omega))) rfl rfl (by decide) (by decide) (by decide) rfl ?_)
    rintro _ rfl
    refine list_cons rfl (op_q (q_pick rfl rfl (by decide)) ?_)
    refine list_cons rfl (op_q (q_assign rfl (by decide)) ?_)
    refine list_nil ?_
    refine hK2 _ ?_; clear hK2 K2
    refine codeT.imp (σ' := [(0, _), (2, _)]) ?_ (imp_covers ⟨rfl, rfl, trivial⟩)
    refine code_ret ?_
    refine ends_ret (cs := []) rfl rfl rfl rfl trivial ?_
    first
      | (rw [decide_eq_false (fun e : RowP l => by have := e.1; omega)]; done)
      | (congr 3; exact decide_eq_decide.mpr ⟨fun e => RowP.of (by omega) e, fun e j hj => e.at hj⟩)
  simp only [Bool.false_eq_true, if_true, if_false, Decidable.not_not] at h1
  refine list_guard_n rfl rfl rfl rfl (by decide) rfl ?_
  refine list_cons rfl (op_q (q_pick rfl rfl (by decide)) ?_)
  refine list_cons rfl (op_q (q_assign rfl (by decide)) ?_)
  refine list_nil ?_
  refine hK2 _ ?_; clear hK2 K2
  refine code_ret ?_
  refine ends_ret (cs := []) rfl rfl rfl rfl trivial ?_
  first
    | (rw [decide_eq_false (fun e : RowP l => by have := e.1; omega)]; done)
    | (congr 3; exact decide_eq_decide.mpr ⟨fun e => RowP.of (by omega) e, fun e j hj => e.at hj⟩)
def bitN (n k : Nat) : Bool := Nat.beq (shN n k % 2) 1
theorem bit_iff (c b : Nat) : ((shN c b &&& 1 : Nat) : Int) = 1 ↔ bitN c b = true := by
  rw [Nat.and_one_is_mod]
  unfold bitN
  constructor
  · intro h; have : shN c b % 2 = 1 := by omega
    rw [this]; rfl
  · intro h; have := Nat.eq_of_beq_eq_true h; omega
set_option maxRecDepth 4000 in
theorem impl_hasBar (c b : Int) (hc : 0 ≤ c ∧ c ≤ 127) (hb : 0 ≤ b ∧ b ≤ 62) : PCalls Try.prog 87 [.int .i64 c, .int .i64 b] (· = [.val (.bool (decide (bitN c.toNat b.toNat = true)))]) := by
  refine pcalls_of_code (n := 10) az Try.func87 (by kernel_rfl) rfl rfl (Nat.le_of_ble_eq_true rfl) (by intro t u h; simp [Try.f87] at h) ?_
  have hs := shN_le c.toNat b.toNat
  refine code_seq (fun K1 hK1 => ?_)
  refine code_region ?_
  refine list_cons rfl (op_q (q_assign rfl (by decide)) ?_)
  refine list_nil ?_
  refine hK1 _ ?_; clear hK1 K1
  refine code_seq (fun K2 hK2 => ?_)
  refine code_region ?_
  refine list_cons rfl (op_q (q_move rfl (by decide)) ?_)
  refine list_cons rfl (op_q (q_move rfl (by decide)) ?_)
  refine list_cons rfl (op_q (by first | exact q_shrN rfl rfl (by decide) (by omega) (by omega) (by omega) | exact q_shrI rfl rfl (by decide) (by omega) (by omega) (by omega) | exact q_shr rfl rfl (by omega) (by decide)) ?_)
  refine list_cons rfl (op_q (by first | exact q_andI rfl rfl (by decide) (by omega) (by omega) (by omega) (by omega) | exact q_ib rfl rfl rfl (by decide)) ?_)
  refine list_cons rfl (op_q (q_eq rfl rfl (by decide)) ?_)
  refine list_cons rfl (op_q (q_assign rfl (by decide)) ?_)
  refine list_nil ?_
  refine hK2 _ ?_; clear hK2 K2
  refine code_ret ?_
  refine ends_ret (cs := []) rfl rfl rfl rfl trivial ?_
  congr 3
  exact decide_eq_decide.mpr (bit_iff _ _)
theorem res_agg8 {az : TypeId → Nat} {σ : St} {t u l e : Nat} {cs : List PV} (h : σ.at t = some (.box l e cs)) (haz : (az u == 0) = false) (hf : PV.flatL cs = true) (hl : cs.length = az u) : St.res az σ [.cell t u] = some [.val (.agg cs)] := by
  unfold St.res
  rw [h, show St.res az σ [] = some [] from rfl]
  simp only [haz, Bool.false_eq_true, if_false]
  rw [hf, hl]
  simp
theorem put_all8 {a b : List PV} {n : Nat} (ha : a.length = n) (hb : b.length = n) : putAt a 0 (PV.agg b).cells = b := by
  unfold putAt PV.cells
  simp only [List.take_zero, List.nil_append, Nat.zero_add]
  rw [List.drop_of_length_le (by omega), List.append_nil]
def plN (c : Int) : List Nat := (List.range 6).filter fun x => decide (bt c x)
def pl (c : Int) (q : Nat) : Nat := (plN c).getD q 6
def pcn (c : Int) (m : Nat) : Nat := ((List.range m).filter fun x => decide (bt c x)).length
theorem pcn_succ (c : Int) (m : Nat) : pcn c (m + 1) = pcn c m + if bt c m then 1 else 0 := by
  unfold pcn
  rw [List.range_succ, List.filter_append, List.length_append]
  congr 1
  by_cases h : bt c m
  · rw [if_pos h]; simp [h]
  · rw [if_neg h]; simp [h]
theorem pl_at {c : Int} (hc : 0 ≤ c ∧ c ≤ 63) {m : Nat} (hm : m < 6) (hb : bt c m) : pl c (pcn c m) = m ∧ pcn c m < (plN c).length := by
  have key : ∀ i : Fin 64, ∀ j : Fin 6, bt ((i.val : Nat) : Int) j.val → pl ((i.val : Nat) : Int) (pcn ((i.val : Nat) : Int) j.val) = j.val ∧ pcn ((i.val : Nat) : Int) j.val < (plN ((i.val : Nat) : Int)).length := by decide +kernel
  obtain ⟨n, rfl⟩ : ∃ n : Nat, c = n := ⟨c.toNat, by omega⟩
  exact key ⟨n, by omega⟩ ⟨m, hm⟩ hb
theorem pl_all (c : Int) : pcn c 6 = (plN c).length := rfl
theorem pl_ok {c : Int} (hc : 0 ≤ c ∧ c ≤ 63) {q : Nat} (h : q < (plN c).length) : pl c q < 6 ∧ bt c (pl c q) ∧ pl c q + 1 ≤ pl c (q + 1) ∧ ∀ x, pl c q + 1 ≤ x → x < pl c (q + 1) → ¬ bt c x := by
  have hl : ∀ i : Fin 64, (plN ((i.val : Nat) : Int)).length ≤ 6 := by decide +kernel
  have key : ∀ i : Fin 64, ∀ j : Fin 6, j.val < (plN ((i.val : Nat) : Int)).length → pl ((i.val : Nat) : Int) j.val < 6 ∧ bt ((i.val : Nat) : Int) (pl ((i.val : Nat) : Int) j.val) ∧ pl ((i.val : Nat) : Int) j.val + 1 ≤ pl ((i.val : Nat) : Int) (j.val + 1) ∧ (∀ x : Fin 6, pl ((i.val : Nat) : Int) j.val + 1 ≤ x.val → x.val < pl ((i.val : Nat) : Int) (j.val + 1) → ¬ bt ((i.val : Nat) : Int) x.val) ∧ pl ((i.val : Nat) : Int) (j.val + 1) ≤ 6 := by decide +kernel
  obtain ⟨n, rfl⟩ : ∃ n : Nat, c = n := ⟨c.toNat, by omega⟩
  have h6 := hl ⟨n, by omega⟩
  obtain ⟨a1, a2, a3, a4, a5⟩ := key ⟨n, by omega⟩ ⟨q, by simp only at h6; omega⟩ h
  exact ⟨a1, a2, a3, fun x hx hy => a4 ⟨x, by simp only at a5; omega⟩ hx hy⟩
theorem pl_zero {c : Int} (hc : 0 ≤ c ∧ c ≤ 63) : ∀ x, 0 ≤ x → x < pl c 0 → ¬ bt c x := by
  have key : ∀ i : Fin 64, (∀ x : Fin 6, x.val < pl ((i.val : Nat) : Int) 0 → ¬ bt ((i.val : Nat) : Int) x.val) ∧ pl ((i.val : Nat) : Int) 0 ≤ 6 := by decide +kernel
  obtain ⟨n, rfl⟩ : ∃ n : Nat, c = n := ⟨c.toNat, by omega⟩
  obtain ⟨a1, a2⟩ := key ⟨n, by omega⟩
  exact fun x _ hy => a1 ⟨x, by simp only at a2; omega⟩ hy
theorem pl_end (c : Int) : pl c (plN c).length = 6 := by
  unfold pl; rw [List.getD_eq_getElem?_getD, List.getElem?_eq_none (Nat.le_refl _)]; rfl
theorem bt_lt {c : Int} (h0 : 0 ≤ c) {x n : Nat} (hn : n ≤ 6) (hc : c ≤ ((p2 n : Nat) : Int) - 1) (hx : x < 6) (hb : bt c x) : x < n := by
  have key : ∀ i : Fin 64, ∀ x : Fin 6, ∀ n : Fin 7, i.val + 1 ≤ p2 n.val → bt ((i.val : Nat) : Int) x.val → x.val < n.val := by decide +kernel
  have h6 := p2_le6 (k := (n : Int)) (by omega)
  rw [Int.toNat_natCast] at h6
  obtain ⟨m, rfl⟩ : ∃ m : Nat, c = m := ⟨c.toNat, by omega⟩
  exact key ⟨m, by omega⟩ ⟨x, hx⟩ ⟨n, by omega⟩ (by simp only; omega) hb
theorem skipN {α : Type} {g : Nat → α} {a : Nat} : ∀ {b : Nat}, a ≤ b → (∀ x, a ≤ x → x < b → g (x + 1) = g x) → g b = g a
  | 0, h, _ => by rw [show a = 0 by omega]
  | b + 1, h, hs => by
    by_cases e : a = b + 1
    · rw [e]
    · rw [hs b (by omega) (by omega)]; exact skipN (by omega) (fun x h1 h2 => hs x h1 (by omega))
def wiS (s : List Int) (c b : Int) (m : Nat) : List Int := (List.range 6).map fun x => if x < m ∧ bt c x then (((s.getD x 0).toNat ||| b.toNat : Nat) : Int) else s.getD x 0
theorem wiS_len (s : List Int) (c b : Int) (m : Nat) : (wiS s c b m).length = 6 := by simp [wiS]
theorem wiS_at (s : List Int) (c b : Int) (m : Nat) {x : Nat} (h : x < 6) : (wiS s c b m).getD x 0 = if x < m ∧ bt c x then (((s.getD x 0).toNat ||| b.toNat : Nat) : Int) else s.getD x 0 := rng_at h
theorem wiS_skip (s : List Int) {c b : Int} {m : Nat} (h : ¬ bt c m) : wiS s c b (m + 1) = wiS s c b m := by
  unfold wiS
  apply List.map_congr_left
  intro x hx
  by_cases e : x = m
  · subst e; rw [if_neg (fun z => h z.2), if_neg (fun z => h z.2)]
  · have e2 : (x < m + 1 ∧ bt c x) ↔ (x < m ∧ bt c x) := ⟨fun z => ⟨by omega, z.2⟩, fun z => ⟨by omega, z.2⟩⟩
    by_cases hh : x < m ∧ bt c x
    · rw [if_pos hh, if_pos (e2.2 hh)]
    · rw [if_neg hh, if_neg (fun z => hh (e2.1 z))]
theorem lst_eq6 {a b : List Int} (ha : a.length = 6) (hb : b.length = 6) (h : ∀ x, x < 6 → a.getD x 0 = b.getD x 0) : a = b := by
  apply List.ext_getElem (by rw [ha, hb])
  intro j h1 h2
  have := h j (by omega)
  rwa [List.getD_eq_getElem?_getD, List.getElem?_eq_getElem h1, Option.getD_some, List.getD_eq_getElem?_getD, List.getElem?_eq_getElem h2, Option.getD_some] at this
theorem wiS_0 {s : List Int} (hs : s.length = 6) (c b : Int) : s = wiS s c b 0 := lst_eq6 hs (wiS_len _ _ _ _) fun x hx => by
  rw [wiS_at s c b 0 hx, if_neg (fun z => absurd z.1 (Nat.not_lt_zero x))]
theorem wiS_put {s : List Int} {c b v : Int} {m : Nat} (h : m < 6) (hb : bt c m) (hv : v = ((((wiS s c b m).getD m 0).toNat ||| b.toNat : Nat) : Int)) : putAt ((wiS s c b m).map (PV.int .i64)) (m * 1) [PV.int .i64 v] = (wiS s c b (m + 1)).map (PV.int .i64) := by
  rw [put_map1 (PV.int .i64) _ (by rw [wiS_len]; exact h)]
  congr 1
  have e := wiS_at s c b m h
  rw [if_neg (fun z => absurd z.1 (Nat.lt_irrefl m))] at e
  have := rng_set (f := fun x => if x < m ∧ bt c x then (((s.getD x 0).toNat ||| b.toNat : Nat) : Int) else s.getD x 0) (g := fun x => if x < m + 1 ∧ bt c x then (((s.getD x 0).toNat ||| b.toNat : Nat) : Int) else s.getD x 0) h (fun j hj hne => by
    have e2 : (j < m + 1 ∧ bt c j) ↔ (j < m ∧ bt c j) := ⟨fun z => ⟨by omega, z.2⟩, fun z => ⟨by omega, z.2⟩⟩
    by_cases hh : j < m ∧ bt c j
    · rw [if_pos hh, if_pos (e2.2 hh)]
    · rw [if_neg hh, if_neg (fun z => hh (e2.1 z))])
  simp only [Nat.lt_succ_self, hb, and_self, if_true] at this
  rw [hv, e]
  unfold wiS
  exact this
theorem wiS_le {s : List Int} {b : Int} (hs : ∀ j, 0 ≤ s.getD j 0 ∧ s.getD j 0 ≤ 127) (hb : 0 ≤ b ∧ b ≤ 127) (c : Int) (m : Nat) {x : Nat} (h : x < 6) : 0 ≤ (wiS s c b m).getD x 0 ∧ (wiS s c b m).getD x 0 ≤ 127 := by
  rw [wiS_at s c b m h]
  have := hs x
  split
  · have := or_127 (a := (s.getD x 0).toNat) (b := b.toNat) (by omega) (by omega); omega
  · omega
def stS (fr : List (Int × Int)) (j : Nat) : List Int := gK (orN fr) 6 j 0
theorem stS_len (fr : List (Int × Int)) (j : Nat) : (stS fr j).length = 6 := gK_len _ _ _ _
theorem stS_at (fr : List (Int × Int)) (j : Nat) {x : Nat} (h : x < 6) : (stS fr j).getD x 0 = ((orN fr x j : Nat) : Int) := by
  unfold stS; rw [gK_at h, if_neg (Nat.not_lt_zero _)]
theorem big_get {l : List Int} {x : Nat} (h : l.length ≤ x) : l.getD x 0 = 0 := by
  rw [List.getD_eq_getElem?_getD, List.getElem?_eq_none h]; rfl
theorem stS_le {k : Int} {fr : List (Int × Int)} (h : FrmP k fr) (hk : k ≤ 6) {j : Nat} (hj : j ≤ fr.length) (x : Nat) : 0 ≤ (stS fr j).getD x 0 ∧ (stS fr j).getD x 0 ≤ 127 := by
  by_cases hx : x < 6
  · rw [stS_at fr j hx]; have := orN_le h hk x j hj; omega
  · rw [big_get (by rw [stS_len]; omega)]; omega
theorem stS_next (fr : List (Int × Int)) (j : Nat) : wiS (stS fr j) (fr.getD j (0, 0)).1 (fr.getD j (0, 0)).2 6 = stS fr (j + 1) := by
  refine lst_eq6 (wiS_len _ _ _ _) (stS_len _ _) fun x hx => ?_
  rw [wiS_at _ _ _ _ hx, stS_at _ _ hx, stS_at _ _ hx, orN]
  by_cases hb : bt (fr.getD j (0, 0)).1 x
  · rw [if_pos ⟨hx, hb⟩, if_pos hb, Int.toNat_natCast]
  · rw [if_neg (fun z => hb z.2), if_neg hb]
theorem stS_0 (fr : List (Int × Int)) : List.replicate 6 (0 : Int) = stS fr 0 := gK_zero (fun _ => rfl) 6
theorem sen_stS (fr : List (Int × Int)) {k : Nat} (hk : k ≤ 6) : (stS fr fr.length).take k = sen fr k := by
  unfold stS sen senK gK
  rw [← List.map_take, List.take_range, Nat.min_eq_left hk]
def ghR (fr : List (Int × Int)) (x : Nat) : Nat → Nat
  | 0 => 0
  | i + 1 => if bt (fr.getD ((i + 1) % fr.length) (0, 0)).1 x then ghR fr x i ||| (fr.getD i (0, 0)).2.toNat else ghR fr x i
theorem ghR_le {k : Int} {fr : List (Int × Int)} (h : FrmP k fr) (hk : k ≤ 6) (x : Nat) : ∀ i, i ≤ fr.length → ghR fr x i ≤ 127
  | 0, _ => by simp [ghR]
  | i + 1, hi => by
    have ih := ghR_le h hk x i (by omega)
    have hb := h.bd hk (j := i) (by omega)
    unfold ghR; split
    · exact or_127 ih (by omega)
    · exact ih
theorem aN_or (a b s : Nat) : (a ||| b) ^^^ ((a ||| b) &&& s) = (a ^^^ (a &&& s)) ||| (b ^^^ (b &&& s)) := by
  apply Nat.eq_of_testBit_eq
  intro i
  simp only [Nat.testBit_or, Nat.testBit_xor, Nat.testBit_and]
  cases a.testBit i <;> cases b.testBit i <;> cases s.testBit i <;> rfl
theorem ghO_R (fr : List (Int × Int)) (x : Nat) : ∀ i, ghO fr x i = ghR fr x i ^^^ (ghR fr x i &&& orN fr x fr.length)
  | 0 => by simp [ghO, ghR]
  | i + 1 => by
    unfold ghO ghR
    split
    · rw [ghO_R fr x i, aN_or]
    · exact ghO_R fr x i
def ghS (fr : List (Int × Int)) (j : Nat) : List Int := gK (ghR fr) 6 j 0
theorem ghS_len (fr : List (Int × Int)) (j : Nat) : (ghS fr j).length = 6 := gK_len _ _ _ _
theorem ghS_at (fr : List (Int × Int)) (j : Nat) {x : Nat} (h : x < 6) : (ghS fr j).getD x 0 = ((ghR fr x j : Nat) : Int) := by
  unfold ghS; rw [gK_at h, if_neg (Nat.not_lt_zero _)]
theorem ghS_le {k : Int} {fr : List (Int × Int)} (h : FrmP k fr) (hk : k ≤ 6) {j : Nat} (hj : j ≤ fr.length) (x : Nat) : 0 ≤ (ghS fr j).getD x 0 ∧ (ghS fr j).getD x 0 ≤ 127 := by
  by_cases hx : x < 6
  · rw [ghS_at fr j hx]; have := ghR_le h hk x j hj; omega
  · rw [big_get (by rw [ghS_len]; omega)]; omega
theorem ghS_next (fr : List (Int × Int)) (j : Nat) : wiS (ghS fr j) (fr.getD ((j + 1) % fr.length) (0, 0)).1 (fr.getD j (0, 0)).2 6 = ghS fr (j + 1) := by
  refine lst_eq6 (wiS_len _ _ _ _) (ghS_len _ _) fun x hx => ?_
  rw [wiS_at _ _ _ _ hx, ghS_at _ _ hx, ghS_at _ _ hx, ghR]
  by_cases hb : bt (fr.getD ((j + 1) % fr.length) (0, 0)).1 x
  · rw [if_pos ⟨hx, hb⟩, if_pos hb, Int.toNat_natCast]
  · rw [if_neg (fun z => hb z.2), if_neg hb]
theorem ghS_0 (fr : List (Int × Int)) : List.replicate 6 (0 : Int) = ghS fr 0 := gK_zero (fun _ => rfl) 6
theorem fulN_all {l : List Int} {c : Int} (h0 : 0 ≤ c) (hl : l.length ≤ 6) (hc : c ≤ ((p2 l.length : Nat) : Int) - 1) : fulN l c 6 = fulN l c l.length :=
  skipN hl (fun x h1 h2 => by rw [fulN, if_neg (fun z => absurd (bt_lt h0 hl hc h2 z) (by omega))])
def goK (fr : List (Int × Int)) (k m : Nat) : List Int := (List.range k).map fun x => if x < m then ((ghO fr x fr.length : Nat) : Int) else 0
theorem goK_len (fr : List (Int × Int)) (k m : Nat) : (goK fr k m).length = k := by simp [goK]
theorem goK_put {fr : List (Int × Int)} {k m o : Nat} {v : Int} (h : m < k) (ho : o = m) (hv : v = ((ghO fr m fr.length : Nat) : Int)) : putAt ((goK fr k m).map (PV.int .i64)) (o * 1) [PV.int .i64 v] = (goK fr k (m + 1)).map (PV.int .i64) := by
  subst ho
  rw [put_map1 (PV.int .i64) _ (by rw [goK_len]; exact h)]
  congr 1
  have := rng_set (f := fun x => if x < o then ((ghO fr x fr.length : Nat) : Int) else 0) (g := fun x => if x < o + 1 then ((ghO fr x fr.length : Nat) : Int) else 0) h (fun j hj hne => by
    by_cases e : j < o
    · rw [if_pos e, if_pos (by omega)]
    · rw [if_neg e, if_neg (by omega)])
  simp only [Nat.lt_succ_self, if_true] at this
  rw [hv]; unfold goK; exact this
theorem goK_0 (fr : List (Int × Int)) (k : Nat) : List.replicate k (0 : Int) = goK fr k 0 := by
  apply List.ext_getElem (by simp [goK])
  intro j h1 h2
  simp [goK]
theorem goK_end (fr : List (Int × Int)) (k : Nat) : goK fr k k = ghL fr k := by
  unfold goK ghL gK
  apply List.map_congr_left
  intro x hx
  rw [if_pos (List.mem_range.1 hx), if_neg (Nat.not_lt_zero _)]
theorem GdP.take6 {k : Int} {fr : List (Int × Int)} (h : GdP k fr) : k.toNat ≤ 6 := by have := h.1; omega
set_option maxRecDepth 4000 in
theorem impl_isDisplay (k : Int) : PCalls Try.prog 46 [.int .i64 k] (· = [.val (.bool (decide (1 ≤ k ∧ k ≤ 6)))]) := by
  refine pcalls_of_code (n := 9) az Try.func46 (by kernel_rfl) rfl rfl (Nat.le_of_ble_eq_true rfl) (by intro t u h; simp [Try.f46] at h) ?_
  refine code_seq (fun K1 hK1 => ?_)
  refine code_region ?_
  refine list_cons rfl (op_q (q_assign rfl (by decide)) ?_)
  refine list_nil ?_
  refine hK1 _ ?_; clear hK1 K1
  refine code_seq (fun K2 hK2 => ?_)
  refine code_region ?_
  refine list_cons rfl (op_q (q_move rfl (by decide)) ?_)
  refine list_cons rfl (op_q (q_ge rfl rfl (by decide)) ?_)
  refine list_cons rfl (op_q (q_move rfl (by decide)) ?_)
  refine list_guard_d rfl rfl rfl rfl (by decide) rfl (by decide) (fun h1 => ?_) (fun h1 => ?_)
  · simp only [Bool.false_eq_true, if_true, if_false, Decidable.not_not] at h1
    refine id (op_q (q_move rfl (by decide)) ?_)
    refine list_guard_y rfl rfl rfl rfl (by decide) rfl ?_
    refine id (op_q (q_le rfl rfl (by decide)) ?_)
    refine list_cons rfl (op_q (q_pick rfl rfl (by decide)) ?_)
    refine list_cons rfl (op_q (q_assign rfl (by decide)) ?_)
    refine list_nil ?_
    refine hK2 _ ?_; clear hK2 K2
    refine code_ret ?_
    refine ends_ret (cs := []) rfl rfl rfl rfl trivial ?_
    first | (congr 3; exact decide_eq_decide.mpr ⟨fun e => by omega, fun e => by omega⟩) | (rw [decide_eq_false (by omega)]; done)
  simp only [Bool.false_eq_true, if_true, if_false, Decidable.not_not] at h1
  refine list_guard_n rfl rfl rfl rfl (by decide) rfl ?_
  refine list_cons rfl (op_q (q_pick rfl rfl (by decide)) ?_)
  refine list_cons rfl (op_q (q_assign rfl (by decide)) ?_)
  refine list_nil ?_
  refine hK2 _ ?_; clear hK2 K2
  refine code_ret ?_
  refine ends_ret (cs := []) rfl rfl rfl rfl trivial ?_
  first | (congr 3; exact decide_eq_decide.mpr ⟨fun e => by omega, fun e => by omega⟩) | (rw [decide_eq_false (by omega)]; done)
set_option maxRecDepth 4000 in
theorem impl_isSlot (k cc b : Int) (hk : 1 ≤ k ∧ k ≤ 6) : PCalls Try.prog 49 [.int .i64 k, .agg [.int .i64 cc, .int .i64 b]] (· = [.val (.bool (decide (SlP k cc b)))]) := by
  refine pcalls_of_code (n := 20) az Try.func49 (by kernel_rfl) rfl rfl (Nat.le_of_ble_eq_true rfl) (by intro t u h; simp [Try.f49] at h) ?_
  have hp := p2_le6 hk.2
  refine code_seq (fun K1 hK1 => ?_)
  refine code_region ?_
  refine list_cons rfl (op_box rfl (.inl ⟨rfl, rfl⟩) (by decide) (by decide) rfl ?_)
  refine list_cons rfl (op_q (q_assign rfl (by decide)) ?_)
  refine list_nil ?_
  refine hK1 _ ?_; clear hK1 K1
  refine code_seq (fun K2 hK2 => ?_)
  refine code_draw (by kernel_rfl) (by kernel_rfl) ?_
  refine draw_q rfl (q_fieldAddr fi_62_0 rfl rfl (by decide)) ?_
  refine draw_q rfl (q_load one_3 3 rfl rfl rfl (by first | rfl | exact get_map1 _ 0 _ (by first | omega | (simp; omega))) (by decide)) ?_
  refine draw_q rfl (q_ge rfl rfl (by decide)) ?_
  refine draw_q rfl (q_move rfl (by decide)) ?_
  refine draw_guard_d rfl rfl rfl rfl (by decide) rfl (by decide) (fun h1 => q_fieldAddr fi_62_0 rfl rfl (by decide)) (fun h1 => ?_) (fun h1 => ?_)
  · simp only [Bool.false_eq_true, if_true, if_false, Decidable.not_not] at h1
    refine draw_guard_y rfl rfl rfl rfl (by decide) rfl (q_load one_3 3 rfl rfl rfl (by first | rfl | exact get_map1 _ 0 _ (by first | omega | (simp; omega))) (by decide)) ?_
    refine draw_guard_y rfl rfl rfl rfl (by decide) rfl (q_move rfl (by decide)) ?_
    refine draw_guard_y rfl rfl rfl rfl (by decide) rfl (by first | exact q_shl1 rfl rfl (by decide) (by omega) (by omega) | exact q_shlI rfl rfl (by decide) (by omega) (by omega) (by omega) | exact q_shl rfl rfl (by omega) (by decide)) ?_
    refine draw_guard_y rfl rfl rfl rfl (by decide) rfl (q_lt rfl rfl (by decide)) ?_
    refine draw_q rfl (q_pick rfl rfl (by decide)) ?_
    refine draw_q rfl (q_move rfl (by decide)) ?_
    refine draw_guard_d rfl rfl rfl rfl (by decide) rfl (by decide) (fun h2 => q_fieldAddr fi_62_1 rfl rfl (by decide)) (fun h2 => ?_) (fun h2 => ?_)
    · simp only [Bool.false_eq_true, if_true, if_false, Decidable.not_not] at h2
      refine draw_guard_y rfl rfl rfl rfl (by decide) rfl (q_load one_3 3 rfl rfl rfl (by first | rfl | exact get_map1 _ 0 _ (by first | omega | (simp; omega))) (by decide)) ?_
      refine draw_callW _ (impl_IsCell _) rfl rfl rfl (by decide) (wanted_of rfl rfl rfl (by decide)) ?_
      refine draw_q rfl (q_pick rfl rfl (by decide)) ?_
      refine draw_q rfl (q_assign rfl (by decide)) ?_
      refine draw_nil ?_
      refine hK2 _ ?_; clear hK2 K2
      refine codeT.imp (σ' := [(0, _), (1, _), (3, _), (4, _)]) ?_ (imp_covers ⟨rfl, rfl, rfl, rfl, trivial⟩)
      refine code_ret ?_
      refine ends_ret (cs := []) rfl rfl rfl rfl trivial ?_
      first
        | (congr 3; exact decide_eq_decide.mpr ⟨fun e => by unfold SlP; omega, fun e => by unfold SlP at e; omega⟩)
        | (rw [decide_eq_false (fun e => by unfold SlP at e; omega)]; done)
    simp only [Bool.false_eq_true, if_true, if_false, Decidable.not_not] at h2
    refine draw_guard_n rfl rfl rfl rfl (by decide) rfl ?_
    refine draw_guard_n rfl rfl rfl rfl (by decide) rfl ?_
    refine draw_q rfl (q_pick rfl rfl (by decide)) ?_
    refine draw_q rfl (q_assign rfl (by decide)) ?_
    refine draw_nil ?_
    refine hK2 _ ?_; clear hK2 K2
    refine codeT.imp (σ' := [(0, _), (1, _), (3, _), (4, _)]) ?_ (imp_covers ⟨rfl, rfl, rfl, rfl, trivial⟩)
    refine code_ret ?_
    refine ends_ret (cs := []) rfl rfl rfl rfl trivial ?_
    first
      | (congr 3; exact decide_eq_decide.mpr ⟨fun e => by unfold SlP; omega, fun e => by unfold SlP at e; omega⟩)
      | (rw [decide_eq_false (fun e => by unfold SlP at e; omega)]; done)
  simp only [Bool.false_eq_true, if_true, if_false, Decidable.not_not] at h1
  refine draw_guard_n rfl rfl rfl rfl (by decide) rfl ?_
  refine draw_guard_n rfl rfl rfl rfl (by decide) rfl ?_
  refine draw_guard_n rfl rfl rfl rfl (by decide) rfl ?_
  refine draw_guard_n rfl rfl rfl rfl (by decide) rfl ?_
  refine draw_q rfl (q_pick rfl rfl (by decide)) ?_
  refine draw_q rfl (q_move rfl (by decide)) ?_
  refine draw_guard_n rfl rfl rfl rfl (by decide) rfl ?_
  refine draw_guard_n rfl rfl rfl rfl (by decide) rfl ?_
  refine draw_guard_n rfl rfl rfl rfl (by decide) rfl ?_
  refine draw_q rfl (q_pick rfl rfl (by decide)) ?_
  refine draw_q rfl (q_assign rfl (by decide)) ?_
  refine draw_nil ?_
  refine hK2 _ ?_; clear hK2 K2
  refine codeT.imp (σ' := [(0, _), (1, _), (3, _), (4, _)]) ?_ (imp_covers ⟨rfl, rfl, rfl, rfl, trivial⟩)
  refine code_ret ?_
  refine ends_ret (cs := []) rfl rfl rfl rfl trivial ?_
  first
    | (congr 3; exact decide_eq_decide.mpr ⟨fun e => by unfold SlP; omega, fun e => by unfold SlP at e; omega⟩)
    | (rw [decide_eq_false (fun e => by unfold SlP at e; omega)]; done)
set_option maxRecDepth 4000 in
theorem isFrame1_c (k cc b : Int) (hk : 1 ≤ k ∧ k ≤ 6) : PCalls Try.prog 48 [.agg [.int .i64 cc, .int .i64 b], .ptr [.int .i64 k]] (· = [.val (.bool (decide (¬ SlP k cc b)))]) := by
  refine pcalls_of_code (n := 8) az Try.func48 (by kernel_rfl) rfl rfl (Nat.le_of_ble_eq_true rfl) (by intro t u h; simp [Try.f48] at h) ?_
  refine codeT.imp ?_ (imp_rpar (s := 1) (i := 1) rfl)
  refine code_seq (fun K1 hK1 => ?_)
  refine code_region ?_
  refine list_cons rfl (op_box rfl (.inl ⟨rfl, rfl⟩) (by decide) (by decide) rfl ?_)
  refine list_cons rfl (op_q (q_assign rfl (by decide)) ?_)
  refine list_nil ?_
  refine hK1 _ ?_; clear hK1 K1
  refine code_seq (fun K2 hK2 => ?_)
  refine code_region ?_
  refine list_cons rfl (op_q (q_load_rd one_3 rfl (.inl ⟨_, (by first | rfl | exact congrArg (SV.rpar _) (drop_map1 _ 0 _ (by first | omega | (simp; omega)))), rfl⟩) (by decide)) ?_)
  refine list_cons rfl (op_q (q_load_agg agg_62 2 (.inr ⟨rfl, _, rfl⟩) rfl rfl (by first | decide | omega | exact Nat.le_refl _ | (simp; done) | (simp; omega)) (by first | rfl | exact flat_part (flat_map _ (fun _ => rfl) _) _ _) (by decide)) ?_)
  refine list_cons rfl (op_call _ (impl_isSlot _ _ _ (by assumption)) rfl rfl (by decide) (by decide) (by decide) rfl ?_)
  rintro _ rfl
  refine list_cons rfl (op_q (by first | exact q_notd rfl (by decide) | exact q_not rfl (by decide)) ?_)
  refine list_cons rfl (op_q (q_assign rfl (by decide)) ?_)
  refine list_nil ?_
  refine hK2 _ ?_; clear hK2 K2
  refine codeT.imp (σ' := [(0, _), (1, _), (2, _), (3, _)]) ?_ (imp_covers ⟨rfl, rfl, rfl, rfl, trivial⟩)
  refine code_ret ?_
  refine ends_ret (cs := []) rfl rfl rfl rfl trivial ?_
  rfl
set_option maxRecDepth 4000 in
theorem indexS_c (fr : List (Int × Int)) (f : FuncId) (z caps : List PV) (p : Int → Int → Prop) [∀ a b, Decidable (p a b)] (hf : fr.length ≤ 1048576) (hc : ∀ j, j < fr.length → PCalls Try.prog f (.agg [.int .i64 (fr.getD j (0, 0)).1, .int .i64 (fr.getD j (0, 0)).2] :: .ptr z :: caps) (· = [.val (.bool (decide (p (fr.getD j (0, 0)).1 (fr.getD j (0, 0)).2)))])) : PCalls Try.prog 83 [.sl fr.length (fl fr), .clo f (.ptr z :: caps)] (fun rs => ∃ i : Int, rs = [.val (.int .i64 i)] ∧ (0 ≤ i ↔ ∃ j, j < fr.length ∧ p (fr.getD j (0, 0)).1 (fr.getD j (0, 0)).2)) := by
  refine pcalls_of_code (n := 19) az Try.func83 (by kernel_rfl) rfl rfl (Nat.le_of_ble_eq_true rfl) (by intro t u h; simp [Try.f83] at h) ?_
  have hfl := fl_len fr
  refine code_seq (fun K1 hK1 => ?_)
  refine code_region ?_
  refine list_cons rfl (op_q (q_assign rfl (by decide)) ?_)
  refine list_nil ?_
  refine hK1 _ ?_; clear hK1 K1
  refine code_seq (fun K2 hK2 => ?_)
  refine code_seq (fun K3 hK3 => ?_)
  refine code_region ?_
  refine list_cons rfl (op_q (q_move rfl (by decide)) ?_)
  refine list_cons rfl (op_q (q_len_sl Try.underlying24 rfl rfl (by decide)) ?_)
  refine list_cons rfl (op_q (q_move rfl (by decide)) ?_)
  refine list_nil ?_
  refine hK3 _ ?_; clear hK3 K3
  refine code_block ?_
  refine code_loop (X := Int × Int) (fun x => [(0, .par 0 (.sl fr.length (fl fr))), (1, .par 1 (.clo f (.ptr z :: caps))), (4, .val (.int .i64 x.1)), (7, .val (.int .i64 fr.length)), (8, .val (.int .i64 x.2))]) (fun x => 0 ≤ x.2 ∧ x.2 ≤ fr.length ∧ ∀ j, j < x.2.toNat → ¬ p (fr.getD j (0, 0)).1 (fr.getD j (0, 0)).2) (fun x => (fr.length - x.2).toNat) (_, _) (imp_covers ⟨rfl, rfl, rfl, rfl, rfl, trivial⟩) ?_ ?_
  · (try dsimp only)
    exact ⟨by omega, by omega, fun j hj => by simp at hj⟩
  · intro x hI
    obtain ⟨t4, t8⟩ := x
    replace hI : 0 ≤ t8 ∧ t8 ≤ fr.length ∧ ∀ j, j < t8.toNat → ¬ p (fr.getD j (0, 0)).1 (fr.getD j (0, 0)).2 := hI
    show codeT _ _ _ [(0, .par 0 (.sl fr.length (fl fr))), (1, .par 1 (.clo f (.ptr z :: caps))), (4, .val (.int .i64 t4)), (7, .val (.int .i64 fr.length)), (8, .val (.int .i64 t8))] _
    obtain ⟨i1, i2, i3⟩ := hI
    refine code_seq (fun K4 hK4 => ?_)
    refine code_region ?_
    refine list_cons rfl (op_q (q_lt rfl rfl (by decide)) ?_)
    refine list_nil ?_
    refine hK4 _ ?_; clear hK4 K4
    refine code_seq (fun K5 hK5 => ?_)
    refine code_cond_d rfl (fun h1 => ?_) (fun h1 => ?_)
    · skip
      (try simp only [Decidable.not_not] at h1)
      refine code_skip ?_
      refine hK5 _ ?_; clear hK5 K5
      refine code_seq (fun K6 hK6 => ?_)
      refine code_block ?_
      refine code_seq (fun K7 hK7 => ?_)
      refine code_region ?_
      refine list_cons rfl (op_q (q_move rfl (by decide)) ?_)
      refine list_cons rfl (op_q (q_assign rfl (by decide)) ?_)
      refine list_nil ?_
      refine hK7 _ ?_; clear hK7 K7
      refine code_seq (fun K8 hK8 => ?_)
      refine code_region ?_
      refine list_cons rfl (op_q (q_move rfl (by decide)) ?_)
      refine list_cons rfl (op_q (q_move rfl (by decide)) ?_)
      refine list_cons rfl (op_q (q_move rfl (by decide)) ?_)
      refine list_cons rfl (op_q (q_indexAddr_rd sl_24 rfl (.inl ⟨_, rfl, rfl⟩) rfl (by omega) (by omega) (by decide)) ?_)
      refine list_cons rfl (op_q (q_load_rd_aggE agg_62 rfl (.inl ⟨_, rfl⟩) (by first | decide | omega | exact Nat.le_refl _ | (simp; done) | (simp; omega)) (fl_at fr t8.toNat (by omega)) rfl (by decide)) ?_)
      refine list_cons rfl (op_callV _ rfl rfl rfl rfl (pcV (hc t8.toNat (by omega))) (by decide) ?_)
      rintro _ rfl
      refine list_nil ?_
      refine hK8 _ ?_; clear hK8 K8
      refine codeT.imp (σ' := [(0, _), (1, _), (4, _), (5, _), (7, _), (8, _), (16, _)]) ?_ (imp_covers ⟨rfl, rfl, rfl, rfl, rfl, rfl, rfl, trivial⟩)
      refine code_cond_d rfl (fun h2 => ?_) (fun h2 => ?_)
      · skip
        (try simp only [Decidable.not_not] at h2)
        refine code_seq (fun K9 hK9 => ?_)
        refine code_region ?_
        refine list_cons rfl (op_q (q_move rfl (by decide)) ?_)
        refine list_cons rfl (op_q (q_assign rfl (by decide)) ?_)
        refine list_nil ?_
        refine hK9 _ ?_; clear hK9 K9
        refine code_ret ?_
        refine blk_r ?_
        refine then_r ?_; clear hK6 K6
        refine then_r ?_
        refine blk_r ?_
        refine then_r ?_; clear hK2 K2
        refine ends_ret (cs := []) rfl rfl rfl rfl trivial ?_
        first
          | exact ⟨_, rfl, fun _ => ⟨t8.toNat, by omega, h2⟩, fun _ => by omega⟩
          | exact ⟨_, rfl, fun h => by omega, fun ⟨j, hj, hp⟩ => absurd hp (i3 j (by omega))⟩
      (try simp only [Decidable.not_not] at h2)
      refine code_skip ?_
      refine blk_n ?_
      refine hK6 _ ?_; clear hK6 K6
      refine code_region ?_
      refine list_cons rfl (op_q (by first | exact q_addI rfl rfl (by decide) (by omega) (by omega) | exact q_ib rfl rfl rfl (by decide)) ?_)
      refine list_cons rfl (op_q (q_move rfl (by decide)) ?_)
      refine list_nil ?_
      refine then_n ⟨(_, _), imp_covers ⟨rfl, rfl, rfl, rfl, rfl, trivial⟩, ?_, ?_⟩
      · (try dsimp only)
        refine ⟨by omega, by omega, fun j hj => ?_⟩
        by_cases e : j = t8.toNat
        · subst e; exact h2
        · exact i3 j (by omega)
      · (try dsimp only); omega
    (try simp only [Decidable.not_not] at h1)
    refine code_exit ?_
    refine then_x ?_; clear hK5 K5
    refine then_x ?_
    refine blk_hit ?_
    refine hK2 _ ?_; clear hK2 K2
    refine code_seq (fun K10 hK10 => ?_)
    refine code_region ?_
    refine list_cons rfl (op_q (q_assign rfl (by decide)) ?_)
    refine list_nil ?_
    refine hK10 _ ?_; clear hK10 K10
    refine code_ret ?_
    refine ends_ret (cs := []) rfl rfl rfl rfl trivial ?_
    first
      | exact ⟨_, rfl, fun _ => ⟨t8.toNat, by omega, h1⟩, fun _ => by omega⟩
      | exact ⟨_, rfl, fun h => by omega, fun ⟨j, hj, hp⟩ => absurd hp (i3 j (by omega))⟩
set_option maxRecDepth 4000 in
theorem containsS_c (fr : List (Int × Int)) (f : FuncId) (z caps : List PV) (p : Int → Int → Prop) [∀ a b, Decidable (p a b)] (hf : fr.length ≤ 1048576) (hc : ∀ j, j < fr.length → PCalls Try.prog f (.agg [.int .i64 (fr.getD j (0, 0)).1, .int .i64 (fr.getD j (0, 0)).2] :: .ptr z :: caps) (· = [.val (.bool (decide (p (fr.getD j (0, 0)).1 (fr.getD j (0, 0)).2)))])) : PCalls Try.prog 47 [.sl fr.length (fl fr), .clo f (.ptr z :: caps)] (fun rs => rs = [.val (.bool (decide (∃ j, j < fr.length ∧ p (fr.getD j (0, 0)).1 (fr.getD j (0, 0)).2)))]) := by
  refine pcalls_of_code (n := 9) az Try.func47 (by kernel_rfl) rfl rfl (Nat.le_of_ble_eq_true rfl) (by intro t u h; simp [Try.f47] at h) ?_
  refine code_seq (fun K1 hK1 => ?_)
  refine code_region ?_
  refine list_cons rfl (op_q (q_assign rfl (by decide)) ?_)
  refine list_nil ?_
  refine hK1 _ ?_; clear hK1 K1
  refine code_seq (fun K2 hK2 => ?_)
  refine code_region ?_
  refine list_cons rfl (op_q (q_move rfl (by decide)) ?_)
  refine list_cons rfl (op_q (q_move rfl (by decide)) ?_)
  refine list_cons rfl (op_call _ (indexS_c fr f z caps p hf hc) rfl rfl (by decide) (by decide) (by decide) rfl ?_)
  rintro _ ⟨ix, rfl, hix⟩
  refine list_cons rfl (op_q (q_ge rfl rfl (by decide)) ?_)
  refine list_cons rfl (op_q (q_assign rfl (by decide)) ?_)
  refine list_nil ?_
  refine hK2 _ ?_; clear hK2 K2
  refine codeT.imp (σ' := [(0, _), (1, _), (4, _)]) ?_ (imp_covers ⟨rfl, rfl, rfl, trivial⟩)
  refine code_ret ?_
  refine ends_ret (cs := []) rfl rfl rfl rfl trivial ?_
  congr 3
  exact decide_eq_decide.mpr hix
set_option maxRecDepth 8000 in
set_option maxHeartbeats 2000000 in
theorem impl_IsFrame (k : Int) (fr : List (Int × Int)) (hf : fr.length ≤ 1048576) : PCalls Try.prog 10 [.int .i64 k, .sl fr.length (fl fr)] (· = [.val (.bool (decide (GdP k fr))), .val (.bool (decide (1 ≤ k ∧ k ≤ 6)))]) := by
  refine pcalls_of_code (n := 20) az Try.func10 (by kernel_rfl) rfl rfl (Nat.le_of_ble_eq_true rfl) (by intro t u h; simp [Try.f10] at h) ?_
  refine code_seq (fun K1 hK1 => ?_)
  refine code_region ?_
  refine list_cons rfl (op_box rfl (.inl ⟨rfl, rfl⟩) (by decide) (by decide) rfl ?_)
  refine list_cons rfl (op_q (q_assign rfl (by decide)) ?_)
  refine list_cons rfl (op_q (q_assign rfl (by decide)) ?_)
  refine list_nil ?_
  refine hK1 _ ?_; clear hK1 K1
  refine code_seq (fun K2 hK2 => ?_)
  refine code_seq (fun K3 hK3 => ?_)
  refine code_region ?_
  refine list_cons rfl (op_q (q_load_box1 one_3 rfl rfl (by decide)) ?_)
  refine list_cons rfl (op_call _ (impl_isDisplay _) rfl rfl (by decide) (by decide) (by decide) rfl ?_)
  rintro _ rfl
  refine list_cons rfl (op_q (by first | exact q_notd rfl (by decide) | exact q_not rfl (by decide)) ?_)
  refine list_nil ?_
  refine hK3 _ ?_; clear hK3 K3
  refine codeT.imp (σ' := [(0, _), (1, _), (2, _), (4, _), (5, _), (9, _)]) ?_ (imp_covers ⟨rfl, rfl, rfl, rfl, rfl, rfl, trivial⟩)
  refine code_cond_d rfl (fun h1 => ?_) (fun h1 => ?_)
  · skip
    (try simp only [Decidable.not_not] at h1); (try have hk := (h1 : 1 ≤ k ∧ k ≤ 6))
    refine code_seq (fun K4 hK4 => ?_)
    refine code_region ?_
    refine list_cons rfl (op_q (q_assign rfl (by decide)) ?_)
    refine list_cons rfl (op_q (q_assign rfl (by decide)) ?_)
    refine list_nil ?_
    refine hK4 _ ?_; clear hK4 K4
    refine code_ret ?_
    refine then_r ?_; clear hK2 K2
    refine ends_ret (cs := []) rfl rfl rfl rfl trivial ?_
    first
      | (have e : ¬ (1 ≤ k ∧ k ≤ 6) := (by assumption)
         rw [decide_eq_false (fun z : GdP k fr => e z.1), decide_eq_false e]; done)
      | (rw [decide_eq_true hk]
         first
         | (congr 3; exact decide_eq_decide.mpr ⟨fun e => ⟨hk, by omega, fun j hj => Decidable.not_not.1 (fun z => (by assumption : ¬ ∃ j, j < fr.length ∧ ¬ SlP k (fr.getD j (0, 0)).1 (fr.getD j (0, 0)).2) ⟨j, hj, z⟩)⟩, fun e => by have := e.2.1; omega⟩)
         | (rw [decide_eq_false (fun z : GdP k fr => by obtain ⟨j, hj, hp⟩ := (by assumption : ∃ j, j < fr.length ∧ ¬ SlP k (fr.getD j (0, 0)).1 (fr.getD j (0, 0)).2); exact hp (z.2.2 j hj))]; done))
  (try simp only [Decidable.not_not] at h1); (try have hk := (h1 : 1 ≤ k ∧ k ≤ 6))
  refine code_skip ?_
  refine hK2 _ ?_; clear hK2 K2
  refine code_seq (fun K5 hK5 => ?_)
  refine code_region ?_
  refine list_cons rfl (op_q (q_move rfl (by decide)) ?_)
  refine list_cons rfl (op_makeFunc (xs := [.tmp 2]) rfl rfl rfl (by decide) (by decide) rfl ?_)
  refine list_cons rfl (op_call _ (containsS_c fr 48 [.int .i64 k] [] (fun a b => ¬ SlP k a b) hf (fun j _ => isFrame1_c k _ _ hk)) rfl rfl (by decide) (by decide) (by decide) rfl ?_)
  rintro _ rfl
  refine list_cons rfl (op_q (q_assign rfl (by decide)) ?_)
  refine list_nil ?_
  refine hK5 _ ?_; clear hK5 K5
  refine codeT.imp (σ' := [(0, _), (1, _), (2, _), (4, _), (5, _), (6, _)]) ?_ (imp_covers ⟨rfl, rfl, rfl, rfl, rfl, rfl, trivial⟩)
  refine code_seq (fun K6 hK6 => ?_)
  refine code_region ?_
  refine list_cons rfl (op_q (q_move rfl (by decide)) ?_)
  refine list_cons rfl (op_q (by first | exact q_notd rfl (by decide) | exact q_not rfl (by decide)) ?_)
  refine list_cons rfl (op_q (q_move rfl (by decide)) ?_)
  refine list_guard_d rfl rfl rfl rfl (by decide) rfl (by decide) (fun h2 => ?_) (fun h2 => ?_)
  · simp only [Bool.false_eq_true, if_true, if_false, Decidable.not_not] at h2
    (try simp only [Decidable.not_not] at h2); (try have hk := (h2 : 1 ≤ k ∧ k ≤ 6))
    refine id (op_q (q_move rfl (by decide)) ?_)
    refine list_guard_y rfl rfl rfl rfl (by decide) rfl ?_
    refine id (op_q (q_len_sl Try.underlying24 rfl rfl (by decide)) ?_)
    refine list_guard_y rfl rfl rfl rfl (by decide) rfl ?_
    refine id (op_q (q_le rfl rfl (by decide)) ?_)
    refine list_cons rfl (op_q (q_pick rfl rfl (by decide)) ?_)
    refine list_cons rfl (op_q (q_assign rfl (by decide)) ?_)
    refine list_cons rfl (op_q (q_assign rfl (by decide)) ?_)
    refine list_nil ?_
    refine hK6 _ ?_; clear hK6 K6
    refine codeT.imp (σ' := [(0, _), (1, _), (2, _), (4, _), (5, _), (6, _)]) ?_ (imp_covers ⟨rfl, rfl, rfl, rfl, rfl, rfl, trivial⟩)
    refine code_ret ?_
    refine ends_ret (cs := []) rfl rfl rfl rfl trivial ?_
    first
      | (have e : ¬ (1 ≤ k ∧ k ≤ 6) := (by assumption)
         rw [decide_eq_false (fun z : GdP k fr => e z.1), decide_eq_false e]; done)
      | (rw [decide_eq_true hk]
         first
         | (congr 3; exact decide_eq_decide.mpr ⟨fun e => ⟨hk, by omega, fun j hj => Decidable.not_not.1 (fun z => (by assumption : ¬ ∃ j, j < fr.length ∧ ¬ SlP k (fr.getD j (0, 0)).1 (fr.getD j (0, 0)).2) ⟨j, hj, z⟩)⟩, fun e => by have := e.2.1; omega⟩)
         | (rw [decide_eq_false (fun z : GdP k fr => by obtain ⟨j, hj, hp⟩ := (by assumption : ∃ j, j < fr.length ∧ ¬ SlP k (fr.getD j (0, 0)).1 (fr.getD j (0, 0)).2); exact hp (z.2.2 j hj))]; done))
  simp only [Bool.false_eq_true, if_true, if_false, Decidable.not_not] at h2
  (try simp only [Decidable.not_not] at h2); (try have hk := (h2 : 1 ≤ k ∧ k ≤ 6))
  refine list_guard_n rfl rfl rfl rfl (by decide) rfl ?_
  refine list_guard_n rfl rfl rfl rfl (by decide) rfl ?_
  refine list_cons rfl (op_q (q_pick rfl rfl (by decide)) ?_)
  refine list_cons rfl (op_q (q_assign rfl (by decide)) ?_)
  refine list_cons rfl (op_q (q_assign rfl (by decide)) ?_)
  refine list_nil ?_
  refine hK6 _ ?_; clear hK6 K6
  refine code_ret ?_
  refine ends_ret (cs := []) rfl rfl rfl rfl trivial ?_
  first
    | (have e : ¬ (1 ≤ k ∧ k ≤ 6) := (by assumption)
       rw [decide_eq_false (fun z : GdP k fr => e z.1), decide_eq_false e]; done)
    | (rw [decide_eq_true hk]
       first
       | (congr 3; exact decide_eq_decide.mpr ⟨fun e => ⟨hk, by omega, fun j hj => Decidable.not_not.1 (fun z => (by assumption : ¬ ∃ j, j < fr.length ∧ ¬ SlP k (fr.getD j (0, 0)).1 (fr.getD j (0, 0)).2) ⟨j, hj, z⟩)⟩, fun e => by have := e.2.1; omega⟩)
       | (rw [decide_eq_false (fun z : GdP k fr => by obtain ⟨j, hj, hp⟩ := (by assumption : ∃ j, j < fr.length ∧ ¬ SlP k (fr.getD j (0, 0)).1 (fr.getD j (0, 0)).2); exact hp (z.2.2 j hj))]; done))
set_option maxRecDepth 4000 in
theorem impl_isDrivenRow (l : List Int) (hl : l.length ≤ 1048576) : PCalls Try.prog 58 [.sl l.length (l.map (.int .i64))] (· = [.val (.bool (decide (PlnP l)))]) := by
  refine pcalls_of_code (n := 10) az Try.func58 (by kernel_rfl) rfl rfl (Nat.le_of_ble_eq_true rfl) (by intro t u h; simp [Try.f58] at h) ?_
  refine code_seq (fun K1 hK1 => ?_)
  refine code_region ?_
  refine list_cons rfl (op_q (q_assign rfl (by decide)) ?_)
  refine list_nil ?_
  refine hK1 _ ?_; clear hK1 K1
  refine code_seq (fun K2 hK2 => ?_)
  refine code_region ?_
  refine list_cons rfl (op_q (q_move rfl (by decide)) ?_)
  refine list_cons rfl (op_call _ (impl_IsRow _ (by first | omega | (simp; omega))) rfl rfl (by decide) (by decide) (by decide) rfl ?_)
  rintro _ rfl
  refine list_cons rfl (op_q (q_move rfl (by decide)) ?_)
  refine list_guard_d rfl rfl rfl rfl (by decide) rfl (by decide) (fun h1 => ?_) (fun h1 => ?_)
  · simp only [Bool.false_eq_true, if_true, if_false, Decidable.not_not] at h1
    refine id (op_q (q_move rfl (by decide)) ?_)
    refine list_guard_y rfl rfl rfl rfl (by decide) rfl ?_
    refine id (op_q (q_len_sl Try.underlying27 rfl rfl (by decide)) ?_)
    refine list_guard_y rfl rfl rfl rfl (by decide) rfl ?_
    refine id (op_call _ (impl_isDisplay _) rfl rfl (by decide) (by decide) (by decide) rfl ?_)
    rintro _ rfl
    refine list_cons rfl (op_q (q_pick rfl rfl (by decide)) ?_)
    refine list_cons rfl (op_q (q_assign rfl (by decide)) ?_)
    refine list_nil ?_
    refine hK2 _ ?_; clear hK2 K2
    refine codeT.imp (σ' := [(0, _), (2, _)]) ?_ (imp_covers ⟨rfl, rfl, trivial⟩)
    refine code_ret ?_
    refine ends_ret (cs := []) rfl rfl rfl rfl trivial ?_
    first
      | (rw [decide_eq_false (fun e : PlnP l => absurd e.1 (by assumption))]; done)
      | (congr 3; exact decide_eq_decide.mpr ⟨fun e => ⟨by assumption, by omega⟩, fun e => by have := e.1.1; have := e.2; omega⟩)
  simp only [Bool.false_eq_true, if_true, if_false, Decidable.not_not] at h1
  refine list_guard_n rfl rfl rfl rfl (by decide) rfl ?_
  refine list_guard_n rfl rfl rfl rfl (by decide) rfl ?_
  refine list_cons rfl (op_q (q_pick rfl rfl (by decide)) ?_)
  refine list_cons rfl (op_q (q_assign rfl (by decide)) ?_)
  refine list_nil ?_
  refine hK2 _ ?_; clear hK2 K2
  refine code_ret ?_
  refine ends_ret (cs := []) rfl rfl rfl rfl trivial ?_
  first
    | (rw [decide_eq_false (fun e : PlnP l => absurd e.1 (by assumption))]; done)
    | (congr 3; exact decide_eq_decide.mpr ⟨fun e => ⟨by assumption, by omega⟩, fun e => by have := e.1.1; have := e.2; omega⟩)
set_option maxRecDepth 8000 in
set_option maxHeartbeats 2000000 in
theorem placesIn_it (c : Int) (hc : 0 ≤ c ∧ c ≤ 63) : ITer Try.prog 86 [.ptr [.int .i64 c]] ((plN c).length) (fun i => [.int .i64 ((pl c i : Nat) : Int)]) := by
  refine iter_of_code (n := 19) Try.func86 (by kernel_rfl) rfl rfl (Nat.le_of_ble_eq_true rfl) rfl (fun Y hYN hYe => ?_)
  refine codeY_imp (σ' := [(0, _), (1, _)]) rfl (imp_covers ⟨rfl, rfl, trivial⟩) ?_
  refine codeY_seq (fun K1 hK1 => ?_)
  refine codeY_of rfl rfl ?_
  refine code_region ?_
  refine list_cons rfl (op_q (q_move rfl (by decide)) ?_)
  refine list_nil ?_
  refine thy_n ?_
  refine hK1 _ _ ?_; clear hK1 K1
  refine codeY_imp (σ' := [(0, _), (1, _), (4, _)]) rfl (imp_covers ⟨rfl, rfl, rfl, trivial⟩) ?_
  refine codeY_block ?_
  refine codeY_loop (X := Int) (fun x => [(0, .yld Y.l), (1, .rpar 1 [.int .i64 c]), (4, .val (.int .i64 x))]) (fun x => (false, pcn c x.toNat)) (fun x => 0 ≤ x ∧ x ≤ 6) (fun x => (6 - x).toNat) (_) rfl (imp_covers ⟨rfl, rfl, rfl, trivial⟩) rfl ?_ ?_
  · (try dsimp only)
    exact ⟨by omega, by omega⟩
  · intro x hI
    revert hI; revert x; intro t4 hI
    replace hI : 0 ≤ t4 ∧ t4 ≤ 6 := hI
    show codeY _ _ _ [(0, .yld Y.l), (1, .rpar 1 [.int .i64 c]), (4, .val (.int .i64 t4))] (false, pcn c t4.toNat) _
    obtain ⟨i1, i2⟩ := hI
    refine codeY_seq (fun K2 hK2 => ?_)
    refine codeY_of rfl rfl ?_
    refine code_region ?_
    refine list_cons rfl (op_q (q_lt rfl rfl (by decide)) ?_)
    refine list_nil ?_
    refine thy_n ?_
    refine hK2 _ _ ?_; clear hK2 K2
    refine codeY_imp (σ' := [(0, _), (1, _), (4, _), (5, _)]) rfl (imp_covers ⟨rfl, rfl, rfl, rfl, trivial⟩) ?_
    refine codeY_seq (fun K3 hK3 => ?_)
    refine codeY_of rfl rfl ?_
    refine code_cond_d rfl (fun h1 => ?_) (fun h1 => ?_)
    · skip
      (try simp only [Decidable.not_not] at h1); (try have hb : bt c t4.toNat := h1; have hpa := pl_at hc (m := t4.toNat) (by omega) hb); (try have hnb : ¬ bt c t4.toNat := h1)
      refine code_skip ?_
      refine thy_n ?_
      refine hK3 _ _ ?_; clear hK3 K3
      refine codeY_imp (σ' := [(0, _), (1, _), (4, _)]) rfl (imp_covers ⟨rfl, rfl, rfl, trivial⟩) ?_
      refine codeY_seq (fun K4 hK4 => ?_)
      refine codeY_block ?_
      refine codeY_seq (fun K5 hK5 => ?_)
      refine codeY_of rfl rfl ?_
      refine code_region ?_
      refine list_cons rfl (op_q (q_move rfl (by decide)) ?_)
      refine list_cons rfl (op_q (q_assign rfl (by decide)) ?_)
      refine list_nil ?_
      refine thy_n ?_
      refine hK5 _ _ ?_; clear hK5 K5
      refine codeY_imp (σ' := [(0, _), (1, _), (3, _), (4, _)]) rfl (imp_covers ⟨rfl, rfl, rfl, rfl, trivial⟩) ?_
      refine codeY_seq (fun K6 hK6 => ?_)
      refine codeY_region ?_
      refine listY_op rfl rfl (op_q (q_load_rd one_3 rfl (.inl ⟨_, (by first | rfl | exact congrArg (SV.rpar _) (drop_map1 _ 0 _ (by first | omega | (simp; omega)))), rfl⟩) (by decide)) ?_)
      refine listY_op rfl rfl (op_q (q_move rfl (by decide)) ?_)
      refine listY_op rfl rfl (op_q (by first | exact q_shrN rfl rfl (by decide) (by omega) (by omega) (by omega) | exact q_shrI rfl rfl (by decide) (by omega) (by omega) (by omega) | exact q_shr rfl rfl (by omega) (by decide)) ?_)
      refine listY_op rfl rfl (op_q (by first | exact q_andI rfl rfl (by decide) (by omega) (by omega) (by omega) (by omega) | exact q_ib rfl rfl rfl (by decide)) ?_)
      refine listY_op rfl rfl (op_q (q_eq rfl rfl (by decide)) ?_)
      refine listY_op rfl rfl (op_q (q_move rfl (by decide)) ?_)
      refine listY_split (dj := 12) rfl (fun h2 => ?_) (fun h2 => ?_)
      · skip
        (try simp only [Decidable.not_not] at h2); (try have hb : bt c t4.toNat := h2; have hpa := pl_at hc (m := t4.toNat) (by omega) hb); (try have hnb : ¬ bt c t4.toNat := h2)
        refine listY_guard_y rfl rfl rfl (by decide) rfl (op_q (q_move rfl (by decide)) ?_)
        refine listY_guard_y rfl rfl rfl (by decide) rfl (op_q (q_move rfl (by decide)) ?_)
        refine listY_yieldG (k := pcn c t4.toNat) rfl rfl (by rw [hYe]; show some [PV.int .i64 t4] = some [PV.int .i64 ((pl c (pcn c t4.toNat) : Nat) : Int)]; rw [hpa.1, Int.toNat_of_nonneg i1]) (by rw [hYe]; rfl) (by rw [hYN]; exact hpa.2) rfl (by decide) (.inr ⟨_, _, _, rfl, rfl, rfl, by decide⟩) ?_ ?_
        · skip
          refine listY_guard_y rfl rfl rfl (by decide) rfl (op_q (by first | exact q_notd rfl (by decide) | exact q_not rfl (by decide)) ?_)
          refine listY_op rfl rfl (op_q (q_pick rfl rfl (by decide)) ?_)
          refine listY_nil ?_
          refine thy_n ?_
          refine hK6 _ _ ?_; clear hK6 K6
          refine codeY_imp (σ' := [(0, _), (1, _), (3, _), (4, _), (17, _)]) rfl (imp_covers ⟨rfl, rfl, rfl, rfl, rfl, trivial⟩) ?_
          refine codeY_of rfl rfl ?_
          refine code_cond_f rfl ?_
          refine code_skip ?_
          refine bly_n ?_
          refine thy_n ?_
          refine hK4 _ _ ?_; clear hK4 K4
          refine codeY_imp (σ' := [(0, _), (1, _), (3, _), (4, _)]) rfl (imp_covers ⟨rfl, rfl, rfl, rfl, trivial⟩) ?_
          refine codeY_of rfl rfl ?_
          refine code_region ?_
          refine list_cons rfl (op_q (by first | exact q_addI rfl rfl (by decide) (by omega) (by omega) | exact q_ib rfl rfl rfl (by decide)) ?_)
          refine list_cons rfl (op_q (q_move rfl (by decide)) ?_)
          refine list_nil ?_
          refine thy_n ⟨(_), rfl, imp_covers ⟨rfl, rfl, rfl, trivial⟩, ?_, ?_, ?_⟩
          · first | (rw [show (t4 + 1).toNat = t4.toNat + 1 by omega, pcn_succ, if_pos hb] <;> rfl) | (rw [show (t4 + 1).toNat = t4.toNat + 1 by omega, pcn_succ, if_neg hnb] <;> rfl)
          · (try dsimp only)
            exact ⟨by omega, by omega⟩
          · (try dsimp only); omega
        · skip
          refine listY_guard_y rfl rfl rfl (by decide) rfl (op_q (by first | exact q_notd rfl (by decide) | exact q_not rfl (by decide)) ?_)
          refine listY_op rfl rfl (op_q (q_pick rfl rfl (by decide)) ?_)
          refine listY_nil ?_
          refine thy_n ?_
          refine hK6 _ _ ?_; clear hK6 K6
          refine codeY_imp (σ' := [(0, _), (1, _), (3, _), (4, _), (17, _)]) rfl (imp_covers ⟨rfl, rfl, rfl, rfl, rfl, trivial⟩) ?_
          refine codeY_of rfl rfl ?_
          refine code_cond_t rfl ?_
          refine code_ret ?_
          refine bly_r ?_
          refine thy_r ?_
          refine thy_r ?_
          refine bly_r ?_
          exact ⟨.inr rfl, .inl ⟨rfl, by (try dsimp only); omega⟩⟩
      · skip
        (try simp only [Decidable.not_not] at h2); (try have hb : bt c t4.toNat := h2; have hpa := pl_at hc (m := t4.toNat) (by omega) hb); (try have hnb : ¬ bt c t4.toNat := h2)
        refine listY_guard_n rfl rfl rfl rfl (by decide) (by decide) ?_
        refine listY_guard_n rfl rfl rfl rfl (by decide) (by decide) ?_
        refine listY_guard_n rfl rfl rfl rfl (by decide) (by decide) ?_
        refine listY_guard_n rfl rfl rfl rfl (by decide) (by decide) ?_
        refine listY_op rfl rfl (op_q (q_pick rfl rfl (by decide)) ?_)
        refine listY_nil ?_
        refine thy_n ?_
        refine hK6 _ _ ?_; clear hK6 K6
        refine codeY_imp (σ' := [(0, _), (1, _), (3, _), (4, _), (17, _)]) rfl (imp_covers ⟨rfl, rfl, rfl, rfl, rfl, trivial⟩) ?_
        refine codeY_of rfl rfl ?_
        refine code_cond_f rfl ?_
        refine code_skip ?_
        refine bly_n ?_
        refine thy_n ?_
        refine hK4 _ _ ?_; clear hK4 K4
        refine codeY_imp (σ' := [(0, _), (1, _), (3, _), (4, _)]) rfl (imp_covers ⟨rfl, rfl, rfl, rfl, trivial⟩) ?_
        refine codeY_of rfl rfl ?_
        refine code_region ?_
        refine list_cons rfl (op_q (by first | exact q_addI rfl rfl (by decide) (by omega) (by omega) | exact q_ib rfl rfl rfl (by decide)) ?_)
        refine list_cons rfl (op_q (q_move rfl (by decide)) ?_)
        refine list_nil ?_
        refine thy_n ⟨(_), rfl, imp_covers ⟨rfl, rfl, rfl, trivial⟩, ?_, ?_, ?_⟩
        · first | (rw [show (t4 + 1).toNat = t4.toNat + 1 by omega, pcn_succ, if_pos hb] <;> rfl) | (rw [show (t4 + 1).toNat = t4.toNat + 1 by omega, pcn_succ, if_neg hnb] <;> rfl)
        · (try dsimp only)
          exact ⟨by omega, by omega⟩
        · (try dsimp only); omega
    (try simp only [Decidable.not_not] at h1); (try have hb : bt c t4.toNat := h1; have hpa := pl_at hc (m := t4.toNat) (by omega) hb); (try have hnb : ¬ bt c t4.toNat := h1)
    refine code_exit ?_
    refine thy_x ?_; clear hK3 K3
    refine thy_x ?_
    refine bly_hit ?_
    exact ⟨.inl rfl, .inr (by rw [← pl_all c, show t4.toNat = 6 by omega])⟩
set_option maxRecDepth 4000 in
theorem placesIn_c (c : Int) : PCalls Try.prog 52 [.int .i64 c] (· = [.frz 0 (.clo 86 [.ptr [.int .i64 c]])]) := by
  refine pcalls_of_code (n := 4) az Try.func52 (by kernel_rfl) rfl rfl (Nat.le_of_ble_eq_true rfl) (by intro t u h; simp [Try.f52] at h) ?_
  refine code_seq (fun K1 hK1 => ?_)
  refine code_region ?_
  refine list_cons rfl (op_box rfl (.inl ⟨rfl, rfl⟩) (by decide) (by decide) rfl ?_)
  refine list_cons rfl (op_q (q_deadconst (by decide)) ?_)
  refine list_nil ?_
  refine hK1 _ ?_; clear hK1 K1
  refine code_seq (fun K2 hK2 => ?_)
  refine code_region ?_
  refine list_cons rfl (op_makeFunc (xs := [.tmp 1]) rfl rfl rfl (by decide) (by decide) rfl ?_)
  refine list_cons rfl (op_q (q_assign rfl (by decide)) ?_)
  refine list_nil ?_
  refine hK2 _ ?_; clear hK2 K2
  refine codeT.imp (σ' := [(0, _), (1, _), (2, _)]) ?_ (imp_covers ⟨rfl, rfl, rfl, trivial⟩)
  refine code_ret ?_
  refine ends_ret (cs := []) rfl rfl rfl rfl trivial ?_
  rfl
set_option maxRecDepth 8000 in
set_option maxHeartbeats 2000000 in
theorem with_c (s : List Int) (c b : Int) (hs : s.length = 6) (hv : ∀ j, 0 ≤ s.getD j 0 ∧ s.getD j 0 ≤ 127) (hc : 0 ≤ c ∧ c ≤ 63) (hb : 0 ≤ b ∧ b ≤ 127) : PCalls Try.prog 55 [.agg (s.map (.int .i64)), .agg [.int .i64 c, .int .i64 b]] (· = [.val (.agg ((wiS s c b 6).map (.int .i64)))]) := by
  refine pcalls_of_code (n := 18) az Try.func55 (by kernel_rfl) rfl rfl (Nat.le_of_ble_eq_true rfl) (by intro t u h; simp [Try.f55] at h; obtain ⟨_, rfl⟩ := h <;> first | exact resTy_agg agg_54 (by decide)) ?_
  have hfl := flat_map (PV.int .i64) (fun _ => rfl) s
  rw [show inits false 0 [.agg (s.map (.int .i64)), .agg [.int .i64 c, .int .i64 b]] = [(0, SV.val (.agg (s.map (.int .i64)))), (1, SV.val (.agg [.int .i64 c, .int .i64 b]))] from by simp [inits, PV.start, PV.flat, PV.flatL, hfl]]
  refine code_seq (fun K1 hK1 => ?_)
  refine code_region ?_
  refine list_cons rfl (op_box rfl (.inl ⟨rfl, (by first | exact hfl | rfl)⟩) (by decide) (by decide) rfl ?_)
  refine list_cons rfl (op_box rfl (.inl ⟨rfl, (by first | exact hfl | rfl)⟩) (by decide) (by decide) rfl ?_)
  refine list_cons rfl (op_alloc zt_54 (by decide) (by decide) rfl ?_)
  refine list_nil ?_
  refine hK1 _ ?_; clear hK1 K1
  refine code_seq (fun K2 hK2 => ?_)
  refine code_seq (fun K3 hK3 => ?_)
  refine code_region ?_
  refine list_cons rfl (op_q (q_fieldAddr fi_62_0 rfl rfl (by decide)) ?_)
  refine list_cons rfl (op_q (q_load one_3 3 rfl rfl rfl (by first | rfl | exact get_map1 _ 0 _ (by first | omega | (simp; omega))) (by decide)) ?_)
  refine list_cons rfl (op_call _ (placesIn_c _) rfl rfl (by decide) (by decide) (by decide) rfl ?_)
  rintro _ rfl
  refine listT.imp ?_ imp_unfrz
  refine list_nil ?_
  refine hK3 _ ?_; clear hK3 K3
  refine codeT.imp (σ' := [(0, _), (1, _), (2, .box 2 54 ((wiS s c b (pl c 0)).map (.int .i64))), (3, _), (4, _), (8, _)]) ?_ (imp_covers ⟨rfl, rfl, (congrArg (fun z => some (SV.box 2 54 (List.map (PV.int .i64) z))) ((wiS_0 hs c b).trans (skipN (g := wiS s c b) (Nat.zero_le _) (fun x h1 h2 => wiS_skip s (pl_zero hc x h1 h2))).symm)), rfl, rfl, rfl, trivial⟩)
  refine code_block ?_
  refine code_rangeFunc (placesIn_it (c) hc) ((fun (s0 s1 s3 s4 : SV) (i : Nat) => ([(0, s0), (1, s1), (2, .box 2 54 ((wiS s c b (pl c i)).map (.int .i64))), (3, s3), (4, s4)] : St)) _ _ _ _) (fun i => True) (trivial) rfl rfl rfl (by decide) rfl (fun _ _ => ⟨rfl, rfl⟩) (fun _ => rfl) rfl rfl (imp_covers ⟨rfl, rfl, rfl, rfl, rfl, trivial⟩) (fun i hi hIi => ?_) (fun hIi => ?_)
  · intro K4 hK4
    refine codeT.imp (σ' := [(9, .val (.int .i64 ((pl (c) i : Nat) : Int))), (0, _), (1, _), (2, _), (3, _), (4, _)]) ?_ (imp_covers ⟨rfl, rfl, rfl, rfl, rfl, rfl, trivial⟩)
    have hp := pl_ok hc hi
    have hw : 0 ≤ (wiS s c b (pl c i)).getD ((pl c i : Nat) : Int).toNat 0 ∧ (wiS s c b (pl c i)).getD ((pl c i : Nat) : Int).toNat 0 ≤ 127 := by rw [Int.toNat_natCast]; exact wiS_le hv hb c (pl c i) hp.1
    refine code_region ?_
    refine list_cons rfl (op_q (q_assign rfl (by decide)) ?_)
    refine list_nil ?_
    refine hK4 _ rfl ?_; clear hK4 K4
    refine codeT.imp (σ' := [(0, _), (1, _), (2, _), (3, _), (4, _), (5, _), (9, _)]) ?_ (imp_covers ⟨rfl, rfl, rfl, rfl, rfl, rfl, rfl, trivial⟩)
    refine code_block ?_
    refine any_start fun ob1_0 => ?_
    refine any_op (rd := [5]) ob1_0 rfl rfl rfl (anyT_quiet [(5, _)] ⟨rfl, trivial⟩ rfl (q_move rfl (by decide))) (fun ob1_1 => ?_)
    refine any_op (rd := [2, 10]) ob1_1 rfl rfl rfl (anyT_quiet [(2, _), (10, _)] ⟨rfl, rfl, trivial⟩ rfl (q_indexAddr_arr arr_54 rfl rfl rfl (by omega) (by omega) (by decide))) (fun ob1_2 => ?_)
    refine any_op (rd := [11, 2]) ob1_2 rfl rfl rfl (anyT_quiet [(11, _), (2, _)] ⟨rfl, rfl, trivial⟩ rfl (q_load one_3 2 rfl rfl rfl (by first | rfl | exact get_map1 (PV.int .i64) 0 (wiS s c b (pl c i)) (by rw [wiS_len]; omega)) (by decide))) (fun ob1_3 => ?_)
    refine any_op (rd := [3]) ob1_3 rfl rfl rfl (anyT_quiet [(3, _)] ⟨rfl, trivial⟩ rfl (q_fieldAddr fi_62_1 rfl rfl (by decide))) (fun ob1_4 => ?_)
    refine any_op (rd := [13, 3]) ob1_4 rfl rfl rfl (anyT_quiet [(13, _), (3, _)] ⟨rfl, rfl, trivial⟩ rfl (q_load one_3 3 rfl rfl rfl (by first | rfl | exact get_map1 (PV.int .i64) 0 (wiS s c b (pl c i)) (by rw [wiS_len]; omega)) (by decide))) (fun ob1_5 => ?_)
    refine any_end [[], [0], [0, 1], [], [3], [0, 1, 2, 3, 4], [0, 1, 2, 3, 4, 5], [0, 1, 2, 3, 4, 5, 6]] ob1_5 (by kernel_rfl) (Nat.le_of_ble_eq_true rfl) (by decide) (by decide) (by kernel_rfl) (by kernel_rfl) (by kernel_rfl) (by kernel_rfl) (by kernel_rfl) ?_
    clear ob1_0 ob1_1 ob1_2 ob1_3 ob1_4 ob1_5
    refine listT.imp (σ' := [(0, _), (1, _), (2, _), (3, _), (4, _), (5, _), (9, _), (10, _), (11, _), (12, _), (13, _), (14, _)]) ?_ (imp_covers ⟨rfl, rfl, rfl, rfl, rfl, rfl, rfl, rfl, rfl, rfl, rfl, rfl, trivial⟩)
    refine list_cons rfl (op_q (by first | exact q_orI rfl rfl (by decide) (by omega) (by omega) (by omega) (by omega) | exact q_ib rfl rfl rfl (by decide)) ?_)
    refine list_cons rfl (op_q (q_indexAddr_arr arr_54 rfl rfl rfl (by omega) (by omega) (by decide)) ?_)
    refine list_cons rfl (op_store (one_3).2 2 [2] (by intro t ht; simp only [List.mem_cons, List.not_mem_nil, or_false] at ht; subst ht; rfl) (.inl rfl) rfl rfl rfl rfl rfl rfl (by rw [List.length_map, wiS_len]; simp; omega) (by decide) rfl ?_)
    refine list_nil ?_
    refine blk_n ?_
    refine rp_n ⟨trivial, imp_covers ⟨rfl, rfl, (congrArg (fun z => some (SV.box 2 54 z)) ((wiS_put hp.1 hp.2.1 rfl).trans (congrArg (List.map (PV.int .i64)) (skipN (g := wiS s c b) hp.2.2.1 (fun x h1 h2 => wiS_skip s (hp.2.2.2 x h1 h2))).symm))), rfl, rfl, trivial⟩⟩
  · skip
    refine blk_n ?_
    refine hK2 _ ?_; clear hK2 K2
    refine codeT.imp (σ' := [(0, _), (1, _), (2, _), (3, _), (4, _)]) ?_ (imp_covers ⟨rfl, rfl, rfl, rfl, rfl, trivial⟩)
    refine code_seq (fun K5 hK5 => ?_)
    refine code_region ?_
    refine list_cons rfl (op_q (q_load_agg agg_54 2 (.inr ⟨rfl, _, rfl⟩) rfl rfl (by rw [List.length_map, wiS_len]; decide) (by first | rfl | exact flat_part (flat_map _ (fun _ => rfl) _) _ _) (by decide)) ?_)
    refine list_cons rfl (op_store (agg_54).2 4 [4] (by intro t ht; simp only [List.mem_cons, List.not_mem_nil, or_false] at ht; subst ht; rfl) (.inr ⟨rfl, _, rfl⟩) rfl rfl rfl rfl (by first | rfl | exact flat_part (flat_map _ (fun _ => rfl) _) _ _ | exact flat_map _ (fun _ => rfl) _) (by first | rfl | (simp [PV.cells, wiS_len]; done)) (by first | decide | omega | exact Nat.le_refl _ | (simp; done) | (simp; omega)) (by decide) rfl ?_)
    refine list_nil ?_
    refine hK5 _ ?_; clear hK5 K5
    refine codeT.imp (σ' := [(0, _), (1, _), (2, _), (3, _), (4, _)]) ?_ (imp_covers ⟨rfl, rfl, rfl, rfl, rfl, trivial⟩)
    refine code_ret ?_
    refine ends_ret (cs := []) (res_agg8 (cs := (wiS s c b 6).map (.int .i64)) (congrArg (fun z => some (SV.box 4 54 z)) (by rw [pl_end, List.take_of_length_le (by rw [List.length_drop, List.length_map, wiS_len]; exact Nat.sub_le _ _)]; exact put_all8 (n := 6) rfl (by simp [wiS_len]))) rfl (flat_map _ (fun _ => rfl) _) (by simp [wiS_len]; rfl)) rfl rfl rfl trivial ?_
    rfl
theorem with_E (cs ds : List PV) (s : List Int) (c b : Int) (h1 : cs = s.map (.int .i64)) (h2 : ds = [.int .i64 c, .int .i64 b]) (hs : s.length = 6) (hv : ∀ j, 0 ≤ s.getD j 0 ∧ s.getD j 0 ≤ 127) (hc : 0 ≤ c ∧ c ≤ 63) (hb : 0 ≤ b ∧ b ≤ 127) : PCalls Try.prog 55 [.agg cs, .agg ds] (· = [.val (.agg ((wiS s c b 6).map (.int .i64)))]) := by
  subst h1; subst h2; exact with_c s c b hs hv hc hb
set_option maxRecDepth 8000 in
set_option maxHeartbeats 2000000 in
theorem impl_sightOf (k : Int) (fr : List (Int × Int)) (hk : k ≤ 6) (hF : FrmP k fr) : PCalls Try.prog 42 [.sl fr.length (fl fr)] (· = [.val (.agg ((stS fr fr.length).map (.int .i64)))]) := by
  refine pcalls_of_code (n := 17) az Try.func42 (by kernel_rfl) rfl rfl (Nat.le_of_ble_eq_true rfl) (by intro t u h; simp [Try.f42] at h; obtain ⟨_, rfl⟩ := h <;> first | exact resTy_agg agg_54 (by decide)) ?_
  have hfl := fl_len fr
  have h12 := hF.1
  refine code_seq (fun K1 hK1 => ?_)
  refine code_region ?_
  refine list_cons rfl (op_alloc zt_54 (by decide) (by decide) rfl ?_)
  refine list_nil ?_
  refine hK1 _ ?_; clear hK1 K1
  refine code_seq (fun K2 hK2 => ?_)
  refine code_region ?_
  refine list_cons rfl (op_alloc zt_54 (by decide) (by decide) rfl ?_)
  refine list_nil ?_
  refine hK2 _ ?_; clear hK2 K2
  refine codeT.imp (σ' := [(0, _), (2, _), (3, .box 3 54 ((stS fr 0).map (.int .i64)))]) ?_ (imp_covers ⟨rfl, rfl, (congrArg (fun z => some (SV.box 3 54 (List.map (PV.int .i64) z))) (stS_0 fr)), trivial⟩)
  refine code_seq (fun K3 hK3 => ?_)
  refine code_seq (fun K4 hK4 => ?_)
  refine code_region ?_
  refine list_cons rfl (op_q (q_move rfl (by decide)) ?_)
  refine list_cons rfl (op_q (q_len_sl Try.underlying24 rfl rfl (by decide)) ?_)
  refine list_cons rfl (op_q (q_move rfl (by decide)) ?_)
  refine list_nil ?_
  refine hK4 _ ?_; clear hK4 K4
  refine code_block ?_
  refine code_loop (X := List PV × Int) (fun x => [(0, .par 0 (.sl fr.length (fl fr))), (2, .box 2 54 (List.replicate 6 (.int .i64 0))), (3, .box 3 54 x.1), (6, .par 0 (.sl fr.length (fl fr))), (7, .val (.int .i64 fr.length)), (8, .val (.int .i64 x.2))]) (fun x => 0 ≤ x.2 ∧ x.2 ≤ fr.length ∧ x.1 = (stS fr x.2.toNat).map (.int .i64)) (fun x => (fr.length - x.2).toNat) (_, _) (imp_covers ⟨rfl, rfl, rfl, rfl, rfl, rfl, trivial⟩) ?_ ?_
  · (try dsimp only)
    exact ⟨by omega, by omega, rfl⟩
  · intro x hI
    obtain ⟨seen_c, t8⟩ := x
    replace hI : 0 ≤ t8 ∧ t8 ≤ fr.length ∧ seen_c = (stS fr t8.toNat).map (.int .i64) := hI
    show codeT _ _ _ [(0, .par 0 (.sl fr.length (fl fr))), (2, .box 2 54 (List.replicate 6 (.int .i64 0))), (3, .box 3 54 seen_c), (6, .par 0 (.sl fr.length (fl fr))), (7, .val (.int .i64 fr.length)), (8, .val (.int .i64 t8))] _
    obtain ⟨i1, i2, rfl⟩ := hI
    refine code_seq (fun K5 hK5 => ?_)
    refine code_region ?_
    refine list_cons rfl (op_q (q_lt rfl rfl (by decide)) ?_)
    refine list_nil ?_
    refine hK5 _ ?_; clear hK5 K5
    refine code_seq (fun K6 hK6 => ?_)
    refine code_cond_d rfl (fun h1 => ?_) (fun h1 => ?_)
    · skip
      (try simp only [Decidable.not_not] at h1)
      refine code_skip ?_
      refine hK6 _ ?_; clear hK6 K6
      refine code_seq (fun K7 hK7 => ?_)
      refine code_block ?_
      refine code_seq (fun K8 hK8 => ?_)
      refine code_region ?_
      refine list_cons rfl (op_q (q_indexAddr_rd sl_24 rfl (.inl ⟨_, rfl, rfl⟩) rfl (by omega) (by omega) (by decide)) ?_)
      refine list_cons rfl (op_q (q_load_rd_aggE agg_62 rfl (.inl ⟨_, rfl⟩) (by first | decide | omega | exact Nat.le_refl _ | (simp; done) | (simp; omega)) (fl_at fr t8.toNat (by omega)) rfl (by decide)) ?_)
      refine list_cons rfl (op_alloc zt_62 (by decide) (by decide) rfl ?_)
      refine list_cons rfl (op_store (agg_62).2 5 [5] (by intro t ht; simp only [List.mem_cons, List.not_mem_nil, or_false] at ht; subst ht; rfl) (.inr ⟨rfl, _, rfl⟩) rfl rfl rfl rfl (by first | rfl | exact flat_part (flat_map _ (fun _ => rfl) _) _ _ | exact flat_map _ (fun _ => rfl) _) (by first | rfl | (simp [PV.cells, wiS_len, stS_len]; done)) (by decide) (by decide) rfl ?_)
      refine list_nil ?_
      refine hK8 _ ?_; clear hK8 K8
      refine codeT.imp (σ' := [(0, _), (2, _), (3, _), (5, _), (6, _), (7, _), (8, _)]) ?_ (imp_covers ⟨rfl, rfl, rfl, rfl, rfl, rfl, rfl, trivial⟩)
      refine code_region ?_
      refine list_cons rfl (op_q (q_load_agg agg_54 3 (.inr ⟨rfl, _, rfl⟩) rfl rfl (by first | exact Nat.le_of_ble_eq_true rfl | (rw [List.length_map, stS_len]; decide)) (by first | rfl | exact flat_part (flat_map _ (fun _ => rfl) _) _ _) (by decide)) ?_)
      refine list_cons rfl (op_q (q_load_agg agg_62 5 (.inr ⟨rfl, _, rfl⟩) rfl rfl (by first | exact Nat.le_of_ble_eq_true rfl | (rw [List.length_map, stS_len]; decide)) (by first | rfl | exact flat_part (flat_map _ (fun _ => rfl) _) _ _) (by decide)) ?_)
      refine list_cons rfl (op_call _ (with_E _ _ (stS fr t8.toNat) _ _ (by rw [List.drop_zero, List.take_of_length_le (by rw [List.length_map, stS_len]; decide)]) rfl (stS_len _ _) (fun x => stS_le hF hk (by omega) x) (by have := hF.bd hk (j := t8.toNat) (by omega); omega) (by have := hF.bd hk (j := t8.toNat) (by omega); omega)) rfl rfl (by decide) (by decide) (by decide) rfl ?_)
      rintro _ rfl
      refine list_cons rfl (op_store (agg_54).2 3 [3] (by intro t ht; simp only [List.mem_cons, List.not_mem_nil, or_false] at ht; subst ht; rfl) (.inr ⟨rfl, _, rfl⟩) rfl rfl rfl rfl (by first | rfl | exact flat_part (flat_map _ (fun _ => rfl) _) _ _ | exact flat_map _ (fun _ => rfl) _) (by first | rfl | (simp [PV.cells, wiS_len, stS_len]; done)) (by rw [List.length_map, stS_len]; decide) (by decide) rfl ?_)
      refine list_nil ?_
      refine blk_n ?_
      refine hK7 _ ?_; clear hK7 K7
      refine codeT.imp (σ' := [(0, _), (2, _), (3, _), (5, _), (6, _), (7, _), (8, _)]) ?_ (imp_covers ⟨rfl, rfl, rfl, rfl, rfl, rfl, rfl, trivial⟩)
      refine code_region ?_
      refine list_cons rfl (op_q (by first | exact q_addI rfl rfl (by decide) (by omega) (by omega) | exact q_ib rfl rfl rfl (by decide)) ?_)
      refine list_cons rfl (op_q (q_move rfl (by decide)) ?_)
      refine list_nil ?_
      refine then_n ⟨(_, _), imp_covers ⟨rfl, rfl, rfl, rfl, rfl, rfl, trivial⟩, ?_, ?_⟩
      · (try dsimp only)
        exact ⟨by omega, by omega, by rw [show (t8 + 1).toNat = t8.toNat + 1 by omega, ← stS_next]; exact put_all8 (n := 6) (by simp [stS_len]) (by simp [wiS_len])⟩
      · (try dsimp only); omega
    (try simp only [Decidable.not_not] at h1)
    refine code_exit ?_
    refine then_x ?_; clear hK6 K6
    refine then_x ?_
    refine blk_hit ?_
    refine hK3 _ ?_; clear hK3 K3
    refine code_seq (fun K9 hK9 => ?_)
    refine code_region ?_
    refine list_cons rfl (op_q (q_load_agg agg_54 3 (.inr ⟨rfl, _, rfl⟩) rfl rfl (by rw [List.length_map, stS_len]; decide) (by first | rfl | exact flat_part (flat_map _ (fun _ => rfl) _) _ _) (by decide)) ?_)
    refine list_cons rfl (op_store (agg_54).2 2 [2] (by intro t ht; simp only [List.mem_cons, List.not_mem_nil, or_false] at ht; subst ht; rfl) (.inr ⟨rfl, _, rfl⟩) rfl rfl rfl rfl (by first | rfl | exact flat_part (flat_map _ (fun _ => rfl) _) _ _ | exact flat_map _ (fun _ => rfl) _) (by first | rfl | (simp [PV.cells, wiS_len, stS_len]; done)) (by first | decide | omega | exact Nat.le_refl _ | (simp; done) | (simp; omega)) (by decide) rfl ?_)
    refine list_nil ?_
    refine hK9 _ ?_; clear hK9 K9
    refine codeT.imp (σ' := [(0, _), (2, _), (3, _), (6, _), (7, _), (8, _)]) ?_ (imp_covers ⟨rfl, rfl, rfl, rfl, rfl, rfl, trivial⟩)
    refine code_ret ?_
    refine ends_ret (cs := []) (res_agg8 (cs := (stS fr fr.length).map (.int .i64)) (congrArg (fun z => some (SV.box 2 54 z)) (by rw [show t8.toNat = fr.length by omega, List.take_of_length_le (by rw [List.length_drop, List.length_map, stS_len]; exact Nat.sub_le _ _)]; exact put_all8 (n := 6) rfl (by simp [stS_len]))) rfl (flat_map _ (fun _ => rfl) _) (by simp [stS_len]; rfl)) rfl rfl rfl trivial ?_
    rfl
set_option maxRecDepth 4000 in
theorem clone8_c (l : List Int) (hl : l.length ≤ 1000) : PCalls Try.prog 43 [.sl l.length (l.map (.int .i64))] (· = [.own 0 3 1 (l).length ((l).map (.int .i64))]) := by
  refine pcalls_of_code (n := 8) az Try.func43 (by kernel_rfl) rfl rfl (Nat.le_of_ble_eq_true rfl) (by intro t u h; simp [Try.f43] at h) ?_
  refine code_seq (fun K1 hK1 => ?_)
  refine code_region ?_
  refine list_cons rfl (op_q (q_assign rfl (by decide)) ?_)
  refine list_nil ?_
  refine hK1 _ ?_; clear hK1 K1
  refine code_seq (fun K2 hK2 => ?_)
  refine code_seq (fun K3 hK3 => ?_)
  refine code_region ?_
  refine list_cons rfl (op_q (q_move rfl (by decide)) ?_)
  refine list_cons rfl (op_eqnil Try.underlying27 rfl rfl (by decide) (fun h1 hzh1 => ?_) ?_)
  · skip
    refine list_nil ?_
    refine hK3 _ ?_; clear hK3 K3
    refine code_cond_t rfl ?_
    refine code_seq (fun K4 hK4 => ?_)
    refine code_region ?_
    refine list_cons rfl (op_q (q_assign rfl (by decide)) ?_)
    refine list_nil ?_
    refine hK4 _ ?_; clear hK4 K4
    refine codeT.imp ?_ (imp_nil (s := 2) (l := 902) (e := 3) (size := 1) (by first | exact .inl rfl | exact .inr rfl))
    refine code_ret ?_
    refine then_r ?_; clear hK2 K2
    refine ends_ret (cs := []) rfl rfl rfl rfl trivial ?_
    first
      | rfl
      | (have e : l = [] := List.eq_nil_of_length_eq_zero h1
         subst e; rfl)
      | (rw [show zeros [PV.int IntKind.i64 0] 0 = [] from rfl, List.nil_append, Nat.zero_add]; done)
  · skip
    refine list_nil ?_
    refine hK3 _ ?_; clear hK3 K3
    refine code_cond_f rfl ?_
    refine code_skip ?_
    refine hK2 _ ?_; clear hK2 K2
    refine code_seq (fun K5 hK5 => ?_)
    refine code_region ?_
    refine list_cons rfl (op_buildSlice sl_27 (parts := []) rfl rfl rfl (by decide) (by decide) (by decide) rfl ?_)
    refine list_cons rfl (op_q (q_move rfl (by decide)) ?_)
    refine list_cons rfl (op_append_gen sl_27 (l := 5) (.inl rfl) rfl rfl (l2 := none) (.inl ⟨rfl, (by first | rfl | exact flat_map _ (fun _ => rfl) _)⟩) (by first | rfl | simp | omega) (by omega) (by decide) (by decide) (by decide) ?_)
    refine list_cons rfl (op_q (q_assign rfl (by decide)) ?_)
    refine list_nil ?_
    refine hK5 _ ?_; clear hK5 K5
    refine codeT.imp (σ' := [(0, _), (2, _)]) ?_ (imp_covers ⟨rfl, rfl, trivial⟩)
    refine code_ret ?_
    refine ends_ret (cs := []) rfl rfl rfl rfl trivial ?_
    first
      | rfl
      | (have e : l = [] := List.eq_nil_of_length_eq_zero h1
         subst e; rfl)
      | (rw [show zeros [PV.int IntKind.i64 0] 0 = [] from rfl, List.nil_append, Nat.zero_add]; done)
theorem clone8_E (n : Nat) (cs : List PV) (l : List Int) (h1 : n = l.length) (h2 : cs = l.map (.int .i64)) (hl : l.length ≤ 1000) : PCalls Try.prog 43 [.sl n cs] (· = [.own 0 3 1 (l).length ((l).map (.int .i64))]) := by
  subst h1; subst h2; exact clone8_c l hl
set_option maxRecDepth 8000 in
set_option maxHeartbeats 2000000 in
theorem impl_SeenOf (k : Int) (fr : List (Int × Int)) (hf : fr.length ≤ 1048576) : PCalls Try.prog 7 [.int .i64 k, .sl fr.length (fl fr)] (· = [.own 0 3 1 (if GdP k fr then sen fr k.toNat else []).length ((if GdP k fr then sen fr k.toNat else []).map (.int .i64)), .val (.bool (decide (GdP k fr)))]) := by
  refine pcalls_of_code (n := 23) az Try.func7 (by kernel_rfl) rfl rfl (Nat.le_of_ble_eq_true rfl) (by intro t u h; simp [Try.f7] at h) ?_
  refine code_seq (fun K1 hK1 => ?_)
  refine code_region ?_
  refine list_cons rfl (op_q (q_assign rfl (by decide)) ?_)
  refine list_cons rfl (op_q (q_assign rfl (by decide)) ?_)
  refine list_nil ?_
  refine hK1 _ ?_; clear hK1 K1
  refine code_seq (fun K2 hK2 => ?_)
  refine code_seq (fun K3 hK3 => ?_)
  refine code_region ?_
  refine list_cons rfl (op_q (q_move rfl (by decide)) ?_)
  refine list_cons rfl (op_q (q_move rfl (by decide)) ?_)
  refine list_cons rfl (op_call _ (impl_IsFrame _ _ (by first | omega | (simp; omega))) rfl rfl (by decide) (by decide) (by decide) rfl ?_)
  rintro _ rfl
  refine list_cons rfl (op_q (q_move rfl (by decide)) ?_)
  refine list_cons rfl (op_q (q_extract rfl rfl (by decide)) ?_)
  refine list_cons rfl (op_q (q_extract rfl rfl (by decide)) ?_)
  refine list_cons rfl (op_q (q_assign rfl (by decide)) ?_)
  refine list_cons rfl (op_q (q_assign rfl (by decide)) ?_)
  refine list_nil ?_
  refine hK3 _ ?_; clear hK3 K3
  refine codeT.imp (σ' := [(0, _), (1, _), (4, _), (5, _), (6, _)]) ?_ (imp_covers ⟨rfl, rfl, rfl, rfl, rfl, trivial⟩)
  refine code_seq (fun K4 hK4 => ?_)
  refine code_region ?_
  refine list_cons rfl (op_q (q_move rfl (by decide)) ?_)
  refine list_cons rfl (op_q (by first | exact q_notd rfl (by decide) | exact q_not rfl (by decide)) ?_)
  refine list_nil ?_
  refine hK4 _ ?_; clear hK4 K4
  refine code_cond_d rfl (fun h1 => ?_) (fun h1 => ?_)
  · skip
    (try simp only [Decidable.not_not] at h1); (try have hg := (h1 : GdP k fr); try have hk := hg.1; try have hF := hg.2; try have h12 := hF.1; try have hfl := fl_len fr)
    refine code_seq (fun K5 hK5 => ?_)
    refine code_region ?_
    refine list_cons rfl (op_buildSlice sl_27 (parts := []) rfl rfl rfl (by decide) (by decide) (by decide) rfl ?_)
    refine list_cons rfl (op_q (q_assign rfl (by decide)) ?_)
    refine list_cons rfl (op_q (q_assign rfl (by decide)) ?_)
    refine list_nil ?_
    refine hK5 _ ?_; clear hK5 K5
    refine code_ret ?_
    refine then_r ?_; clear hK2 K2
    refine ends_ret (cs := []) rfl rfl rfl rfl trivial ?_
    first
      | (simp only [if_pos hg, decide_eq_true hg]; done)
      | (have e : ¬ GdP k fr := by assumption
         simp only [if_neg e, decide_eq_false e]; rfl)
  (try simp only [Decidable.not_not] at h1); (try have hg := (h1 : GdP k fr); try have hk := hg.1; try have hF := hg.2; try have h12 := hF.1; try have hfl := fl_len fr)
  refine code_skip ?_
  refine hK2 _ ?_; clear hK2 K2
  refine code_seq (fun K6 hK6 => ?_)
  refine code_region ?_
  refine list_cons rfl (op_q (q_move rfl (by decide)) ?_)
  refine list_cons rfl (op_call _ (impl_sightOf k fr hk.2 hF) rfl rfl (by decide) (by decide) (by decide) rfl ?_)
  rintro _ rfl
  refine list_cons rfl (op_alloc zt_54 (by decide) (by decide) rfl ?_)
  refine list_cons rfl (op_store (agg_54).2 8 [8] (by intro t ht; simp only [List.mem_cons, List.not_mem_nil, or_false] at ht; subst ht; rfl) (.inr ⟨rfl, _, rfl⟩) rfl rfl rfl rfl (by first | rfl | exact flat_part (flat_map _ (fun _ => rfl) _) _ _ | exact flat_map _ (fun _ => rfl) _) (by first | rfl | (simp [PV.cells, stS_len]; done)) (by decide) (by decide) rfl ?_)
  refine list_nil ?_
  refine hK6 _ ?_; clear hK6 K6
  refine codeT.imp (σ' := [(0, _), (1, _), (4, _), (5, _), (6, _), (8, .box 8 54 ((stS fr fr.length).map (.int .i64)))]) ?_ (imp_covers ⟨rfl, rfl, rfl, rfl, rfl, (congrArg (fun z => some (SV.box 8 54 z)) (put_all8 (n := 6) rfl (by simp [stS_len]))), trivial⟩)
  refine code_seq (fun K7 hK7 => ?_)
  refine code_region ?_
  refine list_cons rfl (op_q (q_move rfl (by decide)) ?_)
  refine list_cons rfl (op_q (q_sliceBoxB Try.underlying54 one_3.2 rfl rfl ⟨_, rfl⟩ (by omega) (by omega) (by omega) (by decide)) ?_)
  refine list_cons rfl (op_call _ (clone8_E _ _ (sen fr k.toNat) (by rw [← sen_stS fr hg.take6, List.length_take, stS_len]; omega) (by rw [← sen_stS fr hg.take6, List.map_take]; rfl) (by rw [show (sen fr k.toNat).length = k.toNat from senK_len _ _ _ _]; omega)) rfl rfl (by decide) (by decide) (by decide) rfl ?_)
  rintro _ rfl
  refine list_cons rfl (op_q (q_assign rfl (by decide)) ?_)
  refine list_cons rfl (op_q (q_assign rfl (by decide)) ?_)
  refine list_nil ?_
  refine hK7 _ ?_; clear hK7 K7
  refine codeT.imp (σ' := [(0, _), (1, _), (4, _), (5, _), (6, _), (8, _)]) ?_ (imp_covers ⟨rfl, rfl, rfl, rfl, rfl, rfl, trivial⟩)
  refine code_ret ?_
  refine ends_ret (cs := []) rfl rfl rfl rfl trivial ?_
  first
    | (simp only [if_pos hg, decide_eq_true hg]; done)
    | (have e : ¬ GdP k fr := by assumption
       simp only [if_neg e, decide_eq_false e]; rfl)
set_option maxRecDepth 8000 in
set_option maxHeartbeats 2000000 in
theorem impl_PlainFrame (l : List Int) (hl : l.length ≤ 1048576) : PCalls Try.prog 21 [.sl l.length (l.map (.int .i64))] (· = [.own 0 62 2 (if PlnP l then plnK l l.length else []).length (fl (if PlnP l then plnK l l.length else [])), .val (.bool (decide (PlnP l)))]) := by
  refine pcalls_of_code (n := 30) az Try.func21 (by kernel_rfl) rfl rfl (Nat.le_of_ble_eq_true rfl) (by intro t u h; simp [Try.f21] at h) ?_
  refine code_seq (fun K1 hK1 => ?_)
  refine code_region ?_
  refine list_cons rfl (op_q (q_assign rfl (by decide)) ?_)
  refine list_cons rfl (op_q (q_assign rfl (by decide)) ?_)
  refine list_nil ?_
  refine hK1 _ ?_; clear hK1 K1
  refine code_seq (fun K2 hK2 => ?_)
  refine code_seq (fun K3 hK3 => ?_)
  refine code_region ?_
  refine list_cons rfl (op_q (q_move rfl (by decide)) ?_)
  refine list_cons rfl (op_call _ (impl_isDrivenRow _ (by first | omega | (simp; omega))) rfl rfl (by decide) (by decide) (by decide) rfl ?_)
  rintro _ rfl
  refine list_cons rfl (op_q (by first | exact q_notd rfl (by decide) | exact q_not rfl (by decide)) ?_)
  refine list_nil ?_
  refine hK3 _ ?_; clear hK3 K3
  refine codeT.imp (σ' := [(0, _), (2, _), (3, _), (9, _)]) ?_ (imp_covers ⟨rfl, rfl, rfl, rfl, trivial⟩)
  refine code_cond_d rfl (fun h1 => ?_) (fun h1 => ?_)
  · skip
    (try simp only [Decidable.not_not] at h1); (try have hP := (h1 : PlnP l); have h6 := hP.1.1)
    refine code_seq (fun K4 hK4 => ?_)
    refine code_region ?_
    refine list_cons rfl (op_buildSlice sl_24 (parts := []) rfl rfl rfl (by decide) (by decide) (by decide) rfl ?_)
    refine list_cons rfl (op_q (q_assign rfl (by decide)) ?_)
    refine list_cons rfl (op_q (q_assign rfl (by decide)) ?_)
    refine list_nil ?_
    refine hK4 _ ?_; clear hK4 K4
    refine code_ret ?_
    refine then_r ?_; clear hK2 K2
    refine ends_ret (cs := []) rfl rfl rfl rfl trivial ?_
    first
      | (simp only [if_pos hP, decide_eq_true hP, show t14.toNat = l.length by omega]; done)
      | (have e : ¬ PlnP l := by assumption
         simp only [if_neg e, decide_eq_false e]; rfl)
  (try simp only [Decidable.not_not] at h1); (try have hP := (h1 : PlnP l); have h6 := hP.1.1)
  refine code_skip ?_
  refine hK2 _ ?_; clear hK2 K2
  refine code_seq (fun K5 hK5 => ?_)
  refine code_region ?_
  refine list_cons rfl (op_buildSlice sl_24 (parts := []) rfl rfl rfl (by decide) (by decide) (by decide) rfl ?_)
  refine list_cons rfl (op_q (q_assign rfl (by decide)) ?_)
  refine list_nil ?_
  refine hK5 _ ?_; clear hK5 K5
  refine code_seq (fun K6 hK6 => ?_)
  refine code_seq (fun K7 hK7 => ?_)
  refine code_region ?_
  refine list_cons rfl (op_q (q_move rfl (by decide)) ?_)
  refine list_cons rfl (op_q (q_len_sl Try.underlying27 rfl rfl (by decide)) ?_)
  refine list_cons rfl (op_q (q_move rfl (by decide)) ?_)
  refine list_nil ?_
  refine hK7 _ ?_; clear hK7 K7
  refine code_block ?_
  refine code_loop (X := PV × Bool × Nat × List PV × Int) (fun x => [(0, .par 0 (.sl l.length (l.map (.int .i64)))), (2, .val x.1), (3, .val (.bool x.2.1)), (4, .own 11 62 2 x.2.2.1 x.2.2.2.1), (12, .par 0 (.sl l.length (l.map (.int .i64)))), (13, .val (.int .i64 l.length)), (14, .val (.int .i64 x.2.2.2.2))]) (fun x => PlnP l ∧ 0 ≤ x.2.2.2.2 ∧ x.2.2.2.2 ≤ l.length ∧ x.2.2.1 = (plnK l x.2.2.2.2.toNat).length ∧ x.2.2.2.1 = fl (plnK l x.2.2.2.2.toNat)) (fun x => (l.length - x.2.2.2.2).toNat) (_, _, _, _, _) (imp_covers ⟨rfl, rfl, rfl, rfl, rfl, rfl, rfl, trivial⟩) ?_ ?_
  · (try dsimp only)
    exact ⟨hP, by omega, by omega, rfl, rfl⟩
  · intro x hI
    obtain ⟨t2_p, t3, frame_n, frame_c, t14⟩ := x
    replace hI : PlnP l ∧ 0 ≤ t14 ∧ t14 ≤ l.length ∧ frame_n = (plnK l t14.toNat).length ∧ frame_c = fl (plnK l t14.toNat) := hI
    show codeT _ _ _ [(0, .par 0 (.sl l.length (l.map (.int .i64)))), (2, .val t2_p), (3, .val (.bool t3)), (4, .own 11 62 2 frame_n frame_c), (12, .par 0 (.sl l.length (l.map (.int .i64)))), (13, .val (.int .i64 l.length)), (14, .val (.int .i64 t14))] _
    obtain ⟨hP, i1, i2, rfl, rfl⟩ := hI
    have h6 := hP.1.1
    refine code_seq (fun K8 hK8 => ?_)
    refine code_region ?_
    refine list_cons rfl (op_q (q_lt rfl rfl (by decide)) ?_)
    refine list_nil ?_
    refine hK8 _ ?_; clear hK8 K8
    refine code_seq (fun K9 hK9 => ?_)
    refine code_cond_d rfl (fun h2 => ?_) (fun h2 => ?_)
    · skip
      (try simp only [Decidable.not_not] at h2); (try have hP := (h2 : PlnP l); have h6 := hP.1.1)
      refine code_skip ?_
      refine hK9 _ ?_; clear hK9 K9
      refine code_seq (fun K10 hK10 => ?_)
      refine code_block ?_
      refine code_seq (fun K11 hK11 => ?_)
      refine code_region ?_
      refine list_cons rfl (op_q (q_move rfl (by decide)) ?_)
      refine list_cons rfl (op_q (q_indexAddr_rd sl_27 rfl (.inl ⟨_, rfl, rfl⟩) rfl (by omega) (by omega) (by decide)) ?_)
      refine list_cons rfl (op_q (q_load_rd one_3 rfl (.inl ⟨_, (by first | rfl | exact congrArg (SV.rpar _) (drop_map1 _ 0 _ (by first | omega | (simp; omega)))), rfl⟩) (by decide)) ?_)
      refine list_cons rfl (op_q (q_assign rfl (by decide)) ?_)
      refine list_cons rfl (op_q (q_assign rfl (by decide)) ?_)
      refine list_nil ?_
      refine hK11 _ ?_; clear hK11 K11
      refine code_seq (fun K12 hK12 => ?_)
      refine code_region ?_
      refine list_cons rfl (op_q (q_move rfl (by decide)) ?_)
      refine list_cons rfl (op_q (q_ne rfl rfl (by decide)) ?_)
      refine list_nil ?_
      refine hK12 _ ?_; clear hK12 K12
      refine code_cond_d rfl (fun h3 => ?_) (fun h3 => ?_)
      · skip
        (try simp only [Decidable.not_not] at h3); (try have hP := (h3 : PlnP l); have h6 := hP.1.1)
        refine code_region ?_
        refine list_cons rfl (op_q (q_move rfl (by decide)) ?_)
        refine list_cons rfl (op_q (q_move rfl (by decide)) ?_)
        refine list_cons rfl (op_q (by first | exact q_shl1 rfl rfl (by decide) (by omega) (by omega) | exact q_shlI rfl rfl (by decide) (by omega) (by omega) (by omega) | exact q_shl rfl rfl (by omega) (by decide)) ?_)
        refine list_cons rfl (op_q (q_move rfl (by decide)) ?_)
        refine list_cons rfl (op_q (q_build bt_62 (parts := [(0, .tmp 23), (1, .tmp 24)]) rfl rfl (by decide)) ?_)
        refine list_cons rfl (op_buildSlice sl_24 (parts := [(0, .tmp 25)]) rfl rfl rfl (by decide) (by decide) (by decide) rfl ?_)
        refine list_cons rfl (op_append_gen sl_24 (l := 11) (.inl rfl) rfl rfl (l2 := none) (.inl ⟨rfl, (by first | rfl | exact flat_map _ (fun _ => rfl) _)⟩) (by first | rfl | (simp [PV.cells, putAt, zeros]; done)) (by have := plnK_len l t14.toNat; omega) (by decide) (by decide) (by decide) ?_)
        refine list_cons rfl (op_q (q_assign rfl (by decide)) ?_)
        refine list_nil ?_
        refine blk_n ?_
        refine hK10 _ ?_; clear hK10 K10
        refine codeT.imp (σ' := [(0, _), (2, _), (3, _), (4, _), (5, _), (6, _), (12, _), (13, _), (14, _)]) ?_ (imp_covers ⟨rfl, rfl, rfl, rfl, rfl, rfl, rfl, rfl, rfl, trivial⟩)
        refine code_region ?_
        refine list_cons rfl (op_q (by first | exact q_addI rfl rfl (by decide) (by omega) (by omega) | exact q_ib rfl rfl rfl (by decide)) ?_)
        refine list_cons rfl (op_q (q_move rfl (by decide)) ?_)
        refine list_nil ?_
        refine then_n ⟨(_, _, _, _, _), imp_covers ⟨rfl, rfl, rfl, rfl, rfl, rfl, rfl, trivial⟩, ?_, ?_⟩
        · (try dsimp only)
          first
            | (have hne : l.getD t14.toNat 0 ≠ 0 := by assumption
               refine ⟨hP, by omega, by omega, ?_, ?_⟩ <;> rw [show (t14 + 1).toNat = t14.toNat + 1 by omega, plnK, if_pos hne]
               · rw [List.length_append]; rfl
               · rw [fl_app8]; rfl)
            | (have hne : ¬ l.getD t14.toNat 0 ≠ 0 := by first | assumption | (intro z; contradiction)
               refine ⟨hP, by omega, by omega, ?_, ?_⟩ <;> (rw [show (t14 + 1).toNat = t14.toNat + 1 by omega, plnK, if_neg hne] <;> rfl))
        · (try dsimp only); omega
      (try simp only [Decidable.not_not] at h3); (try have hP := (h3 : PlnP l); have h6 := hP.1.1)
      refine code_skip ?_
      refine blk_n ?_
      refine hK10 _ ?_; clear hK10 K10
      refine code_region ?_
      refine list_cons rfl (op_q (by first | exact q_addI rfl rfl (by decide) (by omega) (by omega) | exact q_ib rfl rfl rfl (by decide)) ?_)
      refine list_cons rfl (op_q (q_move rfl (by decide)) ?_)
      refine list_nil ?_
      refine then_n ⟨(_, _, _, _, _), imp_covers ⟨rfl, rfl, rfl, rfl, rfl, rfl, rfl, trivial⟩, ?_, ?_⟩
      · (try dsimp only)
        first
          | (have hne : l.getD t14.toNat 0 ≠ 0 := by assumption
             refine ⟨hP, by omega, by omega, ?_, ?_⟩ <;> rw [show (t14 + 1).toNat = t14.toNat + 1 by omega, plnK, if_pos hne]
             · rw [List.length_append]; rfl
             · rw [fl_app8]; rfl)
          | (have hne : ¬ l.getD t14.toNat 0 ≠ 0 := by first | assumption | (intro z; contradiction)
             refine ⟨hP, by omega, by omega, ?_, ?_⟩ <;> (rw [show (t14 + 1).toNat = t14.toNat + 1 by omega, plnK, if_neg hne] <;> rfl))
      · (try dsimp only); omega
    (try simp only [Decidable.not_not] at h2); (try have hP := (h2 : PlnP l); have h6 := hP.1.1)
    refine code_exit ?_
    refine then_x ?_; clear hK9 K9
    refine then_x ?_
    refine blk_hit ?_
    refine hK6 _ ?_; clear hK6 K6
    refine code_seq (fun K13 hK13 => ?_)
    refine code_region ?_
    refine list_cons rfl (op_q (q_move rfl (by decide)) ?_)
    refine list_cons rfl (op_q (q_assign rfl (by decide)) ?_)
    refine list_cons rfl (op_q (q_assign rfl (by decide)) ?_)
    refine list_nil ?_
    refine hK13 _ ?_; clear hK13 K13
    refine code_ret ?_
    refine ends_ret (cs := []) rfl rfl rfl rfl trivial ?_
    first
      | (simp only [if_pos hP, decide_eq_true hP, show t14.toNat = l.length by omega]; done)
      | (have e : ¬ PlnP l := by assumption
         simp only [if_neg e, decide_eq_false e]; rfl)
set_option maxRecDepth 8000 in
set_option maxHeartbeats 2000000 in
theorem impl_FullBars (l : List Int) (cc : Int) (hl : l.length ≤ 1048576) : MCalls Try.prog 27 true none [.sl l.length (l.map (.int .i64)), .int .i64 cc] (fun rs _ => rs = [.val (.int .i64 (if FbP l cc then ((fulN l cc l.length : Nat) : Int) else 0)), .val (.bool (decide (FbP l cc)))]) := by
  refine mcalls_of_code (n := 32) az Try.func27 (by kernel_rfl) rfl rfl (Nat.le_of_ble_eq_true rfl) (by intro t u h; simp [Try.f27] at h) ?_
  refine code_seq (fun K1 hK1 => ?_)
  refine code_region ?_
  refine list_cons rfl (op_box rfl (.inr rfl) (by decide) (by decide) rfl ?_)
  refine list_cons rfl (op_q (q_assign rfl (by decide)) ?_)
  refine list_cons rfl (op_q (q_assign rfl (by decide)) ?_)
  refine list_nil ?_
  refine hK1 _ ?_; clear hK1 K1
  refine code_seq (fun K2 hK2 => ?_)
  refine code_seq (fun K3 hK3 => ?_)
  refine code_region ?_
  refine list_cons rfl (op_q (q_load_boxD one_27 rfl (by decide)) ?_)
  refine list_cons rfl (op_call _ (impl_isDrivenRow _ (by first | omega | (simp; omega))) rfl rfl (by decide) (by decide) (by decide) rfl ?_)
  rintro _ rfl
  refine list_cons rfl (op_q (by first | exact q_notd rfl (by decide) | exact q_not rfl (by decide)) ?_)
  refine list_cons rfl (op_q (q_move rfl (by decide)) ?_)
  refine list_guard_d rfl rfl rfl rfl (by decide) rfl (by decide) (fun h1 => ?_) (fun h1 => ?_)
  · simp only [Bool.false_eq_true, if_true, if_false, Decidable.not_not] at h1
    (try simp only [Decidable.not_not] at h1); (try have hP := (h1 : PlnP l); have h6 := hP.1.1; have hp2 := p2_le6 (k := (l.length : Int)) (by omega)); (try have h3b : cc ≤ ((p2 l.length : Nat) : Int) - 1 := by have hx := h1; rw [Int.toNat_natCast] at hx; omega); (try have hcc : 0 ≤ cc ∧ cc ≤ 63 := by omega)
    refine id (op_q (q_move rfl (by decide)) ?_)
    refine list_guard_y rfl rfl rfl rfl (by decide) rfl ?_
    refine id (op_q (q_lt rfl rfl (by decide)) ?_)
    refine list_cons rfl (op_q (q_pick rfl rfl (by decide)) ?_)
    refine list_cons rfl (op_q (q_move rfl (by decide)) ?_)
    refine list_guard_d rfl rfl rfl rfl (by decide) rfl (by decide) (fun h2 => ?_) (fun h2 => ?_)
    · simp only [Bool.false_eq_true, if_true, if_false, Decidable.not_not] at h2
      (try simp only [Decidable.not_not] at h2); (try have hP := (h2 : PlnP l); have h6 := hP.1.1; have hp2 := p2_le6 (k := (l.length : Int)) (by omega)); (try have h3b : cc ≤ ((p2 l.length : Nat) : Int) - 1 := by have hx := h2; rw [Int.toNat_natCast] at hx; omega); (try have hcc : 0 ≤ cc ∧ cc ≤ 63 := by omega)
      refine id (op_q (q_move rfl (by decide)) ?_)
      refine list_guard_y rfl rfl rfl rfl (by decide) rfl ?_
      refine id (op_q (q_load_boxD one_27 rfl (by decide)) ?_)
      refine list_guard_y rfl rfl rfl rfl (by decide) rfl ?_
      refine id (op_q (q_len_sl Try.underlying27 rfl rfl (by decide)) ?_)
      refine list_guard_y rfl rfl rfl rfl (by decide) rfl ?_
      refine id (op_q (by first | exact q_shl1 rfl rfl (by decide) (by omega) (by omega) | exact q_shlI rfl rfl (by decide) (by omega) (by omega) (by omega) | exact q_shl rfl rfl (by omega) (by decide)) ?_)
      refine list_guard_y rfl rfl rfl rfl (by decide) rfl ?_
      refine id (op_q (q_ge rfl rfl (by decide)) ?_)
      refine list_cons rfl (op_q (q_pick rfl rfl (by decide)) ?_)
      refine list_nil ?_
      refine hK3 _ ?_; clear hK3 K3
      refine codeT.imp (σ' := [(0, _), (1, _), (2, _), (4, _), (5, _), (21, _)]) ?_ (imp_covers ⟨rfl, rfl, rfl, rfl, rfl, rfl, trivial⟩)
      refine code_cond_d rfl (fun h3 => ?_) (fun h3 => ?_)
      · skip
        (try simp only [Decidable.not_not] at h3); (try have hP := (h3 : PlnP l); have h6 := hP.1.1; have hp2 := p2_le6 (k := (l.length : Int)) (by omega)); (try have h3b : cc ≤ ((p2 l.length : Nat) : Int) - 1 := by have hx := h3; rw [Int.toNat_natCast] at hx; omega); (try have hcc : 0 ≤ cc ∧ cc ≤ 63 := by omega)
        refine code_seq (fun K4 hK4 => ?_)
        refine code_region ?_
        refine list_cons rfl (op_q (q_assign rfl (by decide)) ?_)
        refine list_cons rfl (op_q (q_assign rfl (by decide)) ?_)
        refine list_nil ?_
        refine hK4 _ ?_; clear hK4 K4
        refine code_ret ?_
        refine then_r ?_; clear hK2 K2
        refine ends_ret (cs := []) rfl rfl rfl rfl trivial ?_
        first
          | (have e : FbP l cc := ⟨hP, by omega, by omega⟩
             simp only [if_pos e, decide_eq_true e, pl_end, fulN_all hcc.1 h6 h3b]; done)
          | (have e : ¬ FbP l cc := fun e => by first | exact absurd e.1 (by assumption) | (have := e.2.1; have := e.2.2; omega)
             simp only [if_neg e, decide_eq_false e]; first | done | rfl)
      (try simp only [Decidable.not_not] at h3); (try have hP := (h3 : PlnP l); have h6 := hP.1.1; have hp2 := p2_le6 (k := (l.length : Int)) (by omega)); (try have h3b : cc ≤ ((p2 l.length : Nat) : Int) - 1 := by have hx := h3; rw [Int.toNat_natCast] at hx; omega); (try have hcc : 0 ≤ cc ∧ cc ≤ 63 := by omega)
      refine code_skip ?_
      refine hK2 _ ?_; clear hK2 K2
      refine code_seq (fun K5 hK5 => ?_)
      refine code_region ?_
      refine list_cons rfl (op_alloc zt_3 (by decide) (by decide) rfl ?_)
      refine list_cons rfl (op_store (one_3).2 6 [6] (by intro t ht; simp only [List.mem_cons, List.not_mem_nil, or_false] at ht; subst ht; rfl) (.inr ⟨rfl, _, rfl⟩) rfl rfl rfl rfl rfl rfl (by first | decide | omega | exact Nat.le_refl _ | (simp; done) | (simp; omega)) (by decide) rfl ?_)
      refine list_nil ?_
      refine hK5 _ ?_; clear hK5 K5
      refine codeT.imp (σ' := [(0, _), (1, _), (2, _), (4, _), (5, _), (6, .box 6 3 [.int .i64 ((fulN l cc (pl cc 0) : Nat) : Int)])]) ?_ (imp_covers ⟨rfl, rfl, rfl, rfl, rfl, (congrArg (fun z => some (SV.box 6 3 [PV.int .i64 ((z : Nat) : Int)])) (skipN (g := fulN l cc) (Nat.zero_le _) (fun x h1 h2 => by rw [fulN, if_neg (pl_zero hcc x h1 h2)])).symm), trivial⟩)
      refine code_seq (fun K6 hK6 => ?_)
      refine code_seq (fun K7 hK7 => ?_)
      refine code_region ?_
      refine list_cons rfl (op_q (q_move rfl (by decide)) ?_)
      refine list_cons rfl (op_call _ (placesIn_c _) rfl rfl (by decide) (by decide) (by decide) rfl ?_)
      rintro _ rfl
      refine listT.imp ?_ imp_unfrz
      refine list_nil ?_
      refine hK7 _ ?_; clear hK7 K7
      refine codeT.imp (σ' := [(0, _), (1, _), (2, _), (4, _), (5, _), (6, _), (23, _)]) ?_ (imp_covers ⟨rfl, rfl, rfl, rfl, rfl, rfl, rfl, trivial⟩)
      refine code_block ?_
      refine code_rangeFunc (placesIn_it cc hcc) ((fun (s0 s1 s2 s4 s5 : SV) (i : Nat) => ([(0, s0), (1, s1), (2, s2), (4, s4), (5, s5), (6, .box 6 3 [.int .i64 ((fulN l cc (pl cc i) : Nat) : Int)])] : St)) _ _ _ _ _) (fun i => True) (trivial) rfl rfl rfl (by decide) rfl (fun _ _ => ⟨rfl, rfl⟩) (fun _ => rfl) rfl rfl (imp_covers ⟨rfl, rfl, rfl, rfl, rfl, rfl, trivial⟩) (fun i hi hIi => ?_) (fun hIi => ?_)
      · intro K8 hK8
        refine codeT.imp (σ' := [(24, .val (.int .i64 ((pl cc i : Nat) : Int))), (0, _), (1, _), (2, _), (4, _), (5, _), (6, _)]) ?_ (imp_covers ⟨rfl, rfl, rfl, rfl, rfl, rfl, rfl, trivial⟩)
        have hp := pl_ok hcc hi
        have hlt := bt_lt (n := l.length) hcc.1 h6 h3b hp.1 hp.2.1
        have hx : 0 ≤ l.getD ((pl cc i : Nat) : Int).toNat 0 ∧ l.getD ((pl cc i : Nat) : Int).toNat 0 ≤ 127 := by rw [Int.toNat_natCast]; exact hP.1.at hlt
        have hfu := fulN_le l cc (pl cc i)
        refine code_region ?_
        refine list_cons rfl (op_q (q_assign rfl (by decide)) ?_)
        refine list_nil ?_
        refine hK8 _ rfl ?_; clear hK8 K8
        refine codeT.imp (σ' := [(0, _), (1, _), (2, _), (4, _), (5, _), (6, _), (7, _), (24, _)]) ?_ (imp_covers ⟨rfl, rfl, rfl, rfl, rfl, rfl, rfl, rfl, trivial⟩)
        refine code_block ?_
        refine any_start fun ob2_0 => ?_
        refine any_op (rd := [6]) ob2_0 rfl rfl rfl (anyT_quiet [(6, _)] ⟨rfl, trivial⟩ rfl (q_load_box1 one_3 rfl rfl (by decide))) (fun ob2_1 => ?_)
        refine any_op (rd := [2]) ob2_1 rfl rfl rfl (anyT_quiet [(2, _)] ⟨rfl, trivial⟩ rfl (q_load_boxD one_27 rfl (by decide))) (fun ob2_2 => ?_)
        refine any_op (rd := [7]) ob2_2 rfl rfl rfl (anyT_quiet [(7, _)] ⟨rfl, trivial⟩ rfl (q_move rfl (by decide))) (fun ob2_3 => ?_)
        refine any_op (rd := [26, 27]) ob2_3 rfl rfl rfl (anyT_quiet [(26, _), (27, _)] ⟨rfl, rfl, trivial⟩ rfl (q_indexAddr_rd sl_27 rfl (.inr ⟨_, rfl, rfl⟩) rfl (by omega) (by omega) (by decide))) (fun ob2_4 => ?_)
        refine any_op (rd := [28]) ob2_4 rfl rfl rfl (anyT_quiet [(28, _)] ⟨rfl, trivial⟩ rfl (q_load_rd one_3 rfl (.inr ⟨_, (by first | rfl | exact congrArg (SV.rbor _) (drop_map1 _ 0 _ (by first | omega | (simp; omega)))), rfl⟩) (by decide))) (fun ob2_5 => ?_)
        refine any_end [[], [], [], [1, 2], [1, 2, 3], [0, 1, 2, 3, 4], [0, 1, 2, 3, 4, 5]] ob2_5 (by kernel_rfl) (Nat.le_of_ble_eq_true rfl) (by decide) (by decide) (by kernel_rfl) (by kernel_rfl) (by kernel_rfl) (by kernel_rfl) (by kernel_rfl) ?_
        clear ob2_0 ob2_1 ob2_2 ob2_3 ob2_4 ob2_5
        refine listT.imp (σ' := [(0, _), (1, _), (2, _), (4, _), (5, _), (6, _), (7, _), (24, _), (25, _), (26, _), (27, _), (28, _), (29, _)]) ?_ (imp_covers ⟨rfl, rfl, rfl, rfl, rfl, rfl, rfl, rfl, rfl, rfl, rfl, rfl, rfl, trivial⟩)
        refine list_cons rfl (op_q (by first | exact q_andI rfl rfl (by decide) (by omega) (by omega) (by omega) (by omega) | exact q_ib rfl rfl rfl (by decide)) ?_)
        refine list_cons rfl (op_store (one_3).2 6 [6] (by intro t ht; simp only [List.mem_cons, List.not_mem_nil, or_false] at ht; subst ht; rfl) (.inr ⟨rfl, _, rfl⟩) rfl rfl rfl rfl rfl rfl (by first | decide | omega | exact Nat.le_refl _ | (simp; done) | (simp; omega)) (by decide) rfl ?_)
        refine list_nil ?_
        refine blk_n ?_
        refine rp_n ⟨trivial, imp_covers ⟨rfl, rfl, rfl, rfl, rfl, (congrArg (fun z => some (SV.box 6 3 [PV.int .i64 ((z : Nat) : Int)])) ((skipN (g := fulN l cc) hp.2.2.1 (fun x h1 h2 => by rw [fulN, if_neg (hp.2.2.2 x h1 h2)])).trans (by rw [fulN, if_pos hp.2.1]; rfl)).symm), trivial⟩⟩
      · skip
        refine blk_n ?_
        refine hK6 _ ?_; clear hK6 K6
        refine codeT.imp (σ' := [(0, _), (1, _), (2, _), (4, _), (5, _), (6, _)]) ?_ (imp_covers ⟨rfl, rfl, rfl, rfl, rfl, rfl, trivial⟩)
        refine code_seq (fun K9 hK9 => ?_)
        refine code_region ?_
        refine list_cons rfl (op_q (q_load_box1 one_3 rfl rfl (by decide)) ?_)
        refine list_cons rfl (op_q (q_assign rfl (by decide)) ?_)
        refine list_cons rfl (op_q (q_assign rfl (by decide)) ?_)
        refine list_nil ?_
        refine hK9 _ ?_; clear hK9 K9
        refine code_ret ?_
        refine ends_ret (cs := []) rfl rfl rfl rfl trivial ?_
        first
          | (have e : FbP l cc := ⟨hP, by omega, by omega⟩
             simp only [if_pos e, decide_eq_true e, pl_end, fulN_all hcc.1 h6 h3b]; done)
          | (have e : ¬ FbP l cc := fun e => by first | exact absurd e.1 (by assumption) | (have := e.2.1; have := e.2.2; omega)
             simp only [if_neg e, decide_eq_false e]; first | done | rfl)
    simp only [Bool.false_eq_true, if_true, if_false, Decidable.not_not] at h2
    (try simp only [Decidable.not_not] at h2); (try have hP := (h2 : PlnP l); have h6 := hP.1.1; have hp2 := p2_le6 (k := (l.length : Int)) (by omega)); (try have h3b : cc ≤ ((p2 l.length : Nat) : Int) - 1 := by have hx := h2; rw [Int.toNat_natCast] at hx; omega); (try have hcc : 0 ≤ cc ∧ cc ≤ 63 := by omega)
    refine list_guard_n rfl rfl rfl rfl (by decide) rfl ?_
    refine list_guard_n rfl rfl rfl rfl (by decide) rfl ?_
    refine list_guard_n rfl rfl rfl rfl (by decide) rfl ?_
    refine list_guard_n rfl rfl rfl rfl (by decide) rfl ?_
    refine list_cons rfl (op_q (q_pick rfl rfl (by decide)) ?_)
    refine list_nil ?_
    refine hK3 _ ?_; clear hK3 K3
    refine codeT.imp (σ' := [(0, _), (1, _), (2, _), (4, _), (5, _), (21, _)]) ?_ (imp_covers ⟨rfl, rfl, rfl, rfl, rfl, rfl, trivial⟩)
    refine code_cond_t rfl ?_
    refine code_seq (fun K10 hK10 => ?_)
    refine code_region ?_
    refine list_cons rfl (op_q (q_assign rfl (by decide)) ?_)
    refine list_cons rfl (op_q (q_assign rfl (by decide)) ?_)
    refine list_nil ?_
    refine hK10 _ ?_; clear hK10 K10
    refine code_ret ?_
    refine then_r ?_; clear hK2 K2
    refine ends_ret (cs := []) rfl rfl rfl rfl trivial ?_
    first
      | (have e : FbP l cc := ⟨hP, by omega, by omega⟩
         simp only [if_pos e, decide_eq_true e, pl_end, fulN_all hcc.1 h6 h3b]; done)
      | (have e : ¬ FbP l cc := fun e => by first | exact absurd e.1 (by assumption) | (have := e.2.1; have := e.2.2; omega)
         simp only [if_neg e, decide_eq_false e]; first | done | rfl)
  simp only [Bool.false_eq_true, if_true, if_false, Decidable.not_not] at h1
  (try simp only [Decidable.not_not] at h1); (try have hP := (h1 : PlnP l); have h6 := hP.1.1; have hp2 := p2_le6 (k := (l.length : Int)) (by omega)); (try have h3b : cc ≤ ((p2 l.length : Nat) : Int) - 1 := by have hx := h1; rw [Int.toNat_natCast] at hx; omega); (try have hcc : 0 ≤ cc ∧ cc ≤ 63 := by omega)
  refine list_guard_n rfl rfl rfl rfl (by decide) rfl ?_
  refine list_cons rfl (op_q (q_pick rfl rfl (by decide)) ?_)
  refine list_cons rfl (op_q (q_move rfl (by decide)) ?_)
  refine list_guard_n rfl rfl rfl rfl (by decide) rfl ?_
  refine list_guard_n rfl rfl rfl rfl (by decide) rfl ?_
  refine list_guard_n rfl rfl rfl rfl (by decide) rfl ?_
  refine list_guard_n rfl rfl rfl rfl (by decide) rfl ?_
  refine list_guard_n rfl rfl rfl rfl (by decide) rfl ?_
  refine list_cons rfl (op_q (q_pick rfl rfl (by decide)) ?_)
  refine list_nil ?_
  refine hK3 _ ?_; clear hK3 K3
  refine code_cond_t rfl ?_
  refine code_seq (fun K11 hK11 => ?_)
  refine code_region ?_
  refine list_cons rfl (op_q (q_assign rfl (by decide)) ?_)
  refine list_cons rfl (op_q (q_assign rfl (by decide)) ?_)
  refine list_nil ?_
  refine hK11 _ ?_; clear hK11 K11
  refine codeT.imp (σ' := [(0, _), (1, _), (2, _), (4, _), (5, _)]) ?_ (imp_covers ⟨rfl, rfl, rfl, rfl, rfl, trivial⟩)
  refine code_ret ?_
  refine then_r ?_; clear hK2 K2
  refine ends_ret (cs := []) rfl rfl rfl rfl trivial ?_
  first
    | (have e : FbP l cc := ⟨hP, by omega, by omega⟩
       simp only [if_pos e, decide_eq_true e, pl_end, fulN_all hcc.1 h6 h3b]; done)
    | (have e : ¬ FbP l cc := fun e => by first | exact absurd e.1 (by assumption) | (have := e.2.1; have := e.2.2; omega)
       simp only [if_neg e, decide_eq_false e]; first | done | rfl)
theorem res_agg1 {az : TypeId → Nat} {σ : St} {t u l e : Nat} {cs : List PV} (h : σ.at t = some (.box l e cs)) (haz : (az u == 0) = false) (hf : PV.flatL cs = true) (hl : cs.length = az u) : St.res az σ [.cell t u] = some [.val (.agg cs)] := by
  simp only [St.res, h, haz, hf, hl, BEq.rfl, Bool.and_self, if_true, Bool.false_eq_true, if_false]
theorem put_all {a b : List PV} {n : Nat} (ha : a.length = n) (hb : b.length = n) : putAt a 0 (PV.agg ((b.drop 0).take n)).cells = b := by
  unfold putAt PV.cells
  simp only [List.drop_zero, List.take_zero, List.nil_append, Nat.zero_add]
  rw [List.take_of_length_le (by omega), hb, List.drop_of_length_le (by omega), List.append_nil]
def wbK (l : List Int) (c : Nat) : Nat → List Int
  | 0 => l
  | k + 1 => if bitN c k then (wbK l c k).set k ((wbK l c k).getD k 0 + 1) else wbK l c k
theorem wbK_len (l : List Int) (c : Nat) : ∀ k, (wbK l c k).length = l.length
  | 0 => rfl
  | k + 1 => by unfold wbK; split <;> simp [wbK_len l c k]
theorem wbK_at (l : List Int) (c : Nat) : ∀ (k j : Nat), k ≤ j → (wbK l c k).getD j 0 = l.getD j 0
  | 0, j, _ => rfl
  | k + 1, j, h => by
    have ih := wbK_at l c k j (by omega)
    unfold wbK
    split
    · rw [List.getD_eq_getElem?_getD, List.getElem?_set, if_neg (by omega), ← List.getD_eq_getElem?_getD]; exact ih
    · exact ih
theorem wbK_le (l : List Int) (c : Nat) {m : Int} (h : ∀ j, 0 ≤ l.getD j 0 ∧ l.getD j 0 ≤ m) : ∀ (k j : Nat), 0 ≤ (wbK l c k).getD j 0 ∧ (wbK l c k).getD j 0 ≤ m + 1
  | 0, j => by have := h j; unfold wbK; omega
  | k + 1, j => by
    have ih := wbK_le l c h k j
    have hk := wbK_at l c k k (Nat.le_refl _)
    have hm := h k
    unfold wbK
    split
    · rw [List.getD_eq_getElem?_getD, List.getElem?_set]
      by_cases e : k = j
      · rw [if_pos e]
        split
        · simp only [Option.getD_some]; omega
        · simp only [Option.getD_none]; omega
      · rw [if_neg e, ← List.getD_eq_getElem?_getD]; exact ih
    · exact ih
theorem wbK_put {l : List Int} {c k o : Nat} {v : Int} (ho : o = k) (hk : k < l.length) (hb : bitN c k = true) (hv : v = (wbK l c k).getD k 0 + 1) : putAt ((wbK l c k).map (PV.int .i64)) o [PV.int .i64 v] = (wbK l c (k + 1)).map (PV.int .i64) := by
  subst ho; subst hv
  have h1 := put_map1 (PV.int .i64) (wbK l c o) (k := o) (by rw [wbK_len]; exact hk) ((wbK l c o).getD o 0 + 1)
  rw [Nat.mul_one] at h1
  rw [wbK, if_pos hb]
  exact h1
set_option maxRecDepth 4000 in
set_option maxHeartbeats 1000000 in
theorem impl_withBars (l : List Int) (c m : Int) (hl : l.length = 7) (hm : ∀ j, 0 ≤ l.getD j 0 ∧ l.getD j 0 ≤ m) (hm2 : m ≤ 1099511627776) (hc : 0 ≤ c ∧ c ≤ 127) : PCalls Try.prog 53 [.agg (l.map (.int .i64)), .int .i64 c] (· = [.val (.agg ((wbK l c.toNat 7).map (.int .i64)))]) := by
  refine pcalls_of_code (n := 19) az Try.func53 (by kernel_rfl) rfl rfl (Nat.le_of_ble_eq_true rfl) (by intro t u h; simp [Try.f53] at h; obtain ⟨_, rfl⟩ := h <;> first | exact resTy_agg agg_47 (by decide)) ?_
  have hfl := flat_map (PV.int .i64) (fun _ => rfl) l
  rw [show inits false 0 [.agg (l.map (.int .i64)), .int .i64 c] = [(0, SV.val (.agg (l.map (.int .i64)))), (1, SV.val (.int .i64 c))] from by simp [inits, PV.start, PV.flat, hfl]]
  refine code_seq (fun K1 hK1 => ?_)
  refine code_region ?_
  refine list_cons rfl (op_box rfl (.inl ⟨rfl, hfl⟩) (by decide) (by decide) rfl ?_)
  refine list_cons rfl (op_alloc zt_47 (by decide) (by decide) rfl ?_)
  refine list_nil ?_
  refine hK1 _ ?_; clear hK1 K1
  refine code_seq (fun K2 hK2 => ?_)
  refine code_seq (fun K3 hK3 => ?_)
  refine code_region ?_
  refine list_cons rfl (op_q (q_move rfl (by decide)) ?_)
  refine list_nil ?_
  refine hK3 _ ?_; clear hK3 K3
  refine code_block ?_
  refine code_loop (X := List PV × Int) (fun x => [(0, .val (.agg (l.map (.int .i64)))), (1, .val (.int .i64 c)), (2, .box 2 47 x.1), (4, .box 4 47 (List.replicate 7 (.int .i64 0))), (6, .val (.int .i64 x.2))]) (fun x => 0 ≤ x.2 ∧ x.2 ≤ 7 ∧ x.1 = (wbK l c.toNat x.2.toNat).map (.int .i64)) (fun x => (7 - x.2).toNat) (_, _) (imp_covers ⟨rfl, rfl, rfl, rfl, rfl, trivial⟩) ?_ ?_
  · (try dsimp only)
    exact ⟨by omega, by omega, rfl⟩
  · intro x hI
    obtain ⟨counts_2_c, t6⟩ := x
    replace hI : 0 ≤ t6 ∧ t6 ≤ 7 ∧ counts_2_c = (wbK l c.toNat t6.toNat).map (.int .i64) := hI
    show codeT _ _ _ [(0, .val (.agg (l.map (.int .i64)))), (1, .val (.int .i64 c)), (2, .box 2 47 counts_2_c), (4, .box 4 47 (List.replicate 7 (.int .i64 0))), (6, .val (.int .i64 t6))] _
    obtain ⟨i1, i2, rfl⟩ := hI
    have hle := wbK_le l c.toNat hm t6.toNat t6.toNat
    refine code_seq (fun K4 hK4 => ?_)
    refine code_region ?_
    refine list_cons rfl (op_q (q_lt rfl rfl (by decide)) ?_)
    refine list_nil ?_
    refine hK4 _ ?_; clear hK4 K4
    refine code_seq (fun K5 hK5 => ?_)
    refine code_cond_d rfl (fun h1 => ?_) (fun h1 => ?_)
    · skip
      (try simp only [Decidable.not_not] at h1)
      refine code_skip ?_
      refine hK5 _ ?_; clear hK5 K5
      refine code_seq (fun K6 hK6 => ?_)
      refine code_block ?_
      refine code_seq (fun K7 hK7 => ?_)
      refine code_region ?_
      refine list_cons rfl (op_q (q_move rfl (by decide)) ?_)
      refine list_cons rfl (op_q (q_assign rfl (by decide)) ?_)
      refine list_nil ?_
      refine hK7 _ ?_; clear hK7 K7
      refine code_seq (fun K8 hK8 => ?_)
      refine code_region ?_
      refine list_cons rfl (op_q (q_move rfl (by decide)) ?_)
      refine list_cons rfl (op_q (q_move rfl (by decide)) ?_)
      refine list_cons rfl (op_call _ (impl_hasBar _ _ (by omega) (by omega)) rfl rfl (by decide) (by decide) (by decide) rfl ?_)
      rintro _ rfl
      refine list_nil ?_
      refine hK8 _ ?_; clear hK8 K8
      refine codeT.imp (σ' := [(0, _), (1, _), (2, _), (4, _), (5, _), (6, _), (11, _)]) ?_ (imp_covers ⟨rfl, rfl, rfl, rfl, rfl, rfl, rfl, trivial⟩)
      refine code_cond_d rfl (fun h2 => ?_) (fun h2 => ?_)
      · skip
        (try simp only [Decidable.not_not] at h2)
        refine code_region ?_
        refine list_cons rfl (op_q (q_move rfl (by decide)) ?_)
        refine list_cons rfl (op_q (q_indexAddr_arr arr_47 rfl rfl rfl (by omega) (by omega) (by decide)) ?_)
        refine list_cons rfl (op_q (q_load one_3 2 rfl rfl rfl (by first | exact get_map1 (PV.int .i64) 0 (wbK l c.toNat t6.toNat) (by rw [wbK_len]; omega) | (simp only [wbK_len, List.length_map]; omega)) (by decide)) ?_)
        refine list_cons rfl (op_q (by first | exact q_addI rfl rfl (by decide) (by omega) (by omega) | exact q_ib rfl rfl rfl (by decide)) ?_)
        refine list_cons rfl (op_q (q_indexAddr_arr arr_47 rfl rfl rfl (by omega) (by omega) (by decide)) ?_)
        refine list_cons rfl (op_store (one_3).2 2 [2] (by intro t ht; simp only [List.mem_cons, List.not_mem_nil, or_false] at ht; subst ht; rfl) (.inl rfl) rfl rfl rfl rfl rfl rfl (by first | decide | omega | exact Nat.le_refl _ | (simp only [wbK_len, List.length_map]; omega) | (simp; done) | (simp; omega)) (by decide) rfl ?_)
        refine list_nil ?_
        refine blk_n ?_
        refine hK6 _ ?_; clear hK6 K6
        refine codeT.imp (σ' := [(0, _), (1, _), (2, _), (4, _), (5, _), (6, _)]) ?_ (imp_covers ⟨rfl, rfl, rfl, rfl, rfl, rfl, trivial⟩)
        refine code_region ?_
        refine list_cons rfl (op_q (by first | exact q_addI rfl rfl (by decide) (by omega) (by omega) | exact q_ib rfl rfl rfl (by decide)) ?_)
        refine list_cons rfl (op_q (q_move rfl (by decide)) ?_)
        refine list_nil ?_
        refine then_n ⟨(_, _), imp_covers ⟨rfl, rfl, rfl, rfl, rfl, trivial⟩, ?_, ?_⟩
        · (try dsimp only)
          refine ⟨by omega, by omega, ?_⟩
          rw [show (t6 + 1).toNat = t6.toNat + 1 by omega]
          exact wbK_put (by omega) (by omega) h2 rfl
        · (try dsimp only); omega
      (try simp only [Decidable.not_not] at h2)
      refine code_skip ?_
      refine blk_n ?_
      refine hK6 _ ?_; clear hK6 K6
      refine code_region ?_
      refine list_cons rfl (op_q (by first | exact q_addI rfl rfl (by decide) (by omega) (by omega) | exact q_ib rfl rfl rfl (by decide)) ?_)
      refine list_cons rfl (op_q (q_move rfl (by decide)) ?_)
      refine list_nil ?_
      refine then_n ⟨(_, _), imp_covers ⟨rfl, rfl, rfl, rfl, rfl, trivial⟩, ?_, ?_⟩
      · (try dsimp only)
        refine ⟨by omega, by omega, ?_⟩
        rw [show (t6 + 1).toNat = t6.toNat + 1 by omega, wbK, if_neg h2]
      · (try dsimp only); omega
    (try simp only [Decidable.not_not] at h1)
    refine code_exit ?_
    refine then_x ?_; clear hK5 K5
    refine then_x ?_
    refine blk_hit ?_
    refine hK2 _ ?_; clear hK2 K2
    refine code_seq (fun K9 hK9 => ?_)
    refine code_region ?_
    refine list_cons rfl (op_q (q_load_agg agg_47 2 (.inr ⟨rfl, _, rfl⟩) rfl rfl (by first | exact get_map1 (PV.int .i64) 0 (wbK l c.toNat t6.toNat) (by rw [wbK_len]; omega) | (simp only [wbK_len, List.length_map]; omega)) (by first | rfl | exact flat_part (flat_map _ (fun _ => rfl) _) _ _) (by decide)) ?_)
    refine list_cons rfl (op_store (agg_47).2 4 [4] (by intro t ht; simp only [List.mem_cons, List.not_mem_nil, or_false] at ht; subst ht; rfl) (.inr ⟨rfl, _, rfl⟩) rfl rfl rfl rfl (by first | rfl | exact flat_part (flat_map _ (fun _ => rfl) _) _ _ | exact flat_map _ (fun _ => rfl) _) (by first | rfl | (simp [PV.cells, wbK_len, hl]; done)) (by first | decide | omega | exact Nat.le_refl _ | (simp only [wbK_len, List.length_map]; omega) | (simp; done) | (simp; omega)) (by decide) rfl ?_)
    refine list_nil ?_
    refine hK9 _ ?_; clear hK9 K9
    refine codeT.imp (σ' := [(0, _), (1, _), (2, _), (4, _), (6, _)]) ?_ (imp_covers ⟨rfl, rfl, rfl, rfl, rfl, trivial⟩)
    refine code_ret ?_
    refine ends_ret (cs := []) (res_agg1 (cs := (wbK l c.toNat 7).map (.int .i64)) (congrArg (fun z => some (SV.box 4 47 z)) (by rw [show t6.toNat = 7 by omega]; exact put_all (n := 7) (by simp) (by simp [wbK_len, hl]))) rfl (flat_map _ (fun _ => rfl) _) (by simp [wbK_len, hl]; rfl)) rfl rfl rfl trivial ?_
    rfl
theorem sen_len8 (fr : List (Int × Int)) (k : Nat) : (sen fr k).length = k := senK_len _ _ _ _
theorem sen_at8 (fr : List (Int × Int)) {k x : Nat} (h : x < k) : (sen fr k).getD x 0 = ((orN fr x fr.length : Nat) : Int) := by
  unfold sen; rw [senK_at h, if_neg (Nat.not_lt_zero _)]
theorem wbK_get8 (l : List Int) (c : Nat) : ∀ (m j : Nat), m ≤ l.length → (wbK l c m).getD j 0 = l.getD j 0 + if j < m ∧ bitN c j = true then 1 else 0
  | 0, j, _ => by rw [if_neg (fun z => absurd z.1 (Nat.not_lt_zero _))]; unfold wbK; omega
  | m + 1, j, h => by
    have ih := wbK_get8 l c m j (by omega)
    have hm := wbK_at l c m m (Nat.le_refl _)
    have hl := wbK_len l c m
    unfold wbK
    by_cases e : j = m
    · subst e
      split
      · rename_i hb
        rw [if_pos ⟨Nat.lt_succ_self j, hb⟩, List.getD_eq_getElem?_getD, List.getElem?_set, if_pos rfl, if_pos (by omega), Option.getD_some, hm]
      · rename_i hb
        rw [if_neg (fun z => hb z.2), hm]; omega
    · have e2 : (j < m + 1 ∧ bitN c j = true) = (j < m ∧ bitN c j = true) := propext ⟨fun z => ⟨by omega, z.2⟩, fun z => ⟨by omega, z.2⟩⟩
      simp only [e2]
      split
      · rw [List.getD_eq_getElem?_getD, List.getElem?_set, if_neg (fun k => e k.symm), ← List.getD_eq_getElem?_getD]; exact ih
      · exact ih
def rw8 (l : List Int) (j : Nat) : List Int := (l.drop (j * 7)).take 7
theorem rw8_len {l : List Int} {j : Nat} (h : j * 7 + 7 ≤ l.length) : (rw8 l j).length = 7 := by simp [rw8]; omega
theorem rw8_get (l : List Int) (j : Nat) {b : Nat} (hb : b < 7) : (rw8 l j).getD b 0 = l.getD (j * 7 + b) 0 := by
  unfold rw8
  rw [List.getD_eq_getElem?_getD, List.getElem?_take, if_pos hb, List.getElem?_drop, ← List.getD_eq_getElem?_getD]
theorem duK_le (fr : List (Int × Int)) (K i m s : Nat) (hi : i + 1 ≤ 13) : 0 ≤ (gK (duO fr) K i m).getD s 0 ∧ (gK (duO fr) K i m).getD s 0 ≤ 13 := by
  by_cases h : s < K
  · rw [gK_at h]
    have h1 := duO_le fr s i
    have h2 := duO_le fr s (i + 1)
    split <;> omega
  · rw [big_get (by rw [gK_len]; omega)]; omega
theorem rw8_le (fr : List (Int × Int)) (K i m j b : Nat) (hi : i + 1 ≤ 13) : 0 ≤ (rw8 (gK (duO fr) K i m) j).getD b 0 ∧ (rw8 (gK (duO fr) K i m) j).getD b 0 ≤ 13 := by
  by_cases hb : b < 7
  · rw [rw8_get _ j hb]; exact duK_le fr K i m _ hi
  · rw [big_get (by simp [rw8]; omega)]; omega
theorem bit1 (c b : Nat) : (shN c b &&& 1) = if bitN c b = true then 1 else 0 := by
  rw [Nat.and_one_is_mod]
  unfold bitN
  by_cases h : shN c b % 2 = 1
  · rw [h]; rfl
  · have : shN c b % 2 = 0 := by omega
    rw [this]; rfl
theorem bt_bit {c : Int} (hc : 0 ≤ c ∧ c ≤ 63) {x : Nat} (hx : x < 6) : (shN c.toNat x &&& 1) = if bt c x then 1 else 0 := by
  have key : ∀ i : Fin 64, ∀ x : Fin 6, (shN i.val x.val &&& 1) = if bt ((i.val : Nat) : Int) x.val then 1 else 0 := by decide +kernel
  obtain ⟨n, rfl⟩ : ∃ n : Nat, c = n := ⟨c.toNat, by omega⟩
  exact key ⟨n, by omega⟩ ⟨x, hx⟩
theorem duK_skip {fr : List (Int × Int)} {K i x : Nat} (hK : K ≤ 42) (hc : 0 ≤ (fr.getD i (0, 0)).1 ∧ (fr.getD i (0, 0)).1 ≤ 63) (h : ¬ bt (fr.getD i (0, 0)).1 x) : gK (duO fr) K i ((x + 1) * 7) = gK (duO fr) K i (x * 7) := by
  unfold gK
  apply List.map_congr_left
  intro s hs
  have hs := List.mem_range.1 hs
  by_cases e : s < x * 7
  · rw [if_pos e, if_pos (by omega)]
  · rw [if_neg e]
    by_cases e2 : s < (x + 1) * 7
    · rw [if_pos e2, duO, duS, show s / 7 = x by omega, bt_bit hc (by omega), if_neg h, Nat.zero_mul, Nat.add_zero]
    · rw [if_neg e2]
theorem duK_row {fr : List (Int × Int)} {k i j : Nat} (hk : k ≤ 6) (hc : 0 ≤ (fr.getD i (0, 0)).1 ∧ (fr.getD i (0, 0)).1 ≤ 63) (h : j < k) (hb : bt (fr.getD i (0, 0)).1 j) : putAt ((gK (duO fr) (k * 7) i (j * 7)).map (PV.int .i64)) (j * 7) ((wbK (rw8 (gK (duO fr) (k * 7) i (j * 7)) j) (fr.getD i (0, 0)).2.toNat 7).map (PV.int .i64)) = (gK (duO fr) (k * 7) i ((j + 1) * 7)).map (PV.int .i64) := by
  have hl : (wbK (rw8 (gK (duO fr) (k * 7) i (j * 7)) j) (fr.getD i (0, 0)).2.toNat 7).length = 7 := by rw [wbK_len, rw8_len (by rw [gK_len]; omega)]
  unfold putAt
  rw [← List.map_take, ← List.map_drop, ← List.map_append, ← List.map_append, List.length_map, hl]
  congr 1
  apply List.ext_getElem
  · simp only [List.length_append, List.length_take, List.length_drop, hl, gK_len]; omega
  · intro s h1 h2
    rw [gK_len] at h2
    have hg : ∀ (l : List Int) (h : s < l.length), l[s] = l.getD s 0 := fun l h => by simp [h]
    rw [hg, hg, gK_at h2]
    by_cases a : s < j * 7
    · rw [if_pos (by omega), List.append_assoc, List.getD_eq_getElem?_getD, List.getElem?_append_left (by rw [List.length_take, gK_len]; omega), List.getElem?_take, if_pos a, ← List.getD_eq_getElem?_getD, gK_at h2, if_pos a]
    · by_cases b : s < j * 7 + 7
      · obtain ⟨r, rfl⟩ : ∃ r, s = j * 7 + r := ⟨s - j * 7, by omega⟩
        have hr : r < 7 := by omega
        rw [if_pos (by omega), List.append_assoc, List.getD_eq_getElem?_getD, List.getElem?_append_right (by rw [List.length_take, gK_len]; omega), List.getElem?_append_left (by rw [List.length_take, gK_len, hl]; omega), List.length_take, gK_len, show j * 7 + r - min (j * 7) (k * 7) = r by omega, ← List.getD_eq_getElem?_getD, wbK_get8 _ _ 7 r (by rw [rw8_len (by rw [gK_len]; omega)]; exact Nat.le_refl _), rw8_get _ j hr, gK_at h2, if_neg a, duO, duS, show (j * 7 + r) / 7 = j by omega, show (j * 7 + r) % 7 = r by omega, bt_bit hc (by omega), if_pos hb, Nat.one_mul, bit1]
        by_cases hq : bitN (fr.getD i (0, 0)).2.toNat r = true
        · rw [if_pos ⟨hr, hq⟩, if_pos hq]; rfl
        · rw [if_neg (fun z => hq z.2), if_neg hq]; rfl
      · rw [if_neg (by omega), List.getD_eq_getElem?_getD, List.getElem?_append_right (by rw [List.length_append, List.length_take, gK_len, hl]; omega), List.getElem?_drop, List.length_append, List.length_take, gK_len, hl, show j * 7 + 7 + (s - (min (j * 7) (k * 7) + 7)) = s by omega, ← List.getD_eq_getElem?_getD, gK_at h2, if_neg a]
theorem duK_ge {fr : List (Int × Int)} {k i m : Nat} (h : k * 7 ≤ m) : gK (duO fr) (k * 7) i m = gK (duO fr) (k * 7) (i + 1) 0 := by
  unfold gK
  apply List.map_congr_left
  intro s hs
  have := List.mem_range.1 hs
  rw [if_pos (by omega), if_neg (Nat.not_lt_zero _)]
set_option maxRecDepth 8000 in
set_option maxHeartbeats 4000000 in
theorem impl_DutyOf (k : Int) (fr : List (Int × Int)) (hf : fr.length ≤ 1048576) : PCalls Try.prog 12 [.int .i64 k, .sl fr.length (fl fr)] (· = [.own 0 47 7 (if GdP k fr then k.toNat else 0) ((if GdP k fr then duL fr k.toNat else []).map (.int .i64)), .val (.bool (decide (GdP k fr)))]) := by
  refine pcalls_of_code (n := 45) az Try.func12 (by kernel_rfl) rfl rfl (Nat.le_of_ble_eq_true rfl) (by intro t u h; simp [Try.f12] at h) ?_
  refine code_seq (fun K1 hK1 => ?_)
  refine code_region ?_
  refine list_cons rfl (op_q (q_assign rfl (by decide)) ?_)
  refine list_cons rfl (op_q (q_assign rfl (by decide)) ?_)
  refine list_nil ?_
  refine hK1 _ ?_; clear hK1 K1
  refine code_seq (fun K2 hK2 => ?_)
  refine code_seq (fun K3 hK3 => ?_)
  refine code_region ?_
  refine list_cons rfl (op_q (q_move rfl (by decide)) ?_)
  refine list_cons rfl (op_q (q_move rfl (by decide)) ?_)
  refine list_cons rfl (op_call _ (impl_IsFrame _ _ (by first | omega | (simp; omega))) rfl rfl (by decide) (by decide) (by decide) rfl ?_)
  rintro _ rfl
  refine list_cons rfl (op_q (q_move rfl (by decide)) ?_)
  refine list_cons rfl (op_q (q_extract rfl rfl (by decide)) ?_)
  refine list_cons rfl (op_q (q_extract rfl rfl (by decide)) ?_)
  refine list_cons rfl (op_q (q_assign rfl (by decide)) ?_)
  refine list_cons rfl (op_q (q_assign rfl (by decide)) ?_)
  refine list_nil ?_
  refine hK3 _ ?_; clear hK3 K3
  refine codeT.imp (σ' := [(0, _), (1, _), (4, _), (5, _), (6, _)]) ?_ (imp_covers ⟨rfl, rfl, rfl, rfl, rfl, trivial⟩)
  refine code_seq (fun K4 hK4 => ?_)
  refine code_region ?_
  refine list_cons rfl (op_q (q_move rfl (by decide)) ?_)
  refine list_cons rfl (op_q (by first | exact q_notd rfl (by decide) | exact q_not rfl (by decide)) ?_)
  refine list_nil ?_
  refine hK4 _ ?_; clear hK4 K4
  refine code_cond_d rfl (fun h1 => ?_) (fun h1 => ?_)
  · skip
    (try simp only [Decidable.not_not] at h1); (try have hg := (h1 : GdP k fr); try have hk := hg.1; try have hF := hg.2; try have h12 := hF.1; try have hfl := fl_len fr); (try have hcc : 0 ≤ (fr.getD t25.toNat (0, 0)).1 ∧ (fr.getD t25.toNat (0, 0)).1 ≤ 63 := (hbd (by omega)).1); (try have hbb := (hbd (by omega)).2)
    refine code_seq (fun K5 hK5 => ?_)
    refine code_region ?_
    refine list_cons rfl (op_buildSlice sl_33 (parts := []) rfl rfl rfl (by decide) (by decide) (by decide) rfl ?_)
    refine list_cons rfl (op_q (q_assign rfl (by decide)) ?_)
    refine list_cons rfl (op_q (q_assign rfl (by decide)) ?_)
    refine list_nil ?_
    refine hK5 _ ?_; clear hK5 K5
    refine code_ret ?_
    refine then_r ?_; clear hK2 K2
    refine ends_ret (cs := []) rfl rfl rfl rfl trivial ?_
    first
      | (rw [show t25.toNat = fr.length by omega]; simp only [if_pos hg, decide_eq_true hg]; rfl)
      | (have e : ¬ GdP k fr := by assumption
         simp only [if_neg e, decide_eq_false e]; rfl)
  (try simp only [Decidable.not_not] at h1); (try have hg := (h1 : GdP k fr); try have hk := hg.1; try have hF := hg.2; try have h12 := hF.1; try have hfl := fl_len fr); (try have hcc : 0 ≤ (fr.getD t25.toNat (0, 0)).1 ∧ (fr.getD t25.toNat (0, 0)).1 ≤ 63 := (hbd (by omega)).1); (try have hbb := (hbd (by omega)).2)
  refine code_skip ?_
  refine hK2 _ ?_; clear hK2 K2
  refine code_seq (fun K6 hK6 => ?_)
  refine code_region ?_
  refine list_cons rfl (op_q (q_move rfl (by decide)) ?_)
  refine list_cons rfl (op_makeI sl_33 rfl rfl (by omega) (by omega) (by decide) (by decide) rfl ?_)
  refine list_cons rfl (op_alloc zt_33 (by decide) (by decide) rfl ?_)
  refine list_cons rfl (op_storeS (one_33).2 rfl rfl (by decide) rfl ?_)
  refine list_nil ?_
  refine hK6 _ ?_; clear hK6 K6
  refine codeT.imp (σ' := [(0, _), (1, _), (4, _), (5, _), (6, _), (8, .boxS 8 33 22 47 7 k.toNat ((gK (duO fr) (k.toNat * 7) 0 0).map (.int .i64)))]) ?_ (imp_covers ⟨rfl, rfl, rfl, rfl, rfl, (congrArg (fun z => some (SV.boxS 8 33 22 47 7 k.toNat z)) ((zers7 k.toNat).trans (congrArg (List.map _) (gK_zero (fun _ => rfl) (k.toNat * 7))))), trivial⟩)
  refine code_seq (fun K7 hK7 => ?_)
  refine code_seq (fun K8 hK8 => ?_)
  refine code_region ?_
  refine list_cons rfl (op_q (q_move rfl (by decide)) ?_)
  refine list_cons rfl (op_q (q_len_sl Try.underlying24 rfl rfl (by decide)) ?_)
  refine list_cons rfl (op_q (q_move rfl (by decide)) ?_)
  refine list_nil ?_
  refine hK8 _ ?_; clear hK8 K8
  refine code_block ?_
  refine code_loop (X := PV × Bool × Bool × Nat × List PV × Int) (fun x => [(0, .val (.int .i64 k)), (1, .par 1 (.sl fr.length (fl fr))), (4, .val x.1), (5, .val (.bool x.2.1)), (6, .val (.bool x.2.2.1)), (8, .boxS 8 33 22 47 7 x.2.2.2.1 x.2.2.2.2.1), (23, .par 1 (.sl fr.length (fl fr))), (24, .val (.int .i64 fr.length)), (25, .val (.int .i64 x.2.2.2.2.2))]) (fun x => GdP k fr ∧ 0 ≤ x.2.2.2.2.2 ∧ x.2.2.2.2.2 ≤ fr.length ∧ x.2.2.2.1 = k.toNat ∧ x.2.2.2.2.1 = (gK (duO fr) (k.toNat * 7) x.2.2.2.2.2.toNat 0).map (.int .i64)) (fun x => (fr.length - x.2.2.2.2.2).toNat) (_, _, _, _, _, _) (imp_covers ⟨rfl, rfl, rfl, rfl, rfl, rfl, rfl, rfl, rfl, trivial⟩) ?_ ?_
  · (try dsimp only)
    exact ⟨hg, by omega, by omega, rfl, rfl⟩
  · intro x hI
    obtain ⟨t4_p, t5, is, duty_n, duty_c, t25⟩ := x
    replace hI : GdP k fr ∧ 0 ≤ t25 ∧ t25 ≤ fr.length ∧ duty_n = k.toNat ∧ duty_c = (gK (duO fr) (k.toNat * 7) t25.toNat 0).map (.int .i64) := hI
    show codeT _ _ _ [(0, .val (.int .i64 k)), (1, .par 1 (.sl fr.length (fl fr))), (4, .val t4_p), (5, .val (.bool t5)), (6, .val (.bool is)), (8, .boxS 8 33 22 47 7 duty_n duty_c), (23, .par 1 (.sl fr.length (fl fr))), (24, .val (.int .i64 fr.length)), (25, .val (.int .i64 t25))] _
    obtain ⟨hg, i1, i2, rfl, rfl⟩ := hI
    have hk := hg.1
    have hF := hg.2
    have h12 := hF.1
    have hfl := fl_len fr
    have hk42 : k.toNat * 7 ≤ 42 := by omega
    have hbd := fun h : t25 < fr.length => hF.bd hk.2 (j := t25.toNat) (by omega)
    refine code_seq (fun K9 hK9 => ?_)
    refine code_region ?_
    refine list_cons rfl (op_q (q_lt rfl rfl (by decide)) ?_)
    refine list_nil ?_
    refine hK9 _ ?_; clear hK9 K9
    refine code_seq (fun K10 hK10 => ?_)
    refine code_cond_d rfl (fun h2 => ?_) (fun h2 => ?_)
    · skip
      (try simp only [Decidable.not_not] at h2); (try have hg := (h2 : GdP k fr); try have hk := hg.1; try have hF := hg.2; try have h12 := hF.1; try have hfl := fl_len fr); (try have hcc : 0 ≤ (fr.getD t25.toNat (0, 0)).1 ∧ (fr.getD t25.toNat (0, 0)).1 ≤ 63 := (hbd (by omega)).1); (try have hbb := (hbd (by omega)).2)
      refine code_skip ?_
      refine hK10 _ ?_; clear hK10 K10
      refine code_seq (fun K11 hK11 => ?_)
      refine code_block ?_
      refine code_seq (fun K12 hK12 => ?_)
      refine code_region ?_
      refine list_cons rfl (op_q (q_indexAddr_rd sl_24 rfl (.inl ⟨_, rfl, rfl⟩) rfl (by omega) (by omega) (by decide)) ?_)
      refine list_cons rfl (op_q (q_load_rd_aggE agg_62 rfl (.inl ⟨_, rfl⟩) (by first | decide | omega | exact Nat.le_refl _ | (simp; done) | (simp; omega)) (fl_at fr t25.toNat (by omega)) rfl (by decide)) ?_)
      refine list_cons rfl (op_alloc zt_62 (by decide) (by decide) rfl ?_)
      refine list_cons rfl (op_store (agg_62).2 10 [10] (by intro t ht; simp only [List.mem_cons, List.not_mem_nil, or_false] at ht; subst ht; rfl) (.inr ⟨rfl, _, rfl⟩) rfl rfl rfl rfl (by first | rfl | exact flat_part (flat_map _ (fun _ => rfl) _) _ _ | exact flat_map _ (fun _ => rfl) _) (by first | rfl | (show ((wbK _ _ 7).map (PV.int .i64)).length = 7; rw [List.length_map, wbK_len, rw8_len (by rw [gK_len]; omega)])) (by decide) (by decide) rfl ?_)
      refine list_nil ?_
      refine hK12 _ ?_; clear hK12 K12
      refine codeT.imp (σ' := [(0, _), (1, _), (4, _), (5, _), (6, _), (8, _), (10, _), (23, _), (24, _), (25, _)]) ?_ (imp_covers ⟨rfl, rfl, rfl, rfl, rfl, rfl, rfl, rfl, rfl, rfl, trivial⟩)
      refine code_seq (fun K13 hK13 => ?_)
      refine code_region ?_
      refine list_cons rfl (op_q (q_fieldAddr fi_62_0 rfl rfl (by decide)) ?_)
      refine list_cons rfl (op_q (q_load one_3 10 rfl rfl rfl (by first | rfl | exact get_map1 _ 0 _ (by first | omega | (simp; omega))) (by decide)) ?_)
      refine list_cons rfl (op_call _ (placesIn_c _) rfl rfl (by decide) (by decide) (by decide) rfl ?_)
      rintro _ rfl
      refine listT.imp ?_ imp_unfrz
      refine list_nil ?_
      refine hK13 _ ?_; clear hK13 K13
      refine codeT.imp (σ' := [(0, _), (1, _), (4, _), (5, _), (6, _), (8, .boxS 8 33 22 47 7 k.toNat ((gK (duO fr) (k.toNat * 7) t25.toNat (pl (fr.getD t25.toNat (0, 0)).1 0 * 7)).map (.int .i64))), (10, _), (23, _), (24, _), (25, _), (31, _)]) ?_ (imp_covers ⟨rfl, rfl, rfl, rfl, rfl, (congrArg (fun z => some (SV.boxS 8 33 22 47 7 k.toNat (List.map (PV.int .i64) z))) (skipN (g := fun x => gK (duO fr) (k.toNat * 7) t25.toNat (x * 7)) (Nat.zero_le _) (fun x h1 h2 => duK_skip hk42 hcc (pl_zero hcc x h1 h2))).symm), rfl, rfl, rfl, rfl, rfl, trivial⟩)
      refine code_block ?_
      refine code_rangeFunc (placesIn_it (fr.getD t25.toNat (0, 0)).1 hcc) ((fun (s0 s1 s4 s5 s6 s10 s23 s24 s25 : SV) (i : Nat) => ([(0, s0), (1, s1), (4, s4), (5, s5), (6, s6), (8, .boxS 8 33 22 47 7 k.toNat ((gK (duO fr) (k.toNat * 7) t25.toNat (pl (fr.getD t25.toNat (0, 0)).1 i * 7)).map (.int .i64))), (10, s10), (23, s23), (24, s24), (25, s25)] : St)) _ _ _ _ _ _ _ _ _) (fun i => True) (trivial) rfl rfl rfl (by decide) rfl (fun _ _ => ⟨rfl, rfl⟩) (fun _ => rfl) rfl rfl (imp_covers ⟨rfl, rfl, rfl, rfl, rfl, rfl, rfl, rfl, rfl, rfl, trivial⟩) (fun i hi hIi => ?_) (fun hIi => ?_)
      · intro K14 hK14
        refine codeT.imp (σ' := [(32, .val (.int .i64 ((pl (fr.getD t25.toNat (0, 0)).1 i : Nat) : Int))), (0, _), (1, _), (4, _), (5, _), (6, _), (8, _), (10, _), (23, _), (24, _), (25, _)]) ?_ (imp_covers ⟨rfl, rfl, rfl, rfl, rfl, rfl, rfl, rfl, rfl, rfl, rfl, trivial⟩)
        have hp := pl_ok hcc hi
        have hlt := bt_lt (n := k.toNat) hcc.1 hg.take6 (hF.2 t25.toNat (by omega)).1.2 hp.1 hp.2.1
        refine code_region ?_
        refine list_cons rfl (op_q (q_assign rfl (by decide)) ?_)
        refine list_nil ?_
        refine hK14 _ rfl ?_; clear hK14 K14
        refine codeT.imp (σ' := [(0, _), (1, _), (4, _), (5, _), (6, _), (8, _), (10, _), (11, _), (23, _), (24, _), (25, _), (32, _)]) ?_ (imp_covers ⟨rfl, rfl, rfl, rfl, rfl, rfl, rfl, rfl, rfl, rfl, rfl, rfl, trivial⟩)
        refine code_block ?_
        refine any_start fun ob3_0 => ?_
        refine any_op (rd := [8]) ob3_0 rfl rfl rfl (anyT_quiet [(8, _)] ⟨rfl, trivial⟩ rfl (q_loadS one_33 rfl (by decide))) (fun ob3_1 => ?_)
        refine any_op (rd := [11]) ob3_1 rfl rfl rfl (anyT_quiet [(11, _)] ⟨rfl, trivial⟩ rfl (q_move rfl (by decide))) (fun ob3_2 => ?_)
        refine any_op (rd := [8]) ob3_2 rfl rfl rfl (anyT_quiet [(8, _)] ⟨rfl, trivial⟩ rfl (q_loadS one_33 rfl (by decide))) (fun ob3_3 => ?_)
        refine any_op (rd := [11]) ob3_3 rfl rfl rfl (anyT_quiet [(11, _)] ⟨rfl, trivial⟩ rfl (q_move rfl (by decide))) (fun ob3_4 => ?_)
        refine any_op (rd := [35, 36]) ob3_4 rfl rfl rfl (anyT_quiet [(35, _), (36, _)] ⟨rfl, rfl, trivial⟩ rfl (q_indexAddr_own sl_33 rfl rfl (by omega) (by omega) (by decide))) (fun ob3_5 => ?_)
        refine any_op (rd := [37, 35]) ob3_5 rfl rfl rfl (anyT_quiet [(37, _), (35, _)] ⟨rfl, rfl, trivial⟩ rfl (q_load_agg agg_47 35 (.inl rfl) rfl rfl (by first | exact Nat.le_of_ble_eq_true rfl | omega | (simp only [List.length_map, gK_len]; omega) | rfl) (by first | rfl | exact flat_part (flat_map _ (fun _ => rfl) _) _ _) (by decide))) (fun ob3_6 => ?_)
        refine any_op (rd := [10]) ob3_6 rfl rfl rfl (anyT_quiet [(10, _)] ⟨rfl, trivial⟩ rfl (q_fieldAddr fi_62_1 rfl rfl (by decide))) (fun ob3_7 => ?_)
        refine any_op (rd := [39, 10]) ob3_7 rfl rfl rfl (anyT_quiet [(39, _), (10, _)] ⟨rfl, rfl, trivial⟩ rfl (q_load one_3 10 rfl rfl rfl (by first | exact Nat.le_of_ble_eq_true rfl | omega | (simp only [List.length_map, gK_len]; omega) | rfl) (by decide))) (fun ob3_8 => ?_)
        refine any_op (rd := [38, 40]) ob3_8 rfl rfl rfl (fun σ hag hfr => by have e38 : σ.at 38 = some _ := (hag 38 (by decide)).trans rfl; have e40 : σ.at 40 = some _ := (hag 40 (by decide)).trans rfl; exact op_call _ ((by rw [← List.map_drop, ← List.map_take]; exact impl_withBars (rw8 (gK (duO fr) (k.toNat * 7) t25.toNat (pl (fr.getD t25.toNat (0, 0)).1 i * 7)) (pl (fr.getD t25.toNat (0, 0)).1 i)) _ 13 (rw8_len (by rw [gK_len]; omega)) (fun b => rw8_le fr _ _ _ _ b (by omega)) (by omega) (by omega))) (evs_cons e38 (evs_cons e40 evs_nil)) rfl (by decide) (by decide) (by decide) hfr (fun rs hR => by subst hR; rfl)) (fun ob3_9 => ?_)
        refine any_end [[], [], [], [], [2, 3], [2, 3, 4], [], [6], [2, 3, 4, 5, 6, 7], [0, 1, 2, 3, 4, 5, 6, 7, 8], [0, 1, 2, 3, 4, 5, 6, 7, 8, 9]] ob3_9 (by kernel_rfl) (Nat.le_of_ble_eq_true rfl) (by decide) (by decide) (by kernel_rfl) (by kernel_rfl) (by kernel_rfl) (by kernel_rfl) (by kernel_rfl) ?_
        clear ob3_0 ob3_1 ob3_2 ob3_3 ob3_4 ob3_5 ob3_6 ob3_7 ob3_8 ob3_9
        refine listT.imp (σ' := [(0, _), (1, _), (4, _), (5, _), (6, _), (8, _), (10, _), (11, _), (23, _), (24, _), (25, _), (32, _), (33, _), (34, _), (35, _), (36, _), (37, _), (38, _), (39, _), (40, _), (41, _)]) ?_ (imp_covers ⟨rfl, rfl, rfl, rfl, rfl, rfl, rfl, rfl, rfl, rfl, rfl, rfl, rfl, rfl, rfl, rfl, rfl, rfl, rfl, rfl, rfl, trivial⟩)
        refine list_cons rfl (op_q (q_indexAddr_own sl_33 rfl rfl (by omega) (by omega) (by decide)) ?_)
        refine list_cons rfl (op_storeG (agg_47).2 33 [33, 35, 8] (by intro t ht; simp only [List.mem_cons, List.not_mem_nil, or_false] at ht; rcases ht with rfl | rfl | rfl <;> rfl) (.inl rfl) rfl rfl rfl (.inl ⟨rfl, (by first | rfl | exact flat_part (flat_map _ (fun _ => rfl) _) _ _ | exact flat_map _ (fun _ => rfl) _)⟩) (by first | rfl | (show ((wbK _ _ 7).map (PV.int .i64)).length = 7; rw [List.length_map, wbK_len, rw8_len (by rw [gK_len]; omega)])) (by simp only [List.length_map, gK_len]; omega) (by decide) rfl ?_)
        refine list_nil ?_
        refine blk_n ?_
        refine rp_n ⟨trivial, imp_covers ⟨rfl, rfl, rfl, rfl, rfl, (congrArg (fun z => some (SV.boxS 8 33 22 47 7 k.toNat z)) ((duK_row hg.take6 hcc hlt hp.2.1).trans (congrArg (List.map (PV.int .i64)) (skipN (g := fun x => gK (duO fr) (k.toNat * 7) t25.toNat (x * 7)) hp.2.2.1 (fun x h1 h2 => duK_skip hk42 hcc (hp.2.2.2 x h1 h2))).symm))), rfl, rfl, rfl, rfl, trivial⟩⟩
      · skip
        refine blk_n ?_
        refine blk_n ?_
        refine hK11 _ ?_; clear hK11 K11
        refine codeT.imp (σ' := [(0, _), (1, _), (4, _), (5, _), (6, _), (8, _), (10, _), (23, _), (24, _), (25, _)]) ?_ (imp_covers ⟨rfl, rfl, rfl, rfl, rfl, rfl, rfl, rfl, rfl, rfl, trivial⟩)
        refine code_region ?_
        refine list_cons rfl (op_q (by first | exact q_addI rfl rfl (by decide) (by omega) (by omega) | exact q_ib rfl rfl rfl (by decide)) ?_)
        refine list_cons rfl (op_q (q_move rfl (by decide)) ?_)
        refine list_nil ?_
        refine then_n ⟨(_, _, _, _, _, _), imp_covers ⟨rfl, rfl, rfl, rfl, rfl, rfl, rfl, rfl, rfl, trivial⟩, ?_, ?_⟩
        · (try dsimp only)
          exact ⟨hg, by omega, by omega, rfl, by rw [pl_end, duK_ge (by omega), show (t25 + 1).toNat = t25.toNat + 1 by omega]⟩
        · (try dsimp only); omega
    (try simp only [Decidable.not_not] at h2); (try have hg := (h2 : GdP k fr); try have hk := hg.1; try have hF := hg.2; try have h12 := hF.1; try have hfl := fl_len fr); (try have hcc : 0 ≤ (fr.getD t25.toNat (0, 0)).1 ∧ (fr.getD t25.toNat (0, 0)).1 ≤ 63 := (hbd (by omega)).1); (try have hbb := (hbd (by omega)).2)
    refine code_exit ?_
    refine then_x ?_; clear hK10 K10
    refine then_x ?_
    refine blk_hit ?_
    refine hK7 _ ?_; clear hK7 K7
    refine code_seq (fun K15 hK15 => ?_)
    refine code_region ?_
    refine list_cons rfl (op_q (q_loadS one_33 rfl (by decide)) ?_)
    refine list_cons rfl (op_q (q_assign rfl (by decide)) ?_)
    refine list_cons rfl (op_q (q_assign rfl (by decide)) ?_)
    refine list_nil ?_
    refine hK15 _ ?_; clear hK15 K15
    refine code_ret ?_
    refine ends_ret (cs := []) rfl rfl rfl rfl trivial ?_
    first
      | (rw [show t25.toNat = fr.length by omega]; simp only [if_pos hg, decide_eq_true hg]; rfl)
      | (have e : ¬ GdP k fr := by assumption
         simp only [if_neg e, decide_eq_false e]; rfl)
set_option maxRecDepth 8000 in
set_option maxHeartbeats 4000000 in
theorem impl_GhostsOf (k : Int) (fr : List (Int × Int)) (hf : fr.length ≤ 1048576) : PCalls Try.prog 15 [.int .i64 k, .sl fr.length (fl fr)] (· = [.own 0 3 1 (if GdP k fr then ghL fr k.toNat else []).length ((if GdP k fr then ghL fr k.toNat else []).map (.int .i64)), .val (.bool (decide (GdP k fr)))]) := by
  refine pcalls_of_code (n := 66) az Try.func15 (by kernel_rfl) rfl rfl (Nat.le_of_ble_eq_true rfl) (by intro t u h; simp [Try.f15] at h) ?_
  refine code_seq (fun K1 hK1 => ?_)
  refine code_region ?_
  refine list_cons rfl (op_q (q_assign rfl (by decide)) ?_)
  refine list_cons rfl (op_q (q_assign rfl (by decide)) ?_)
  refine list_nil ?_
  refine hK1 _ ?_; clear hK1 K1
  refine code_seq (fun K2 hK2 => ?_)
  refine code_region ?_
  refine list_cons rfl (op_q (q_move rfl (by decide)) ?_)
  refine list_cons rfl (op_q (q_move rfl (by decide)) ?_)
  refine list_cons rfl (op_call _ (impl_SeenOf _ _ (by first | omega | (simp; omega))) rfl rfl (by decide) (by decide) (by decide) rfl ?_)
  rintro _ rfl
  refine list_cons rfl (op_q (q_move rfl (by decide)) ?_)
  refine list_cons rfl (op_q (q_extract rfl rfl (by decide)) ?_)
  refine list_cons rfl (op_q (q_extract rfl rfl (by decide)) ?_)
  refine list_cons rfl (op_q (q_assign rfl (by decide)) ?_)
  refine list_cons rfl (op_q (q_assign rfl (by decide)) ?_)
  refine list_nil ?_
  refine hK2 _ ?_; clear hK2 K2
  refine codeT.imp (σ' := [(0, _), (1, _), (4, _), (5, _), (6, _), (7, _)]) ?_ (imp_covers ⟨rfl, rfl, rfl, rfl, rfl, rfl, trivial⟩)
  refine code_seq (fun K3 hK3 => ?_)
  refine code_seq (fun K4 hK4 => ?_)
  refine code_region ?_
  refine list_cons rfl (op_q (q_move rfl (by decide)) ?_)
  refine list_cons rfl (op_q (by first | exact q_notd rfl (by decide) | exact q_not rfl (by decide)) ?_)
  refine list_nil ?_
  refine hK4 _ ?_; clear hK4 K4
  refine code_cond_d rfl (fun h1 => ?_) (fun h1 => ?_)
  · skip
    (try simp only [Decidable.not_not] at h1); (try have hg := (h1 : GdP k fr); try have hk := hg.1; try have hF := hg.2; try have h12 := hF.1; try have hfl := fl_len fr); (try have hm0 : 0 ≤ (t26 + 1) % (fr.length : Int) ∧ (t26 + 1) % (fr.length : Int) < fr.length := ⟨Int.emod_nonneg _ (by omega), Int.emod_lt_of_pos _ (by omega)⟩); (try have hm1 : ((t26 + 1) % (fr.length : Int)).toNat = (t26.toNat + 1) % fr.length := by rw [Int.toNat_emod (by omega) (by omega), show (t26 + 1).toNat = t26.toNat + 1 by omega, Int.toNat_natCast])
    refine code_seq (fun K5 hK5 => ?_)
    refine code_region ?_
    refine list_cons rfl (op_buildSlice sl_27 (parts := []) rfl rfl rfl (by decide) (by decide) (by decide) rfl ?_)
    refine list_cons rfl (op_q (q_assign rfl (by decide)) ?_)
    refine list_cons rfl (op_q (q_assign rfl (by decide)) ?_)
    refine list_nil ?_
    refine hK5 _ ?_; clear hK5 K5
    refine code_ret ?_
    refine then_r ?_; clear hK3 K3
    refine ends_ret (cs := []) rfl rfl rfl rfl trivial ?_
    first
      | (rw [show t51.toNat = k.toNat by omega, goK_end]; simp only [if_pos hg, decide_eq_true hg]; show [SV.own _ _ _ k.toNat _, _] = _; rw [show (ghL fr k.toNat).length = k.toNat from gK_len _ _ _ _]; done)
      | (have e : ¬ GdP k fr := by assumption
         simp only [if_neg e, decide_eq_false e]; rfl)
  (try simp only [Decidable.not_not] at h1); (try have hg := (h1 : GdP k fr); try have hk := hg.1; try have hF := hg.2; try have h12 := hF.1; try have hfl := fl_len fr); (try have hm0 : 0 ≤ (t26 + 1) % (fr.length : Int) ∧ (t26 + 1) % (fr.length : Int) < fr.length := ⟨Int.emod_nonneg _ (by omega), Int.emod_lt_of_pos _ (by omega)⟩); (try have hm1 : ((t26 + 1) % (fr.length : Int)).toNat = (t26.toNat + 1) % fr.length := by rw [Int.toNat_emod (by omega) (by omega), show (t26 + 1).toNat = t26.toNat + 1 by omega, Int.toNat_natCast])
  refine code_skip ?_
  refine hK3 _ ?_; clear hK3 K3
  refine code_seq (fun K6 hK6 => ?_)
  refine code_region ?_
  refine list_cons rfl (op_alloc zt_54 (by decide) (by decide) rfl ?_)
  refine list_nil ?_
  refine hK6 _ ?_; clear hK6 K6
  refine codeT.imp (σ' := [(0, _), (1, _), (4, _), (5, _), (6, .own 18 3 1 (sen fr k.toNat).length ((sen fr k.toNat).map (.int .i64))), (7, _), (8, .box 8 54 ((ghS fr 0).map (.int .i64)))]) ?_ (imp_covers ⟨rfl, rfl, rfl, rfl, (congrArg (fun z : List Int => some (SV.own 18 3 1 z.length (z.map (PV.int .i64)))) (if_pos hg)), rfl, (congrArg (fun z => some (SV.box 8 54 (List.map (PV.int .i64) z))) (ghS_0 fr)), trivial⟩)
  refine code_seq (fun K7 hK7 => ?_)
  refine code_seq (fun K8 hK8 => ?_)
  refine code_region ?_
  refine list_cons rfl (op_q (q_move rfl (by decide)) ?_)
  refine list_cons rfl (op_q (q_len_sl Try.underlying24 rfl rfl (by decide)) ?_)
  refine list_cons rfl (op_q (q_move rfl (by decide)) ?_)
  refine list_nil ?_
  refine hK8 _ ?_; clear hK8 K8
  refine code_block ?_
  refine code_loop (X := PV × Bool × Bool × List PV × Int) (fun x => [(0, .val (.int .i64 k)), (1, .par 1 (.sl fr.length (fl fr))), (4, .val x.1), (5, .val (.bool x.2.1)), (6, .own 18 3 1 (sen fr k.toNat).length ((sen fr k.toNat).map (.int .i64))), (7, .val (.bool x.2.2.1)), (8, .box 8 54 x.2.2.2.1), (24, .par 1 (.sl fr.length (fl fr))), (25, .val (.int .i64 fr.length)), (26, .val (.int .i64 x.2.2.2.2))]) (fun x => GdP k fr ∧ 0 ≤ x.2.2.2.2 ∧ x.2.2.2.2 ≤ fr.length ∧ x.2.2.2.1 = (ghS fr x.2.2.2.2.toNat).map (.int .i64)) (fun x => (fr.length - x.2.2.2.2).toNat) (_, _, _, _, _) (imp_covers ⟨rfl, rfl, rfl, rfl, rfl, rfl, rfl, rfl, rfl, rfl, trivial⟩) ?_ ?_
  · (try dsimp only)
    exact ⟨hg, by omega, by omega, rfl⟩
  · intro x hI
    obtain ⟨t4_p, t5, ok, ghosts_c, t26⟩ := x
    replace hI : GdP k fr ∧ 0 ≤ t26 ∧ t26 ≤ fr.length ∧ ghosts_c = (ghS fr t26.toNat).map (.int .i64) := hI
    show codeT _ _ _ [(0, .val (.int .i64 k)), (1, .par 1 (.sl fr.length (fl fr))), (4, .val t4_p), (5, .val (.bool t5)), (6, .own 18 3 1 (sen fr k.toNat).length ((sen fr k.toNat).map (.int .i64))), (7, .val (.bool ok)), (8, .box 8 54 ghosts_c), (24, .par 1 (.sl fr.length (fl fr))), (25, .val (.int .i64 fr.length)), (26, .val (.int .i64 t26))] _
    obtain ⟨hg, i1, i2, rfl⟩ := hI
    have hk := hg.1
    have hF := hg.2
    have h12 := hF.1
    have hfl := fl_len fr
    refine code_seq (fun K9 hK9 => ?_)
    refine code_region ?_
    refine list_cons rfl (op_q (q_lt rfl rfl (by decide)) ?_)
    refine list_nil ?_
    refine hK9 _ ?_; clear hK9 K9
    refine code_seq (fun K10 hK10 => ?_)
    refine code_cond_d rfl (fun h2 => ?_) (fun h2 => ?_)
    · skip
      (try simp only [Decidable.not_not] at h2); (try have hg := (h2 : GdP k fr); try have hk := hg.1; try have hF := hg.2; try have h12 := hF.1; try have hfl := fl_len fr); (try have hm0 : 0 ≤ (t26 + 1) % (fr.length : Int) ∧ (t26 + 1) % (fr.length : Int) < fr.length := ⟨Int.emod_nonneg _ (by omega), Int.emod_lt_of_pos _ (by omega)⟩); (try have hm1 : ((t26 + 1) % (fr.length : Int)).toNat = (t26.toNat + 1) % fr.length := by rw [Int.toNat_emod (by omega) (by omega), show (t26 + 1).toNat = t26.toNat + 1 by omega, Int.toNat_natCast])
      refine code_skip ?_
      refine hK10 _ ?_; clear hK10 K10
      refine code_seq (fun K11 hK11 => ?_)
      refine code_block ?_
      refine code_seq (fun K12 hK12 => ?_)
      refine code_region ?_
      refine list_cons rfl (op_q (q_move rfl (by decide)) ?_)
      refine list_cons rfl (op_q (q_indexAddr_rd sl_24 rfl (.inl ⟨_, rfl, rfl⟩) rfl (by omega) (by omega) (by decide)) ?_)
      refine list_cons rfl (op_q (q_load_rd_aggE agg_62 rfl (.inl ⟨_, rfl⟩) (by first | decide | omega | exact Nat.le_refl _ | (simp; done) | (simp; omega)) (by first | exact fl_at fr t26.toNat (by omega) | exact Eq.trans (congrArg (fun m => ((fl fr).drop (m * 2)).take 2) hm1) (fl_at fr ((t26.toNat + 1) % fr.length) (Nat.mod_lt _ (by omega)))) rfl (by decide)) ?_)
      refine list_cons rfl (op_alloc zt_62 (by decide) (by decide) rfl ?_)
      refine list_cons rfl (op_q (q_assign rfl (by decide)) ?_)
      refine list_cons rfl (op_store (agg_62).2 10 [10] (by intro t ht; simp only [List.mem_cons, List.not_mem_nil, or_false] at ht; subst ht; rfl) (.inr ⟨rfl, _, rfl⟩) rfl rfl rfl rfl (by first | rfl | exact flat_part (flat_map _ (fun _ => rfl) _) _ _ | exact flat_map _ (fun _ => rfl) _) (by first | rfl | (simp [PV.cells, wiS_len, ghS_len]; done)) (by decide) (by decide) rfl ?_)
      refine list_nil ?_
      refine hK12 _ ?_; clear hK12 K12
      refine codeT.imp (σ' := [(0, _), (1, _), (4, _), (5, _), (6, _), (7, _), (8, _), (9, _), (10, _), (24, _), (25, _), (26, _)]) ?_ (imp_covers ⟨rfl, rfl, rfl, rfl, rfl, rfl, rfl, rfl, rfl, rfl, rfl, rfl, trivial⟩)
      refine code_seq (fun K13 hK13 => ?_)
      refine code_region ?_
      refine list_cons rfl (op_q (q_move rfl (by decide)) ?_)
      refine list_cons rfl (op_q (q_move rfl (by decide)) ?_)
      refine list_cons rfl (op_q (by first | exact q_addI rfl rfl (by decide) (by omega) (by omega) | exact q_ib rfl rfl rfl (by decide)) ?_)
      refine list_cons rfl (op_q (q_move rfl (by decide)) ?_)
      refine list_cons rfl (op_q (q_len_sl Try.underlying24 rfl rfl (by decide)) ?_)
      refine list_cons rfl (op_q (by first | exact q_remI rfl rfl (by decide) (by omega) (by omega) | exact q_rem rfl rfl (by omega) (by decide)) ?_)
      refine list_cons rfl (op_q (q_indexAddr_rd sl_24 rfl (.inl ⟨_, rfl, rfl⟩) rfl (by omega) (by omega) (by decide)) ?_)
      refine list_cons rfl (op_q (q_load_rd_aggE agg_62 rfl (.inl ⟨_, rfl⟩) (by first | decide | omega | exact Nat.le_refl _ | (simp; done) | (simp; omega)) (by first | exact fl_at fr t26.toNat (by omega) | exact Eq.trans (congrArg (fun m => ((fl fr).drop (m * 2)).take 2) hm1) (fl_at fr ((t26.toNat + 1) % fr.length) (Nat.mod_lt _ (by omega)))) rfl (by decide)) ?_)
      refine list_cons rfl (op_alloc zt_62 (by decide) (by decide) rfl ?_)
      refine list_cons rfl (op_store (agg_62).2 11 [11] (by intro t ht; simp only [List.mem_cons, List.not_mem_nil, or_false] at ht; subst ht; rfl) (.inr ⟨rfl, _, rfl⟩) rfl rfl rfl rfl (by first | rfl | exact flat_part (flat_map _ (fun _ => rfl) _) _ _ | exact flat_map _ (fun _ => rfl) _) (by first | rfl | (simp [PV.cells, wiS_len, ghS_len]; done)) (by decide) (by decide) rfl ?_)
      refine list_nil ?_
      refine hK13 _ ?_; clear hK13 K13
      refine codeT.imp (σ' := [(0, _), (1, _), (4, _), (5, _), (6, _), (7, _), (8, _), (9, _), (10, _), (11, _), (24, _), (25, _), (26, _)]) ?_ (imp_covers ⟨rfl, rfl, rfl, rfl, rfl, rfl, rfl, rfl, rfl, rfl, rfl, rfl, rfl, trivial⟩)
      refine code_region ?_
      refine list_cons rfl (op_q (q_load_agg agg_54 8 (.inr ⟨rfl, _, rfl⟩) rfl rfl (by first | exact Nat.le_of_ble_eq_true rfl | (rw [List.length_map, ghS_len]; decide) | rfl) (by first | rfl | exact flat_part (flat_map _ (fun _ => rfl) _) _ _) (by decide)) ?_)
      refine list_cons rfl (op_q (q_fieldAddr fi_62_0 rfl rfl (by decide)) ?_)
      refine list_cons rfl (op_q (q_load one_3 11 rfl rfl rfl (by first | exact Nat.le_of_ble_eq_true rfl | (rw [List.length_map, ghS_len]; decide) | rfl) (by decide)) ?_)
      refine list_cons rfl (op_q (q_fieldAddr fi_62_1 rfl rfl (by decide)) ?_)
      refine list_cons rfl (op_q (q_load one_3 10 rfl rfl rfl (by first | exact Nat.le_of_ble_eq_true rfl | (rw [List.length_map, ghS_len]; decide) | rfl) (by decide)) ?_)
      refine list_cons rfl (op_q (q_build bt_62 (parts := [(0, .tmp 41), (1, .tmp 43)]) rfl rfl (by decide)) ?_)
      refine list_cons rfl (op_call _ (with_E _ _ (ghS fr t26.toNat) (fr.getD ((t26.toNat + 1) % fr.length) (0, 0)).1 (fr.getD t26.toNat (0, 0)).2 (by rw [List.drop_zero, List.take_of_length_le (by rw [List.length_map, ghS_len]; decide)]) rfl (ghS_len _ _) (fun x => ghS_le hF hk.2 (by omega) x) (by have := hF.bd hk.2 (j := (t26.toNat + 1) % fr.length) (Nat.mod_lt _ (by omega)); omega) (by have := hF.bd hk.2 (j := t26.toNat) (by omega); omega)) rfl rfl (by decide) (by decide) (by decide) rfl ?_)
      rintro _ rfl
      refine list_cons rfl (op_store (agg_54).2 8 [8] (by intro t ht; simp only [List.mem_cons, List.not_mem_nil, or_false] at ht; subst ht; rfl) (.inr ⟨rfl, _, rfl⟩) rfl rfl rfl rfl (by first | rfl | exact flat_part (flat_map _ (fun _ => rfl) _) _ _ | exact flat_map _ (fun _ => rfl) _) (by first | rfl | (simp [PV.cells, wiS_len, ghS_len]; done)) (by rw [List.length_map, ghS_len]; decide) (by decide) rfl ?_)
      refine list_nil ?_
      refine blk_n ?_
      refine hK11 _ ?_; clear hK11 K11
      refine codeT.imp (σ' := [(0, _), (1, _), (4, _), (5, _), (6, _), (7, _), (8, _), (9, _), (10, _), (11, _), (24, _), (25, _), (26, _)]) ?_ (imp_covers ⟨rfl, rfl, rfl, rfl, rfl, rfl, rfl, rfl, rfl, rfl, rfl, rfl, rfl, trivial⟩)
      refine code_region ?_
      refine list_cons rfl (op_q (by first | exact q_addI rfl rfl (by decide) (by omega) (by omega) | exact q_ib rfl rfl rfl (by decide)) ?_)
      refine list_cons rfl (op_q (q_move rfl (by decide)) ?_)
      refine list_nil ?_
      refine then_n ⟨(_, _, _, _, _), imp_covers ⟨rfl, rfl, rfl, rfl, rfl, rfl, rfl, rfl, rfl, rfl, trivial⟩, ?_, ?_⟩
      · (try dsimp only)
        exact ⟨hg, by omega, by omega, by rw [show (t26 + 1).toNat = t26.toNat + 1 by omega, ← ghS_next]; exact put_all8 (n := 6) (by simp [ghS_len]) (by simp [wiS_len])⟩
      · (try dsimp only); omega
    (try simp only [Decidable.not_not] at h2); (try have hg := (h2 : GdP k fr); try have hk := hg.1; try have hF := hg.2; try have h12 := hF.1; try have hfl := fl_len fr); (try have hm0 : 0 ≤ (t26 + 1) % (fr.length : Int) ∧ (t26 + 1) % (fr.length : Int) < fr.length := ⟨Int.emod_nonneg _ (by omega), Int.emod_lt_of_pos _ (by omega)⟩); (try have hm1 : ((t26 + 1) % (fr.length : Int)).toNat = (t26.toNat + 1) % fr.length := by rw [Int.toNat_emod (by omega) (by omega), show (t26 + 1).toNat = t26.toNat + 1 by omega, Int.toNat_natCast])
    refine code_exit ?_
    refine then_x ?_; clear hK10 K10
    refine then_x ?_
    refine blk_hit ?_
    refine hK7 _ ?_; clear hK7 K7
    refine code_seq (fun K14 hK14 => ?_)
    refine code_region ?_
    refine list_cons rfl (op_q (q_move rfl (by decide)) ?_)
    refine list_cons rfl (op_makeI sl_27 rfl rfl (by omega) (by omega) (by decide) (by decide) rfl ?_)
    refine list_cons rfl (op_q (q_assign rfl (by decide)) ?_)
    refine list_nil ?_
    refine hK14 _ ?_; clear hK14 K14
    refine codeT.imp (σ' := [(0, _), (1, _), (4, _), (5, _), (6, _), (7, _), (8, .box 8 54 ((ghS fr fr.length).map (.int .i64))), (12, _), (24, _), (25, _), (26, _)]) ?_ (imp_covers ⟨rfl, rfl, rfl, rfl, rfl, rfl, (congrArg (fun z => some (SV.box 8 54 (List.map (PV.int .i64) (ghS fr z)))) (show t26.toNat = fr.length by omega)), rfl, rfl, rfl, rfl, trivial⟩)
    refine code_seq (fun K15 hK15 => ?_)
    refine code_seq (fun K16 hK16 => ?_)
    refine code_region ?_
    refine list_cons rfl (op_q (q_move rfl (by decide)) ?_)
    refine list_cons rfl (op_q (q_len_sl Try.underlying27 rfl rfl (by decide)) ?_)
    refine list_cons rfl (op_q (q_move rfl (by decide)) ?_)
    refine list_nil ?_
    refine hK16 _ ?_; clear hK16 K16
    refine code_block ?_
    refine code_loop (X := PV × Bool × Bool × Nat × List PV × PV × Int × Int × Int) (fun x => [(0, .val (.int .i64 k)), (1, .par 1 (.sl fr.length (fl fr))), (4, .val x.1), (5, .val (.bool x.2.1)), (6, .own 18 3 1 (sen fr k.toNat).length ((sen fr k.toNat).map (.int .i64))), (7, .val (.bool x.2.2.1)), (8, .box 8 54 ((ghS fr fr.length).map (.int .i64))), (12, .own 48 3 1 x.2.2.2.1 x.2.2.2.2.1), (24, .par 1 x.2.2.2.2.2.1), (25, .val (.int .i64 x.2.2.2.2.2.2.1)), (26, .val (.int .i64 x.2.2.2.2.2.2.2.1)), (49, .own 18 3 1 (sen fr k.toNat).length ((sen fr k.toNat).map (.int .i64))), (50, .val (.int .i64 ((sen fr k.toNat).length : Nat))), (51, .val (.int .i64 x.2.2.2.2.2.2.2.2))]) (fun x => 0 ≤ x.2.2.2.2.2.2.2.2 ∧ x.2.2.2.2.2.2.2.2 ≤ k ∧ x.2.2.2.1 = k.toNat ∧ x.2.2.2.2.1 = (goK fr k.toNat x.2.2.2.2.2.2.2.2.toNat).map (.int .i64)) (fun x => (k - x.2.2.2.2.2.2.2.2).toNat) (_, _, _, _, _, _, _, _, _) (imp_covers ⟨rfl, rfl, rfl, rfl, rfl, rfl, rfl, rfl, rfl, rfl, rfl, rfl, rfl, rfl, trivial⟩) ?_ ?_
    · (try dsimp only)
      exact ⟨by omega, by omega, by first | rfl | omega, (zeros_map1 (PV.int .i64) 0 k.toNat).trans (congrArg (List.map _) (goK_0 fr k.toNat))⟩
    · intro x hI
      obtain ⟨t4_p, t5, ok, row_n, row_c, t24_p, t25, t26, t51⟩ := x
      replace hI : 0 ≤ t51 ∧ t51 ≤ k ∧ row_n = k.toNat ∧ row_c = (goK fr k.toNat t51.toNat).map (.int .i64) := hI
      show codeT _ _ _ [(0, .val (.int .i64 k)), (1, .par 1 (.sl fr.length (fl fr))), (4, .val t4_p), (5, .val (.bool t5)), (6, .own 18 3 1 (sen fr k.toNat).length ((sen fr k.toNat).map (.int .i64))), (7, .val (.bool ok)), (8, .box 8 54 ((ghS fr fr.length).map (.int .i64))), (12, .own 48 3 1 row_n row_c), (24, .par 1 t24_p), (25, .val (.int .i64 t25)), (26, .val (.int .i64 t26)), (49, .own 18 3 1 (sen fr k.toNat).length ((sen fr k.toNat).map (.int .i64))), (50, .val (.int .i64 ((sen fr k.toNat).length : Nat))), (51, .val (.int .i64 t51))] _
      obtain ⟨j1, j2, rfl, rfl⟩ := hI
      have hsl := sen_len8 fr k.toNat
      refine code_seq (fun K17 hK17 => ?_)
      refine code_region ?_
      refine list_cons rfl (op_q (q_lt rfl rfl (by decide)) ?_)
      refine list_nil ?_
      refine hK17 _ ?_; clear hK17 K17
      refine code_seq (fun K18 hK18 => ?_)
      refine code_cond_d rfl (fun h3 => ?_) (fun h3 => ?_)
      · skip
        (try simp only [Decidable.not_not] at h3); (try have hg := (h3 : GdP k fr); try have hk := hg.1; try have hF := hg.2; try have h12 := hF.1; try have hfl := fl_len fr); (try have hm0 : 0 ≤ (t26 + 1) % (fr.length : Int) ∧ (t26 + 1) % (fr.length : Int) < fr.length := ⟨Int.emod_nonneg _ (by omega), Int.emod_lt_of_pos _ (by omega)⟩); (try have hm1 : ((t26 + 1) % (fr.length : Int)).toNat = (t26.toNat + 1) % fr.length := by rw [Int.toNat_emod (by omega) (by omega), show (t26 + 1).toNat = t26.toNat + 1 by omega, Int.toNat_natCast])
        refine code_skip ?_
        refine hK18 _ ?_; clear hK18 K18
        refine code_seq (fun K19 hK19 => ?_)
        refine code_block ?_
        refine code_seq (fun K20 hK20 => ?_)
        refine code_region ?_
        refine list_cons rfl (op_q (q_move rfl (by decide)) ?_)
        refine list_cons rfl (op_q (q_indexAddr_own sl_27 rfl rfl (by omega) (by omega) (by decide)) ?_)
        refine list_cons rfl (op_q (q_load one_3 6 rfl rfl rfl (by first | rfl | exact get_map1 _ 0 _ (by first | omega | (simp; omega))) (by decide)) ?_)
        refine list_cons rfl (op_q (q_assign rfl (by decide)) ?_)
        refine list_cons rfl (op_q (q_assign rfl (by decide)) ?_)
        refine list_nil ?_
        refine hK20 _ ?_; clear hK20 K20
        refine code_region ?_
        refine list_cons rfl (op_q (q_move rfl (by decide)) ?_)
        refine list_cons rfl (op_q (q_move rfl (by decide)) ?_)
        refine list_cons rfl (op_q (q_move rfl (by decide)) ?_)
        refine list_cons rfl (op_q (q_indexAddr_arr arr_54 rfl rfl rfl (by omega) (by omega) (by decide)) ?_)
        refine list_cons rfl (op_q (q_load one_3 8 rfl rfl rfl (by first | rfl | exact get_map1 (PV.int .i64) 0 (ghS fr fr.length) (by rw [ghS_len]; omega)) (by decide)) ?_)
        refine list_cons rfl (op_q (q_move rfl (by decide)) ?_)
        refine list_cons rfl (op_q (by first | exact q_andNotI rfl rfl (by decide) (by omega) (by omega) (by omega) (by omega) | exact q_ib rfl rfl rfl (by decide)) ?_)
        refine list_cons rfl (op_q (q_indexAddr_own sl_27 rfl rfl (by omega) (by omega) (by decide)) ?_)
        refine list_cons rfl (op_store (one_3).2 12 [12, 56] (by intro t ht; simp only [List.mem_cons, List.not_mem_nil, or_false] at ht; rcases ht with rfl | rfl <;> rfl) (.inl rfl) rfl rfl rfl rfl rfl rfl (by rw [List.length_map, goK_len]; simp; omega) (by decide) rfl ?_)
        refine list_nil ?_
        refine blk_n ?_
        refine hK19 _ ?_; clear hK19 K19
        refine codeT.imp (σ' := [(0, _), (1, _), (4, _), (5, _), (6, _), (7, _), (8, _), (12, _), (13, _), (14, _), (24, _), (25, _), (26, _), (49, _), (50, _), (51, _)]) ?_ (imp_covers ⟨rfl, rfl, rfl, rfl, rfl, rfl, rfl, rfl, rfl, rfl, rfl, rfl, rfl, rfl, rfl, rfl, trivial⟩)
        refine code_region ?_
        refine list_cons rfl (op_q (by first | exact q_addI rfl rfl (by decide) (by omega) (by omega) | exact q_ib rfl rfl rfl (by decide)) ?_)
        refine list_cons rfl (op_q (q_move rfl (by decide)) ?_)
        refine list_nil ?_
        refine then_n ⟨(_, _, _, _, _, _, _, _, _), imp_covers ⟨rfl, rfl, rfl, rfl, rfl, rfl, rfl, rfl, rfl, rfl, rfl, rfl, rfl, rfl, trivial⟩, ?_, ?_⟩
        · (try dsimp only)
          exact ⟨by omega, by omega, rfl, by rw [show (t51 + 1).toNat = t51.toNat + 1 by omega]; exact goK_put (by omega) rfl (by have b1 := ghR_le hF hk.2 t51.toNat fr.length (Nat.le_refl _); have b2 := orN_le hF hk.2 t51.toNat fr.length (Nat.le_refl _); rw [ghS_at fr fr.length (by omega), sen_at8 fr (by omega), iandNot_nat _ _ (by omega) (by omega), ghO_R])⟩
        · (try dsimp only); omega
      (try simp only [Decidable.not_not] at h3); (try have hg := (h3 : GdP k fr); try have hk := hg.1; try have hF := hg.2; try have h12 := hF.1; try have hfl := fl_len fr); (try have hm0 : 0 ≤ (t26 + 1) % (fr.length : Int) ∧ (t26 + 1) % (fr.length : Int) < fr.length := ⟨Int.emod_nonneg _ (by omega), Int.emod_lt_of_pos _ (by omega)⟩); (try have hm1 : ((t26 + 1) % (fr.length : Int)).toNat = (t26.toNat + 1) % fr.length := by rw [Int.toNat_emod (by omega) (by omega), show (t26 + 1).toNat = t26.toNat + 1 by omega, Int.toNat_natCast])
      refine code_exit ?_
      refine then_x ?_; clear hK18 K18
      refine then_x ?_
      refine blk_hit ?_
      refine hK15 _ ?_; clear hK15 K15
      refine code_seq (fun K21 hK21 => ?_)
      refine code_region ?_
      refine list_cons rfl (op_q (q_move rfl (by decide)) ?_)
      refine list_cons rfl (op_q (q_assign rfl (by decide)) ?_)
      refine list_cons rfl (op_q (q_assign rfl (by decide)) ?_)
      refine list_nil ?_
      refine hK21 _ ?_; clear hK21 K21
      refine code_ret ?_
      refine ends_ret (cs := []) rfl rfl rfl rfl trivial ?_
      first
        | (rw [show t51.toNat = k.toNat by omega, goK_end]; simp only [if_pos hg, decide_eq_true hg]; show [SV.own _ _ _ k.toNat _, _] = _; rw [show (ghL fr k.toNat).length = k.toNat from gK_len _ _ _ _]; done)
        | (have e : ¬ GdP k fr := by assumption
           simp only [if_neg e, decide_eq_false e]; rfl)
set_option maxRecDepth 8000 in
set_option maxHeartbeats 4000000 in
theorem impl_WithBlanks (k : Int) (fr : List (Int × Int)) (hf : fr.length ≤ 1048576) : PCalls Try.prog 17 [.int .i64 k, .sl fr.length (fl fr)] (· = [.own 0 62 2 (if BlkP k fr then blk fr else []).length (fl (if BlkP k fr then blk fr else [])), .val (.bool (decide (BlkP k fr)))]) := by
  refine pcalls_of_code (n := 43) az Try.func17 (by kernel_rfl) rfl rfl (Nat.le_of_ble_eq_true rfl) (by intro t u h; simp [Try.f17] at h) ?_
  refine code_seq (fun K1 hK1 => ?_)
  refine code_region ?_
  refine list_cons rfl (op_q (q_assign rfl (by decide)) ?_)
  refine list_cons rfl (op_q (q_assign rfl (by decide)) ?_)
  refine list_nil ?_
  refine hK1 _ ?_; clear hK1 K1
  refine code_seq (fun K2 hK2 => ?_)
  refine code_seq (fun K3 hK3 => ?_)
  refine code_region ?_
  refine list_cons rfl (op_q (q_move rfl (by decide)) ?_)
  refine list_cons rfl (op_q (q_move rfl (by decide)) ?_)
  refine list_cons rfl (op_call _ (impl_IsFrame _ _ (by first | omega | (simp; omega))) rfl rfl (by decide) (by decide) (by decide) rfl ?_)
  rintro _ rfl
  refine list_cons rfl (op_q (q_move rfl (by decide)) ?_)
  refine list_cons rfl (op_q (q_extract rfl rfl (by decide)) ?_)
  refine list_cons rfl (op_q (q_extract rfl rfl (by decide)) ?_)
  refine list_cons rfl (op_q (q_assign rfl (by decide)) ?_)
  refine list_cons rfl (op_q (q_assign rfl (by decide)) ?_)
  refine list_nil ?_
  refine hK3 _ ?_; clear hK3 K3
  refine codeT.imp (σ' := [(0, _), (1, _), (4, _), (5, _), (6, _)]) ?_ (imp_covers ⟨rfl, rfl, rfl, rfl, rfl, trivial⟩)
  refine code_seq (fun K4 hK4 => ?_)
  refine code_region ?_
  refine list_cons rfl (op_q (q_move rfl (by decide)) ?_)
  refine list_cons rfl (op_q (by first | exact q_notd rfl (by decide) | exact q_not rfl (by decide)) ?_)
  refine list_cons rfl (op_q (q_move rfl (by decide)) ?_)
  refine list_guard_d rfl rfl rfl rfl (by decide) rfl (by decide) (fun h1 => ?_) (fun h1 => ?_)
  · simp only [Bool.false_eq_true, if_true, if_false, Decidable.not_not] at h1
    (try simp only [Decidable.not_not] at h1); (try have hg := (h1 : GdP k fr); try have hk := hg.1; try have hF := hg.2; try have h12 := hF.1; try have hfl := fl_len fr)
    refine id (op_q (q_move rfl (by decide)) ?_)
    refine list_guard_y rfl rfl rfl rfl (by decide) rfl ?_
    refine id (op_q (q_len_sl Try.underlying24 rfl rfl (by decide)) ?_)
    refine list_guard_y rfl rfl rfl rfl (by decide) rfl ?_
    refine id (op_q (by first | exact q_mulI rfl rfl (by decide) (by omega) (by omega) | exact q_ib rfl rfl rfl (by decide)) ?_)
    refine list_guard_y rfl rfl rfl rfl (by decide) rfl ?_
    refine id (op_q (q_gt rfl rfl (by decide)) ?_)
    refine list_cons rfl (op_q (q_pick rfl rfl (by decide)) ?_)
    refine list_nil ?_
    refine hK4 _ ?_; clear hK4 K4
    refine codeT.imp (σ' := [(0, _), (1, _), (4, _), (5, _), (6, _), (24, _)]) ?_ (imp_covers ⟨rfl, rfl, rfl, rfl, rfl, rfl, trivial⟩)
    refine code_cond_d rfl (fun h2 => ?_) (fun h2 => ?_)
    · skip
      (try simp only [Decidable.not_not] at h2); (try have hg := (h2 : GdP k fr); try have hk := hg.1; try have hF := hg.2; try have h12 := hF.1; try have hfl := fl_len fr)
      refine code_seq (fun K5 hK5 => ?_)
      refine code_region ?_
      refine list_cons rfl (op_buildSlice sl_24 (parts := []) rfl rfl rfl (by decide) (by decide) (by decide) rfl ?_)
      refine list_cons rfl (op_q (q_assign rfl (by decide)) ?_)
      refine list_cons rfl (op_q (q_assign rfl (by decide)) ?_)
      refine list_nil ?_
      refine hK5 _ ?_; clear hK5 K5
      refine code_ret ?_
      refine then_r ?_; clear hK2 K2
      refine ends_ret (cs := []) rfl rfl rfl rfl trivial ?_
      first
        | (rw [show t32.toNat = fr.length by omega, List.take_length] at hL
           subst hL
           simp only [if_pos hP, decide_eq_true hP]; done)
        | (have e : ¬ BlkP k fr := fun e => by have := e.2; first | exact absurd e.1 (by assumption) | omega
           simp only [if_neg e, decide_eq_false e]; rfl)
    (try simp only [Decidable.not_not] at h2); (try have hg := (h2 : GdP k fr); try have hk := hg.1; try have hF := hg.2; try have h12 := hF.1; try have hfl := fl_len fr)
    refine code_skip ?_
    refine hK2 _ ?_; clear hK2 K2
    refine code_seq (fun K6 hK6 => ?_)
    refine code_region ?_
    refine list_cons rfl (op_q (q_move rfl (by decide)) ?_)
    refine list_cons rfl (op_q (q_len_sl Try.underlying24 rfl rfl (by decide)) ?_)
    refine list_cons rfl (op_q (by first | exact q_mulI rfl rfl (by decide) (by omega) (by omega) | exact q_ib rfl rfl rfl (by decide)) ?_)
    refine list_cons rfl (op_make0 sl_24 rfl rfl (by show 16 * (2 * fr.length) ≤ _; omega) (by decide) (by decide) rfl ?_)
    refine list_cons rfl (op_q (q_assign rfl (by decide)) ?_)
    refine list_nil ?_
    refine hK6 _ ?_; clear hK6 K6
    refine code_seq (fun K7 hK7 => ?_)
    refine code_seq (fun K8 hK8 => ?_)
    refine code_region ?_
    refine list_cons rfl (op_q (q_move rfl (by decide)) ?_)
    refine list_cons rfl (op_q (q_len_sl Try.underlying24 rfl rfl (by decide)) ?_)
    refine list_cons rfl (op_q (q_move rfl (by decide)) ?_)
    refine list_nil ?_
    refine hK8 _ ?_; clear hK8 K8
    refine code_block ?_
    refine code_loop (X := PV × Bool × Bool × Nat × List PV × Int) (fun x => [(0, .val (.int .i64 k)), (1, .par 1 (.sl fr.length (fl fr))), (4, .val x.1), (5, .val (.bool x.2.1)), (6, .val (.bool x.2.2.1)), (8, .own 29 62 2 x.2.2.2.1 x.2.2.2.2.1), (30, .par 1 (.sl fr.length (fl fr))), (31, .val (.int .i64 fr.length)), (32, .val (.int .i64 x.2.2.2.2.2))]) (fun x => BlkP k fr ∧ 0 ≤ x.2.2.2.2.2 ∧ x.2.2.2.2.2 ≤ fr.length ∧ ∃ L : List (Int × Int), x.2.2.2.1 = L.length ∧ x.2.2.2.2.1 = fl L ∧ L = blk (fr.take x.2.2.2.2.2.toNat)) (fun x => (fr.length - x.2.2.2.2.2).toNat) (_, _, _, _, _, _) (imp_covers ⟨rfl, rfl, rfl, rfl, rfl, rfl, rfl, rfl, rfl, trivial⟩) ?_ ?_
    · (try dsimp only)
      exact ⟨⟨hg, by omega⟩, by omega, by omega, [], rfl, rfl, rfl⟩
    · intro x hI
      obtain ⟨t4_p, t5, is, blanked_n, blanked_c, t32⟩ := x
      replace hI : BlkP k fr ∧ 0 ≤ t32 ∧ t32 ≤ fr.length ∧ ∃ L : List (Int × Int), blanked_n = L.length ∧ blanked_c = fl L ∧ L = blk (fr.take t32.toNat) := hI
      show codeT _ _ _ [(0, .val (.int .i64 k)), (1, .par 1 (.sl fr.length (fl fr))), (4, .val t4_p), (5, .val (.bool t5)), (6, .val (.bool is)), (8, .own 29 62 2 blanked_n blanked_c), (30, .par 1 (.sl fr.length (fl fr))), (31, .val (.int .i64 fr.length)), (32, .val (.int .i64 t32))] _
      obtain ⟨hP, i1, i2, L, rfl, rfl, hL⟩ := hI
      have h6 := hP.2
      have hfl := fl_len fr
      have hLl : L.length ≤ 12 := by rw [hL, blk_len, List.length_take]; omega
      refine code_seq (fun K9 hK9 => ?_)
      refine code_region ?_
      refine list_cons rfl (op_q (q_lt rfl rfl (by decide)) ?_)
      refine list_nil ?_
      refine hK9 _ ?_; clear hK9 K9
      refine code_seq (fun K10 hK10 => ?_)
      refine code_cond_d rfl (fun h3 => ?_) (fun h3 => ?_)
      · skip
        (try simp only [Decidable.not_not] at h3); (try have hg := (h3 : GdP k fr); try have hk := hg.1; try have hF := hg.2; try have h12 := hF.1; try have hfl := fl_len fr)
        refine code_skip ?_
        refine hK10 _ ?_; clear hK10 K10
        refine code_seq (fun K11 hK11 => ?_)
        refine code_block ?_
        refine code_seq (fun K12 hK12 => ?_)
        refine code_region ?_
        refine list_cons rfl (op_q (q_indexAddr_rd sl_24 rfl (.inl ⟨_, rfl, rfl⟩) rfl (by omega) (by omega) (by decide)) ?_)
        refine list_cons rfl (op_q (q_load_rd_aggE agg_62 rfl (.inl ⟨_, rfl⟩) (by first | decide | omega | exact Nat.le_refl _ | (simp; done) | (simp; omega)) (fl_at fr t32.toNat (by omega)) rfl (by decide)) ?_)
        refine list_cons rfl (op_alloc zt_62 (by decide) (by decide) rfl ?_)
        refine list_cons rfl (op_store (agg_62).2 10 [10] (by intro t ht; simp only [List.mem_cons, List.not_mem_nil, or_false] at ht; subst ht; rfl) (.inr ⟨rfl, _, rfl⟩) rfl rfl rfl rfl (by first | rfl | exact flat_part (flat_map _ (fun _ => rfl) _) _ _ | exact flat_map _ (fun _ => rfl) _) (by first | rfl | (simp [PV.cells]; done)) (by decide) (by decide) rfl ?_)
        refine list_nil ?_
        refine hK12 _ ?_; clear hK12 K12
        refine codeT.imp (σ' := [(0, _), (1, _), (4, _), (5, _), (6, _), (8, _), (10, _), (30, _), (31, _), (32, _)]) ?_ (imp_covers ⟨rfl, rfl, rfl, rfl, rfl, rfl, rfl, rfl, rfl, rfl, trivial⟩)
        refine code_region ?_
        refine list_cons rfl (op_q (q_move rfl (by decide)) ?_)
        refine list_cons rfl (op_q (q_load_agg agg_62 10 (.inr ⟨rfl, _, rfl⟩) rfl rfl (by exact Nat.le_of_ble_eq_true rfl) (by first | rfl | exact flat_part (flat_map _ (fun _ => rfl) _) _ _) (by decide)) ?_)
        refine list_cons rfl (op_q (q_build bt_62 (parts := []) rfl rfl (by decide)) ?_)
        refine list_cons rfl (op_buildSlice sl_24 (parts := [(0, .tmp 37), (1, .tmp 38)]) rfl rfl rfl (by decide) (by decide) (by decide) rfl ?_)
        refine list_cons rfl (op_append_gen sl_24 (l := 29) (.inl rfl) rfl rfl (l2 := none) (.inl ⟨rfl, (by first | rfl | exact flat_map _ (fun _ => rfl) _)⟩) (by first | rfl | (simp [PV.cells, putAt, zeros]; done)) (by omega) (by decide) (by decide) (by decide) ?_)
        refine list_cons rfl (op_q (q_assign rfl (by decide)) ?_)
        refine list_nil ?_
        refine blk_n ?_
        refine hK11 _ ?_; clear hK11 K11
        refine codeT.imp (σ' := [(0, _), (1, _), (4, _), (5, _), (6, _), (8, _), (10, _), (30, _), (31, _), (32, _)]) ?_ (imp_covers ⟨rfl, rfl, rfl, rfl, rfl, rfl, rfl, rfl, rfl, rfl, trivial⟩)
        refine code_region ?_
        refine list_cons rfl (op_q (by first | exact q_addI rfl rfl (by decide) (by omega) (by omega) | exact q_ib rfl rfl rfl (by decide)) ?_)
        refine list_cons rfl (op_q (q_move rfl (by decide)) ?_)
        refine list_nil ?_
        refine then_n ⟨(_, _, _, _, _, _), imp_covers ⟨rfl, rfl, rfl, rfl, rfl, rfl, rfl, rfl, rfl, trivial⟩, ?_, ?_⟩
        · (try dsimp only)
          exact ⟨hP, by omega, by omega, L ++ [fr.getD t32.toNat (0, 0), (0, 0)], by simp, by rw [fl_app8]; rfl, by rw [show (t32 + 1).toNat = t32.toNat + 1 by omega, blk_snoc (by omega), hL]⟩
        · (try dsimp only); omega
      (try simp only [Decidable.not_not] at h3); (try have hg := (h3 : GdP k fr); try have hk := hg.1; try have hF := hg.2; try have h12 := hF.1; try have hfl := fl_len fr)
      refine code_exit ?_
      refine then_x ?_; clear hK10 K10
      refine then_x ?_
      refine blk_hit ?_
      refine hK7 _ ?_; clear hK7 K7
      refine code_seq (fun K13 hK13 => ?_)
      refine code_region ?_
      refine list_cons rfl (op_q (q_move rfl (by decide)) ?_)
      refine list_cons rfl (op_q (q_assign rfl (by decide)) ?_)
      refine list_cons rfl (op_q (q_assign rfl (by decide)) ?_)
      refine list_nil ?_
      refine hK13 _ ?_; clear hK13 K13
      refine code_ret ?_
      refine ends_ret (cs := []) rfl rfl rfl rfl trivial ?_
      first
        | (rw [show t32.toNat = fr.length by omega, List.take_length] at hL
           subst hL
           simp only [if_pos hP, decide_eq_true hP]; done)
        | (have e : ¬ BlkP k fr := fun e => by have := e.2; first | exact absurd e.1 (by assumption) | omega
           simp only [if_neg e, decide_eq_false e]; rfl)
  simp only [Bool.false_eq_true, if_true, if_false, Decidable.not_not] at h1
  (try simp only [Decidable.not_not] at h1); (try have hg := (h1 : GdP k fr); try have hk := hg.1; try have hF := hg.2; try have h12 := hF.1; try have hfl := fl_len fr)
  refine list_guard_n rfl rfl rfl rfl (by decide) rfl ?_
  refine list_guard_n rfl rfl rfl rfl (by decide) rfl ?_
  refine list_guard_n rfl rfl rfl rfl (by decide) rfl ?_
  refine list_cons rfl (op_q (q_pick rfl rfl (by decide)) ?_)
  refine list_nil ?_
  refine hK4 _ ?_; clear hK4 K4
  refine code_cond_t rfl ?_
  refine code_seq (fun K14 hK14 => ?_)
  refine code_region ?_
  refine list_cons rfl (op_buildSlice sl_24 (parts := []) rfl rfl rfl (by decide) (by decide) (by decide) rfl ?_)
  refine list_cons rfl (op_q (q_assign rfl (by decide)) ?_)
  refine list_cons rfl (op_q (q_assign rfl (by decide)) ?_)
  refine list_nil ?_
  refine hK14 _ ?_; clear hK14 K14
  refine code_ret ?_
  refine then_r ?_; clear hK2 K2
  refine ends_ret (cs := []) rfl rfl rfl rfl trivial ?_
  first
    | (rw [show t32.toNat = fr.length by omega, List.take_length] at hL
       subst hL
       simp only [if_pos hP, decide_eq_true hP]; done)
    | (have e : ¬ BlkP k fr := fun e => by have := e.2; first | exact absurd e.1 (by assumption) | omega
       simp only [if_neg e, decide_eq_false e]; rfl)
theorem or_p2 {a i : Nat} (hi : i < 6) (ha : a < p2 i) : a ||| p2 i = a + p2 i := by
  have key : ∀ i : Fin 6, ∀ a : Fin 64, a.val < p2 i.val → a.val ||| p2 i.val = a.val + p2 i.val := by decide +kernel
  have h : p2 i ≤ p2 6 := Nat.pow_le_pow_right (by omega) (by omega)
  have h6 : p2 6 = 64 := by decide
  exact key ⟨i, hi⟩ ⟨a, by omega⟩ ha
theorem p2_32 {i : Nat} (h : i < 6) : p2 i ≤ 32 := Nat.pow_le_pow_right (show 0 < 2 by omega) (show i ≤ 5 by omega)
def wdL (l : List Int) : Nat → List (Int × Int)
  | 0 => []
  | c + 1 => if flF l ((c + 1 : Nat) : Int) ≠ 0 ∧ csN l (flF l ((c + 1 : Nat) : Int)).toNat l.length = c + 1 then wdL l c ++ [(((c + 1 : Nat) : Int), flF l ((c + 1 : Nat) : Int))] else wdL l c
theorem wdL_len (l : List Int) : ∀ c, (wdL l c).length ≤ c
  | 0 => Nat.le_refl _
  | c + 1 => by
    have := wdL_len l c
    unfold wdL
    split
    · rw [List.length_append]; simp; omega
    · omega
theorem wdL_mem {l : List Int} {s : Int × Int} : ∀ {m : Nat}, s ∈ wdL l m ↔ ∃ c : Nat, 1 ≤ c ∧ c ≤ m ∧ s = ((c : Int), flF l (c : Int)) ∧ flF l (c : Int) ≠ 0 ∧ csN l (flF l (c : Int)).toNat l.length = c
  | 0 => by
    constructor
    · intro h; simp [wdL] at h
    · rintro ⟨c, h1, h2, _⟩; omega
  | m + 1 => by
    have ih := wdL_mem (l := l) (s := s) (m := m)
    unfold wdL
    constructor
    · intro h
      split at h
      · rename_i hc
        rcases List.mem_append.1 h with k | k
        · obtain ⟨c, h1, h2, h3⟩ := ih.1 k; exact ⟨c, h1, by omega, h3⟩
        · exact ⟨m + 1, by omega, by omega, List.mem_singleton.1 k, hc.1, hc.2⟩
      · obtain ⟨c, h1, h2, h3⟩ := ih.1 h; exact ⟨c, h1, by omega, h3⟩
    · rintro ⟨c, h1, h2, h3, h4, h5⟩
      by_cases e : c = m + 1
      · subst e; rw [if_pos ⟨h4, h5⟩]; exact List.mem_append.2 (.inr (List.mem_singleton.2 h3))
      · have := ih.2 ⟨c, h1, by omega, h3, h4, h5⟩
        split
        · exact List.mem_append.2 (.inl this)
        · exact this
theorem wdL_yes {l : List Int} {cells : Int} (h1 : 1 ≤ cells) (h2 : flF l cells ≠ 0) (h3 : ((csN l (flF l cells).toNat l.length : Nat) : Int) = cells) : wdL l ((cells + 1).toNat - 1) = wdL l (cells.toNat - 1) ++ [(cells, flF l cells)] := by
  obtain ⟨c, rfl⟩ : ∃ c : Nat, cells = ((c + 1 : Nat) : Int) := ⟨cells.toNat - 1, by omega⟩
  rw [show (((c + 1 : Nat) : Int) + 1).toNat - 1 = c + 1 by omega, show ((c + 1 : Nat) : Int).toNat - 1 = c by omega, wdL, if_pos ⟨h2, by omega⟩]
theorem wdL_no {l : List Int} {cells : Int} (h1 : 1 ≤ cells) (h2 : ¬ (flF l cells ≠ 0 ∧ ((csN l (flF l cells).toNat l.length : Nat) : Int) = cells)) : wdL l ((cells + 1).toNat - 1) = wdL l (cells.toNat - 1) := by
  obtain ⟨c, rfl⟩ : ∃ c : Nat, cells = ((c + 1 : Nat) : Int) := ⟨cells.toNat - 1, by omega⟩
  rw [show (((c + 1 : Nat) : Int) + 1).toNat - 1 = c + 1 by omega, show ((c + 1 : Nat) : Int).toNat - 1 = c by omega, wdL, if_neg fun z => h2 ⟨z.1, by omega⟩]
theorem bits_eq {a b : Nat} (ha : a < 64) (hb : b < 64) (h : ∀ x, x < 6 → (a / 2 ^ x % 2 = 1 ↔ b / 2 ^ x % 2 = 1)) : a = b := by
  have key : ∀ a b : Fin 64, (∀ x : Fin 6, (a.val / 2 ^ x.val % 2 = 1 ↔ b.val / 2 ^ x.val % 2 = 1)) → a = b := by decide +kernel
  exact congrArg Fin.val (key ⟨a, ha⟩ ⟨b, hb⟩ fun x => h x.val x.isLt)
theorem p2_64e {n : Nat} (h : n ≤ 6) : p2 n ≤ 64 := by
  have := p2_le6 (k := (n : Int)) (by omega)
  rw [Int.toNat_natCast] at this; exact this.2
theorem whl_cs {l : List Int} (hl : RowP l) {c : Nat} (hc : c < p2 l.length) : csN l (flF l (c : Int)).toNat l.length = c ↔ Whl l (c : Int) (flF l (c : Int)) := by
  have h6 := hl.1
  have hp := p2_64e h6
  have hbt := csN_bt l (flF l (c : Int)).toNat l.length h6
  have hlt := csN_lt l (flF l (c : Int)).toNat l.length
  have hfb := flF_bd l (c : Int)
  constructor
  · intro h i hi hni e
    rw [h] at hbt
    exact hni ((hbt i).2 ⟨hi, by omega⟩)
  · intro h
    refine bits_eq (by omega) (by omega) fun x hx => ?_
    have b1 := bt_bit7 (v := ((csN l (flF l (c : Int)).toNat l.length : Nat) : Int)) (by omega) (by omega) x
    have b2 := bt_bit7 (v := (c : Int)) (by omega) (by omega) x
    rw [Int.toNat_natCast] at b1 b2
    rw [← b1, ← b2, hbt x]
    constructor
    · intro ⟨k1, k2⟩
      exact Decidable.not_not.1 fun hn => h x k1 hn (by omega)
    · intro k
      have k1 : x < l.length := bt_lt (n := l.length) (by omega) h6 (by omega) hx k
      refine ⟨k1, ?_⟩
      have := fulN_sub (l := l) (c := (c : Int)) k1 k
      unfold flF
      rw [Int.toNat_natCast, Nat.and_comm]; exact this
def wtd (l : List Int) : List Int := l ++ List.replicate (6 - l.length) 0
theorem wtd_len {l : List Int} (h : l.length ≤ 6) : (wtd l).length = 6 := by
  unfold wtd; rw [List.length_append, List.length_replicate]; omega
theorem wtd_at (l : List Int) (j : Nat) : (wtd l).getD j 0 = l.getD j 0 := by
  unfold wtd
  by_cases h : j < l.length
  · rw [List.getD_eq_getElem?_getD, List.getElem?_append_left h, ← List.getD_eq_getElem?_getD]
  · rw [List.getD_eq_getElem?_getD, List.getElem?_append_right (by omega), List.getElem?_replicate, List.getD_eq_getElem?_getD, List.getElem?_eq_none (by omega)]
    split <;> rfl
theorem wtd_get {l : List Int} (hl : l.length ≤ 6) {j : Nat} (h : j < 6) : ((wtd l).map (PV.int .i64))[j]? = some (PV.int .i64 (l.getD j 0)) := by
  rw [List.getElem?_map, List.getElem?_eq_getElem (by rw [wtd_len hl]; exact h), ← wtd_at l j, List.getD_eq_getElem?_getD, List.getElem?_eq_getElem (by rw [wtd_len hl]; exact h)]; rfl
theorem RowP.all {l : List Int} (h : RowP l) (j : Nat) : 0 ≤ l.getD j 0 ∧ l.getD j 0 ≤ 127 := by
  by_cases hj : j < l.length
  · exact h.at hj
  · rw [List.getD_eq_getElem?_getD, List.getElem?_eq_none (by omega)]; exact ⟨Int.le_refl _, by decide⟩
def lfW (l seen : List Int) : List Int := (List.range l.length).map fun x => an (l.getD x 0) (seen.getD x 0)
theorem lfW_len (l seen : List Int) : (lfW l seen).length = l.length := by simp [lfW]
theorem lfW_at {l seen : List Int} {x : Nat} (h : x < l.length) : (lfW l seen).getD x 0 = an (l.getD x 0) (seen.getD x 0) := rng_at h
def SnP (l seen : List Int) : Prop := seen.length = 6 ∧ (∀ j, 0 ≤ seen.getD j 0 ∧ seen.getD j 0 ≤ 127) ∧ ∀ j, (seen.getD j 0).toNat &&& (l.getD j 0).toNat = (seen.getD j 0).toNat
theorem an_zero {a b : Int} (ha : 0 ≤ a ∧ a ≤ 127) (hb : 0 ≤ b ∧ b ≤ 127) (h : b.toNat &&& a.toNat = b.toNat) : an a b = 0 ↔ b = a := by
  have key : ∀ a b : Fin 128, b.val &&& a.val = b.val → (a.val ^^^ (a.val &&& b.val) = 0 ↔ b.val = a.val) := by decide +kernel
  have k := key ⟨a.toNat, by omega⟩ ⟨b.toNat, by omega⟩ h
  have k : (a.toNat ^^^ (a.toNat &&& b.toNat) = 0 ↔ b.toNat = a.toNat) := k
  unfold an
  constructor
  · intro e
    have := k.1 (by omega); omega
  · intro e
    have := k.2 (by rw [e]); omega
theorem all_z {l seen : List Int} (hl : RowP l) (hs : SnP l seen) : AllZ (lfW l seen) ↔ seen = wtd l := by
  have h6 := hl.1
  constructor
  · intro h
    apply List.ext_getElem (by rw [hs.1, wtd_len h6])
    intro j h1 h2
    have e : seen.getD j 0 = (wtd l).getD j 0 := by
      rw [wtd_at]
      by_cases hj : j < l.length
      · have h3 := h j (by rw [lfW_len]; exact hj)
        rw [lfW_at hj] at h3
        exact (an_zero (hl.at hj) (hs.2.1 j) (hs.2.2 j)).1 h3
      · have h4 := hs.2.2 j
        have h5 : l.getD j 0 = 0 := by rw [List.getD_eq_getElem?_getD, List.getElem?_eq_none (by omega)]; rfl
        have h7 := hs.2.1 j
        rw [h5] at h4 ⊢
        rw [Int.toNat_zero, Nat.and_zero] at h4
        omega
    rw [List.getD_eq_getElem?_getD, List.getElem?_eq_getElem h1, List.getD_eq_getElem?_getD, List.getElem?_eq_getElem h2] at e
    exact e
  · intro h j hj
    rw [lfW_len] at hj
    rw [lfW_at hj, h, wtd_at]
    exact (an_zero (hl.at hj) (hl.at hj) (Nat.and_self _)).2 rfl
theorem neg_lb {v : Int} (h0 : 0 < v) (h1 : v ≤ 127) : iand .i64 v (IntKind.i64.wrap (0 - v)) = ((p2 (lbI v.toNat) : Nat) : Int) := by
  have key : ∀ v : Fin 128, v.val ≠ 0 → iand .i64 ((v.val : Nat) : Int) (IntKind.i64.wrap (0 - ((v.val : Nat) : Int))) = ((p2 (lbI v.val) : Nat) : Int) := by decide +kernel
  have := key ⟨v.toNat, by omega⟩ (by show v.toNat ≠ 0; omega)
  rw [show (((⟨v.toNat, by omega⟩ : Fin 128).val : Nat) : Int) = v from Int.toNat_of_nonneg (by omega)] at this
  exact this
theorem and_p2 {v : Int} (h0 : 0 ≤ v) (h1 : v ≤ 127) {x : Nat} (hx : x < 7) : ((v.toNat &&& (((p2 x : Nat) : Int)).toNat : Nat) : Int) ≠ 0 ↔ bt v x := by
  have key : ∀ v : Fin 128, ∀ x : Fin 7, v.val &&& p2 x.val ≠ 0 ↔ v.val / 2 ^ x.val % 2 = 1 := by decide +kernel
  have k : v.toNat &&& p2 x ≠ 0 ↔ v.toNat / 2 ^ x % 2 = 1 := key ⟨v.toNat, by omega⟩ ⟨x, hx⟩
  rw [bt_bit7 h0 h1 x, ← k, Int.toNat_natCast]; omega
theorem or_sub {a b c : Nat} (h1 : a &&& c = a) (h2 : b &&& c = b) : (a ||| b) &&& c = a ||| b := by
  rw [Nat.and_comm, Nat.and_or_distrib_left, Nat.and_comm c a, Nat.and_comm c b, h1, h2]
theorem an_or (a s f : Nat) : a ^^^ (a &&& (s ||| f)) = (a ^^^ (a &&& s)) ^^^ ((a ^^^ (a &&& s)) &&& f) := by
  apply Nat.eq_of_testBit_eq
  intro i
  simp only [Nat.testBit_xor, Nat.testBit_and, Nat.testBit_or]
  cases a.testBit i <;> cases s.testBit i <;> cases f.testBit i <;> rfl
theorem sn_wi {l seen : List Int} (hl : RowP l) (hs : SnP l seen) {c : Nat} (hc : c < p2 l.length) : SnP l (wiS seen (c : Int) (flF l (c : Int)) 6) := by
  have h6 := hl.1
  have hfb := flF_bd l (c : Int)
  refine ⟨wiS_len _ _ _ _, fun j => ?_, fun j => ?_⟩
  · by_cases hj : j < 6
    · exact wiS_le hs.2.1 hfb _ 6 hj
    · rw [List.getD_eq_getElem?_getD, List.getElem?_eq_none (by rw [wiS_len]; omega)]; exact ⟨Int.le_refl _, by decide⟩
  · by_cases hj : j < 6
    · rw [wiS_at _ _ _ _ hj]
      split
      · rename_i hb
        have hjl : j < l.length := bt_lt (n := l.length) (by omega) h6 (by omega) hj hb.2
        rw [Int.toNat_natCast]
        refine or_sub (hs.2.2 j) ?_
        have := fulN_sub (l := l) (c := (c : Int)) hjl hb.2
        unfold flF; rw [Int.toNat_natCast]; exact this
      · exact hs.2.2 j
    · rw [List.getD_eq_getElem?_getD, List.getElem?_eq_none (by rw [wiS_len]; omega)]
      show (0 : Int).toNat &&& _ = (0 : Int).toNat
      rw [Int.toNat_zero, Nat.zero_and]
theorem lf_wi {l seen : List Int} (hl : RowP l) {c : Nat} : lfW l (wiS seen (c : Int) (flF l (c : Int)) 6) = lfK l (lfW l seen) (c : Int) (lfW l seen).length := by
  have h6 := hl.1
  unfold lfK
  rw [lfW_len]
  show (List.range l.length).map _ = _
  apply List.map_congr_left
  intro x hx
  have hx := List.mem_range.1 hx
  rw [lfW_at hx, wiS_at _ _ _ _ (by omega)]
  by_cases hb : bt (c : Int) x
  · rw [if_pos ⟨by omega, hb⟩, if_pos ⟨hx, hb⟩]
    unfold an
    rw [Int.toNat_natCast, Int.toNat_natCast, an_or]
  · rw [if_neg fun z => hb z.2, if_neg fun z => hb z.2]
def PcS (l seen : List Int) (n : Nat) (mc mb c b : Int) : Prop := (((c.toNat &&& mc.toNat : Nat) : Int) ≠ 0 ∧ ((b.toNat &&& mb.toNat : Nat) : Int) ≠ 0) ∧ Cov l n (lfW l (wiS seen c b 6))
instance (l seen : List Int) (n : Nat) (mc mb c b : Int) : Decidable (PcS l seen n mc mb c b) := by unfold PcS; infer_instance
theorem wdL_at {l : List Int} {m j : Nat} (h : j < (wdL l m).length) : ∃ c : Nat, 1 ≤ c ∧ c ≤ m ∧ (wdL l m).getD j (0, 0) = ((c : Int), flF l (c : Int)) ∧ flF l (c : Int) ≠ 0 ∧ csN l (flF l (c : Int)).toNat l.length = c := by
  have hm : (wdL l m).getD j (0, 0) ∈ wdL l m := by rw [List.getD_eq_getElem?_getD, List.getElem?_eq_getElem h]; exact List.getElem_mem _
  exact wdL_mem.1 hm
theorem lfW_bd {l seen : List Int} (hl : RowP l) {x : Nat} (h : x < l.length) : 0 ≤ (lfW l seen).getD x 0 ∧ (lfW l seen).getD x 0 ≤ 127 := by
  rw [lfW_at h]; exact an_le _ _ (hl.at h)
theorem cov_step {l seen : List Int} (hl : RowP l) (hp : 0 < l.length) {n : Nat} (hz : ¬ AllZ (lfW l seen)) : (∃ j, j < (wdL l (p2 l.length - 1)).length ∧ PcS l seen n ((p2 (fsI (lfW l seen)) : Nat) : Int) ((p2 (lbI ((lfW l seen).getD (fsI (lfW l seen)) 0).toNat) : Nat) : Int) ((wdL l (p2 l.length - 1)).getD j (0, 0)).1 ((wdL l (p2 l.length - 1)).getD j (0, 0)).2) ↔ Cov l (n + 1) (lfW l seen) := by
  have h6 := hl.1
  have hp64 := p2_64e h6
  obtain ⟨f1, f2, _⟩ := fs_ok hz
  rw [lfW_len] at f1
  have hv := lfW_bd (seen := seen) hl f1
  obtain ⟨k1, _⟩ := lb_bt (v := (lfW l seen).getD (fsI (lfW l seen)) 0) (by omega) hv.2
  have hcb : ∀ c : Nat, c < p2 l.length → (((((c : Int)).toNat &&& (((p2 (fsI (lfW l seen)) : Nat) : Int)).toNat : Nat) : Int) ≠ 0 ↔ bt (c : Int) (fsI (lfW l seen))) := fun c hc => and_p2 (by omega) (by omega) (by omega)
  have hfb : ∀ c : Nat, ((((flF l (c : Int)).toNat &&& (((p2 (lbI ((lfW l seen).getD (fsI (lfW l seen)) 0).toNat) : Nat) : Int)).toNat : Nat) : Int) ≠ 0 ↔ bt (flF l (c : Int)) (lbI ((lfW l seen).getD (fsI (lfW l seen)) 0).toNat)) := fun c => and_p2 (flF_bd _ _).1 (flF_bd _ _).2 k1
  constructor
  · rintro ⟨j, hj, hq⟩
    obtain ⟨c, c1, c2, c3, c4, c5⟩ := wdL_at hj
    rw [c3] at hq
    obtain ⟨⟨q1, q2⟩, q3⟩ := hq
    refine .inr ⟨c, by omega, ⟨c1, (hcb c (by omega)).1 q1, (hfb c).1 q2, (whl_cs hl (by omega)).1 c5⟩, ?_⟩
    rw [← lf_wi hl]; exact q3
  · rintro (h | ⟨c, hc, ⟨c1, c2, c3, c4⟩, c5⟩)
    · exact absurd h hz
    · have hne : flF l (c : Int) ≠ 0 := fun e => by
        rw [e] at c3
        have := (bt_bit7 (v := 0) (by omega) (by omega) _).1 c3
        simp at this
      have hm : ((c : Int), flF l (c : Int)) ∈ wdL l (p2 l.length - 1) := wdL_mem.2 ⟨c, c1, by omega, rfl, hne, (whl_cs hl hc).2 c4⟩
      obtain ⟨j, hj, he⟩ := List.getElem_of_mem hm
      refine ⟨j, hj, ?_⟩
      have e : (wdL l (p2 l.length - 1)).getD j (0, 0) = ((c : Int), flF l (c : Int)) := by rw [List.getD_eq_getElem?_getD, List.getElem?_eq_getElem hj]; exact he
      rw [e]
      refine ⟨⟨(hcb c hc).2 c2, (hfb c).2 c3⟩, ?_⟩
      rw [lf_wi hl]; exact c5
theorem mc_bd {l seen : List Int} (hl : RowP l) (hz : ¬ AllZ (lfW l seen)) : (0 ≤ ((p2 (fsI (lfW l seen)) : Nat) : Int) ∧ ((p2 (fsI (lfW l seen)) : Nat) : Int) ≤ 127) ∧ 0 ≤ ((p2 (lbI ((lfW l seen).getD (fsI (lfW l seen)) 0).toNat) : Nat) : Int) ∧ ((p2 (lbI ((lfW l seen).getD (fsI (lfW l seen)) 0).toNat) : Nat) : Int) ≤ 127 := by
  obtain ⟨f1, f2, _⟩ := fs_ok hz
  rw [lfW_len] at f1
  have h6 := hl.1
  have hv := lfW_bd (seen := seen) hl f1
  obtain ⟨k1, _⟩ := lb_bt (v := (lfW l seen).getD (fsI (lfW l seen)) 0) (by omega) hv.2
  have a1 := p2_64e (n := fsI (lfW l seen)) (by omega)
  have a2 := p2_64e (n := lbI ((lfW l seen).getD (fsI (lfW l seen)) 0).toNat) (by omega)
  omega
theorem hasK_e : ∀ (n : Nat) (l : List Int), n ≤ l.length → HasK (List.replicate n [BK.int .i64]).flatten (l.map (PV.int .i64))
  | 0, _, _ => trivial
  | n + 1, [], h => absurd h (by simp)
  | n + 1, x :: l, h => by
    rw [List.replicate_succ, List.flatten_cons]
    exact ⟨PV.int .i64 x, l.map (PV.int .i64), rfl, ⟨x, rfl⟩, hasK_e n l (by simpa using h)⟩
theorem eqP_e : ∀ (a b : List Int), a.length = b.length → (EqP (a.map (PV.int .i64)) (b.map (PV.int .i64)) ↔ a = b)
  | [], [], _ => by simp [EqP]
  | [], _ :: _, h => by simp at h
  | _ :: _, [], h => by simp at h
  | x :: a, y :: b, h => by
    have ih := eqP_e a b (by simpa using h)
    simp only [List.map_cons, EqP, Eq1, ih, List.cons.injEq]
theorem tk6 {l : List Int} (h : l.length = 6) : (l.map (PV.int .i64)).take 6 = l.map (PV.int .i64) := List.take_of_length_le (by rw [List.length_map, h]; exact Nat.le_refl _)
theorem ld6 {l : List Int} (h : l.length = 6) : List.take 6 (List.drop 0 (l.map (PV.int .i64))) = l.map (PV.int .i64) := tk6 h
theorem pcalls_exm {P : Program} {f : FuncId} {ps : List PV} {p : PV} (h : MCalls P f true none ps fun rs _ => rs = [.val p]) : PCalls P f ps (· = [.val p]) := ⟨h.ent, fun C G0 v0 vs hp h1 _ h2 _ h4 => by
  let C' : Ctx := { C with ex := fun b => C.ex b ∨ ∃ i, C.Fp i b, gl := C.gl.mono (fun _ _ => rfl) (fun b h => .inl h) }
  have hr := h.run C' G0 v0 vs hp ⟨h1.1, fun b hb => by
    rcases hb with k | ⟨i, k⟩
    · exact h1.2 b k
    · exact h1.1 i b k⟩ (fun _ i b hb => .inr ⟨i, hb⟩) h2 (fun x hx => by cases hx) h4
  refine hr.mono fun e w' hx => ?_
  obtain ⟨v, rs, cs', a, b, c, G, us, d1, d2, d3, d4, d5, d6⟩ := hx
  subst b
  exact ⟨v, _, cs', a, rfl, c, G, us, d1, d2, d3, d4, d5, fun x hx => by cases hx⟩⟩
theorem wtd_put {l : List Int} (h : l.length ≤ 6) : putAt (List.replicate 6 (PV.int .i64 0)) 0 (l.map (PV.int .i64)) = (wtd l).map (PV.int .i64) := by
  unfold putAt wtd
  rw [List.take_zero, List.nil_append, Nat.zero_add, List.length_map, List.drop_replicate, List.map_append, List.map_replicate]
theorem plnK_nz (l : List Int) : ∀ i, i ≤ l.length → (plnK l i).length = nzC (l.take i)
  | 0, _ => by simp [plnK, nzC]
  | i + 1, h => by
    have ih := plnK_nz l i (by omega)
    have ha : ∀ (a : List Int) (x : Int), nzC (a ++ [x]) = nzC a + (if x = 0 then 0 else 1) := by
      intro a x
      induction a with
      | nil => simp only [List.nil_append, nzC]; split <;> rfl
      | cons y a ih => simp only [List.cons_append, nzC, ih]; split <;> omega
    rw [List.take_add_one, List.getElem?_eq_getElem (by omega), Option.toList_some, ha]
    have hg : l.getD i 0 = l[i] := by rw [List.getD_eq_getElem?_getD, List.getElem?_eq_getElem (by omega)]; rfl
    unfold plnK
    by_cases e : l[i] = 0
    · rw [if_neg (by rw [hg]; exact fun z => z e), if_pos e, ih]; rfl
    · rw [if_pos (by rw [hg]; exact e), if_neg e, List.length_append, ih]; rfl
theorem lfW_0 {l : List Int} (hl : RowP l) : lfW l (List.replicate 6 0) = l := by
  apply List.ext_getElem (lfW_len _ _)
  intro j h1 h2
  have e := lfW_at (l := l) (seen := List.replicate 6 0) h2
  rw [List.getD_eq_getElem?_getD, List.getElem?_eq_getElem h1] at e
  have hz : (List.replicate 6 (0 : Int)).getD j 0 = 0 := by
    rw [List.getD_eq_getElem?_getD, List.getElem?_replicate]; split <;> rfl
  have hg := hl.at h2
  rw [hz] at e
  have hx : l.getD j 0 = l[j] := by rw [List.getD_eq_getElem?_getD, List.getElem?_eq_getElem h2]; rfl
  rw [← hx]
  refine Eq.trans e ?_
  unfold an
  rw [Int.toNat_zero, Nat.and_zero, Nat.xor_zero]; omega
theorem sn_0 (l : List Int) : SnP l (List.replicate 6 0) := ⟨rfl, fun j => by
  rw [List.getD_eq_getElem?_getD, List.getElem?_replicate]; split <;> exact ⟨Int.le_refl _, by decide⟩, fun j => by
  have hz : (List.replicate 6 (0 : Int)).getD j 0 = 0 := by
    rw [List.getD_eq_getElem?_getD, List.getElem?_replicate]; split <;> rfl
  rw [hz, Int.toNat_zero, Nat.zero_and]⟩
set_option maxRecDepth 8000 in
set_option maxHeartbeats 4000000 in
theorem impl_cellsWith (l : List Int) (b : Int) (hl : RowP l) (hb : 0 ≤ b ∧ b ≤ 127) : PCalls Try.prog 93 [.sl l.length (l.map (.int .i64)), .int .i64 b] (· = [.val (.int .i64 (((csN l b.toNat l.length : Nat) : Int)))]) := by
  refine pcalls_of_code (n := 26) az Try.func93 (by kernel_rfl) rfl rfl (Nat.le_of_ble_eq_true rfl) (by intro t u h; simp [Try.f93] at h) ?_
  have h6 := hl.1
  refine code_seq (fun K1 hK1 => ?_)
  refine code_region ?_
  refine list_cons rfl (op_q (q_assign rfl (by decide)) ?_)
  refine list_nil ?_
  refine hK1 _ ?_; clear hK1 K1
  refine code_seq (fun K2 hK2 => ?_)
  refine code_region ?_
  refine list_cons rfl (op_q (q_assign rfl (by decide)) ?_)
  refine list_nil ?_
  refine hK2 _ ?_; clear hK2 K2
  refine code_seq (fun K3 hK3 => ?_)
  refine code_seq (fun K4 hK4 => ?_)
  refine code_region ?_
  refine list_cons rfl (op_q (q_move rfl (by decide)) ?_)
  refine list_cons rfl (op_q (q_len_sl Try.underlying27 rfl rfl (by decide)) ?_)
  refine list_cons rfl (op_q (q_move rfl (by decide)) ?_)
  refine list_nil ?_
  refine hK4 _ ?_; clear hK4 K4
  refine code_block ?_
  refine code_loop (X := Int × Int × Int) (fun x => [(0, .par 0 (.sl l.length (l.map (.int .i64)))), (1, .val (.int .i64 b)), (4, .val (.int .i64 x.1)), (5, .val (.int .i64 x.2.1)), (8, .par 0 (.sl l.length (l.map (.int .i64)))), (9, .val (.int .i64 l.length)), (10, .val (.int .i64 x.2.2))]) (fun x => 0 ≤ x.2.2 ∧ x.2.2 ≤ l.length ∧ x.2.1 = ((csN l b.toNat x.2.2.toNat : Nat) : Int)) (fun x => (l.length - x.2.2).toNat) (_, _, _) (imp_covers ⟨rfl, rfl, rfl, rfl, rfl, rfl, rfl, trivial⟩) ?_ ?_
  · (try dsimp only)
    exact ⟨by omega, by omega, rfl⟩
  · intro x hI
    obtain ⟨t4, cells, t10⟩ := x
    replace hI : 0 ≤ t10 ∧ t10 ≤ l.length ∧ cells = ((csN l b.toNat t10.toNat : Nat) : Int) := hI
    show codeT _ _ _ [(0, .par 0 (.sl l.length (l.map (.int .i64)))), (1, .val (.int .i64 b)), (4, .val (.int .i64 t4)), (5, .val (.int .i64 cells)), (8, .par 0 (.sl l.length (l.map (.int .i64)))), (9, .val (.int .i64 l.length)), (10, .val (.int .i64 t10))] _
    obtain ⟨i1, i2, rfl⟩ := hI
    have hg := fun h : t10.toNat < l.length => hl.at h
    have hcs := csN_lt l b.toNat t10.toNat
    have hp3 := fun h : t10 < l.length => p2_32 (i := t10.toNat) (by omega)
    have hor := fun h : t10 < l.length => or_p2 (i := t10.toNat) (by omega) hcs
    refine code_seq (fun K5 hK5 => ?_)
    refine code_region ?_
    refine list_cons rfl (op_q (q_lt rfl rfl (by decide)) ?_)
    refine list_nil ?_
    refine hK5 _ ?_; clear hK5 K5
    refine code_seq (fun K6 hK6 => ?_)
    refine code_cond_d rfl (fun h1 => ?_) (fun h1 => ?_)
    · skip
      (try simp only [Decidable.not_not] at h1)
      refine code_skip ?_
      refine hK6 _ ?_; clear hK6 K6
      refine code_seq (fun K7 hK7 => ?_)
      refine code_block ?_
      refine code_seq (fun K8 hK8 => ?_)
      refine code_region ?_
      refine list_cons rfl (op_q (q_move rfl (by decide)) ?_)
      refine list_cons rfl (op_q (q_indexAddr_rd sl_27 rfl (.inl ⟨_, rfl, rfl⟩) rfl (by omega) (by omega) (by decide)) ?_)
      refine list_cons rfl (op_q (q_load_rd one_3 rfl (.inl ⟨_, (by first | rfl | exact congrArg (SV.rpar _) (drop_map1 _ 0 _ (by first | omega | (simp; omega)))), rfl⟩) (by decide)) ?_)
      refine list_cons rfl (op_q (q_assign rfl (by decide)) ?_)
      refine list_cons rfl (op_q (q_assign rfl (by decide)) ?_)
      refine list_nil ?_
      refine hK8 _ ?_; clear hK8 K8
      refine code_seq (fun K9 hK9 => ?_)
      refine code_region ?_
      refine list_cons rfl (op_q (q_move rfl (by decide)) ?_)
      refine list_cons rfl (op_q (q_move rfl (by decide)) ?_)
      refine list_cons rfl (op_q (by first | exact q_andI rfl rfl (by decide) (by omega) (by omega) (by omega) (by omega) | exact q_ib rfl rfl rfl (by decide)) ?_)
      refine list_cons rfl (op_q (q_move rfl (by decide)) ?_)
      refine list_cons rfl (op_q (q_eq rfl rfl (by decide)) ?_)
      refine list_nil ?_
      refine hK9 _ ?_; clear hK9 K9
      refine codeT.imp (σ' := [(0, _), (1, _), (4, _), (5, _), (6, _), (7, _), (8, _), (9, _), (10, _), (19, _)]) ?_ (imp_covers ⟨rfl, rfl, rfl, rfl, rfl, rfl, rfl, rfl, rfl, rfl, trivial⟩)
      refine code_cond_d rfl (fun h2 => ?_) (fun h2 => ?_)
      · skip
        (try simp only [Decidable.not_not] at h2)
        refine code_region ?_
        refine list_cons rfl (op_q (q_move rfl (by decide)) ?_)
        refine list_cons rfl (op_q (q_move rfl (by decide)) ?_)
        refine list_cons rfl (op_q (by first | exact q_shl1 rfl rfl (by decide) (by omega) (by omega) | exact q_shlI rfl rfl (by decide) (by omega) (by omega) (by omega) | exact q_shl rfl rfl (by omega) (by decide)) ?_)
        refine list_cons rfl (op_q (by first | exact q_orI rfl rfl (by decide) (by omega) (by omega) (by omega) (by omega) | exact q_ib rfl rfl rfl (by decide)) ?_)
        refine list_cons rfl (op_q (q_assign rfl (by decide)) ?_)
        refine list_nil ?_
        refine blk_n ?_
        refine hK7 _ ?_; clear hK7 K7
        refine code_region ?_
        refine list_cons rfl (op_q (by first | exact q_addI rfl rfl (by decide) (by omega) (by omega) | exact q_ib rfl rfl rfl (by decide)) ?_)
        refine list_cons rfl (op_q (q_move rfl (by decide)) ?_)
        refine list_nil ?_
        refine then_n ⟨(_, _, _), imp_covers ⟨rfl, rfl, rfl, rfl, rfl, rfl, rfl, trivial⟩, ?_, ?_⟩
        · (try dsimp only)
          first
          | exact ⟨by omega, by omega, by rw [show (t10 + 1).toNat = t10.toNat + 1 by omega, csN, if_pos (by omega), Int.toNat_natCast, Int.toNat_natCast, hor (by omega)]⟩
          | exact ⟨by omega, by omega, by rw [show (t10 + 1).toNat = t10.toNat + 1 by omega, csN, if_neg (by omega)]⟩
        · (try dsimp only); omega
      (try simp only [Decidable.not_not] at h2)
      refine code_skip ?_
      refine blk_n ?_
      refine hK7 _ ?_; clear hK7 K7
      refine code_region ?_
      refine list_cons rfl (op_q (by first | exact q_addI rfl rfl (by decide) (by omega) (by omega) | exact q_ib rfl rfl rfl (by decide)) ?_)
      refine list_cons rfl (op_q (q_move rfl (by decide)) ?_)
      refine list_nil ?_
      refine then_n ⟨(_, _, _), imp_covers ⟨rfl, rfl, rfl, rfl, rfl, rfl, rfl, trivial⟩, ?_, ?_⟩
      · (try dsimp only)
        first
        | exact ⟨by omega, by omega, by rw [show (t10 + 1).toNat = t10.toNat + 1 by omega, csN, if_pos (by omega), Int.toNat_natCast, Int.toNat_natCast, hor (by omega)]⟩
        | exact ⟨by omega, by omega, by rw [show (t10 + 1).toNat = t10.toNat + 1 by omega, csN, if_neg (by omega)]⟩
      · (try dsimp only); omega
    (try simp only [Decidable.not_not] at h1)
    refine code_exit ?_
    refine then_x ?_; clear hK6 K6
    refine then_x ?_
    refine blk_hit ?_
    refine hK3 _ ?_; clear hK3 K3
    refine code_seq (fun K10 hK10 => ?_)
    refine code_region ?_
    refine list_cons rfl (op_q (q_move rfl (by decide)) ?_)
    refine list_cons rfl (op_q (q_assign rfl (by decide)) ?_)
    refine list_nil ?_
    refine hK10 _ ?_; clear hK10 K10
    refine code_ret ?_
    refine ends_ret (cs := []) rfl rfl rfl rfl trivial ?_
    first | rw [show t10.toNat = l.length by omega]
set_option maxRecDepth 8000 in
set_option maxHeartbeats 4000000 in
theorem impl_widestSlots (l : List Int) (hP : PlnP l) : MCalls Try.prog 64 true none [.sl l.length (l.map (.int .i64))] (fun rs _ => rs = [.own 0 62 2 (wdL l (p2 l.length - 1)).length (fl (wdL l (p2 l.length - 1)))]) := by
  refine mcalls_of_code (n := 40) az Try.func64 (by kernel_rfl) rfl rfl (Nat.le_of_ble_eq_true rfl) (by intro t u h; simp [Try.f64] at h) ?_
  have h6 := hP.1.1
  have hp2 := p2_le6 (k := (l.length : Int)) (by omega)
  have hpe : p2 (l.length : Int).toNat = p2 l.length := by rw [Int.toNat_natCast]
  refine code_seq (fun K1 hK1 => ?_)
  refine code_region ?_
  refine list_cons rfl (op_q (q_assign rfl (by decide)) ?_)
  refine list_nil ?_
  refine hK1 _ ?_; clear hK1 K1
  refine code_seq (fun K2 hK2 => ?_)
  refine code_region ?_
  refine list_cons rfl (op_buildSlice sl_24 (parts := []) rfl rfl rfl (by decide) (by decide) (by decide) rfl ?_)
  refine list_cons rfl (op_q (q_assign rfl (by decide)) ?_)
  refine list_nil ?_
  refine hK2 _ ?_; clear hK2 K2
  refine code_seq (fun K3 hK3 => ?_)
  refine code_seq (fun K4 hK4 => ?_)
  refine code_region ?_
  refine list_cons rfl (op_q (q_assign rfl (by decide)) ?_)
  refine list_nil ?_
  refine hK4 _ ?_; clear hK4 K4
  refine code_block ?_
  refine code_loop (X := PV × Nat × List PV × Int) (fun x => [(0, .ext (.sl l.length (l.map (.int .i64)))), (2, .val x.1), (3, .own 7 62 2 x.2.1 x.2.2.1), (4, .val (.int .i64 x.2.2.2))]) (fun x => 1 ≤ x.2.2.2 ∧ x.2.2.2 ≤ ((p2 l.length : Nat) : Int) ∧ x.2.1 = (wdL l (x.2.2.2.toNat - 1)).length ∧ x.2.2.1 = fl (wdL l (x.2.2.2.toNat - 1))) (fun x => (((p2 l.length : Nat) : Int) - x.2.2.2).toNat) (_, _, _, _) (imp_covers ⟨rfl, rfl, rfl, rfl, trivial⟩) ?_ ?_
  · (try dsimp only)
    exact ⟨by omega, by omega, rfl, rfl⟩
  · intro x hI
    obtain ⟨t2_p, widest_n, widest_c, cells⟩ := x
    replace hI : 1 ≤ cells ∧ cells ≤ ((p2 l.length : Nat) : Int) ∧ widest_n = (wdL l (cells.toNat - 1)).length ∧ widest_c = fl (wdL l (cells.toNat - 1)) := hI
    show codeT _ _ _ [(0, .ext (.sl l.length (l.map (.int .i64)))), (2, .val t2_p), (3, .own 7 62 2 widest_n widest_c), (4, .val (.int .i64 cells))] _
    obtain ⟨i1, i2, rfl, rfl⟩ := hI
    have hwl := wdL_len l (cells.toNat - 1)
    refine code_seq (fun K5 hK5 => ?_)
    refine code_seq (fun K6 hK6 => ?_)
    refine code_region ?_
    refine list_cons rfl (op_q (q_move rfl (by decide)) ?_)
    refine list_cons rfl (op_q (q_move rfl (by decide)) ?_)
    refine list_cons rfl (op_q (q_len_sl Try.underlying27 rfl rfl (by decide)) ?_)
    refine list_cons rfl (op_q (by first | exact q_shl1 rfl rfl (by decide) (by omega) (by omega) | exact q_shlI rfl rfl (by decide) (by omega) (by omega) (by omega) | exact q_shl rfl rfl (by omega) (by decide)) ?_)
    refine list_cons rfl (op_q (q_lt rfl rfl (by decide)) ?_)
    refine list_nil ?_
    refine hK6 _ ?_; clear hK6 K6
    refine code_cond_d rfl (fun h1 => ?_) (fun h1 => ?_)
    · skip
      (try simp only [Decidable.not_not] at h1)
      refine code_skip ?_
      refine hK5 _ ?_; clear hK5 K5
      refine code_seq (fun K7 hK7 => ?_)
      refine code_block ?_
      refine code_seq (fun K8 hK8 => ?_)
      refine code_region ?_
      refine list_cons rfl (op_q (q_move rfl (by decide)) ?_)
      refine list_cons rfl (op_q (q_move rfl (by decide)) ?_)
      refine list_cons rfl (op_callM (impl_FullBars l cells (by omega)) (.tmp 0) 0 [] [.tmp 16, .tmp 17] _ rfl rfl (by intro y hy; cases hy) (by decide) (by decide) (by decide) rfl (by intro h; cases h) ?_)
      rintro _ _ rfl; have hFb : FbP l cells := ⟨hP, by omega, by omega⟩; rw [if_pos hFb, decide_eq_true hFb]; have hfb := flF_bd l cells; have hfe : ((fulN l cells l.length : Nat) : Int) = flF l cells := rfl; simp only [hfe]
      refine list_cons rfl (op_q (q_move rfl (by decide)) ?_)
      refine list_cons rfl (op_q (q_extract rfl rfl (by decide)) ?_)
      refine list_cons rfl (op_q (q_extract rfl rfl (by decide)) ?_)
      refine list_cons rfl (op_q (q_assign rfl (by decide)) ?_)
      refine list_cons rfl (op_q (q_assign rfl (by decide)) ?_)
      refine list_nil ?_
      refine hK8 _ ?_; clear hK8 K8
      refine codeT.imp (σ' := [(0, _), (2, _), (3, _), (4, _), (5, _), (6, _)]) ?_ (imp_covers ⟨rfl, rfl, rfl, rfl, rfl, rfl, trivial⟩)
      refine code_seq (fun K9 hK9 => ?_)
      refine code_region ?_
      refine list_cons rfl (op_q (q_move rfl (by decide)) ?_)
      refine list_cons rfl (op_q (q_move rfl (by decide)) ?_)
      refine list_guard_y rfl rfl rfl rfl (by decide) rfl ?_
      refine id (op_q (q_move rfl (by decide)) ?_)
      refine list_guard_y rfl rfl rfl rfl (by decide) rfl ?_
      refine id (op_q (q_ne rfl rfl (by decide)) ?_)
      refine list_cons rfl (op_q (q_pick rfl rfl (by decide)) ?_)
      refine list_cons rfl (op_q (q_move rfl (by decide)) ?_)
      refine list_guard_d rfl rfl rfl rfl (by decide) rfl (by decide) (fun h2 => ?_) (fun h2 => ?_)
      · simp only [Bool.false_eq_true, if_true, if_false, Decidable.not_not] at h2
        refine id (op_q (q_move rfl (by decide)) ?_)
        refine list_guard_y rfl rfl rfl rfl (by decide) rfl ?_
        refine id (op_q (q_move rfl (by decide)) ?_)
        refine list_guard_y rfl rfl rfl rfl (by decide) rfl ?_
        refine id (op_call _ (impl_cellsWith l (flF l cells) hP.1 (flF_bd _ _)) rfl rfl (by decide) (by decide) (by decide) rfl ?_)
        rintro _ rfl
        refine list_guard_y rfl rfl rfl rfl (by decide) rfl ?_
        refine id (op_q (q_move rfl (by decide)) ?_)
        refine list_guard_y rfl rfl rfl rfl (by decide) rfl ?_
        refine id (op_q (q_eq rfl rfl (by decide)) ?_)
        refine list_cons rfl (op_q (q_pick rfl rfl (by decide)) ?_)
        refine list_nil ?_
        refine hK9 _ ?_; clear hK9 K9
        refine codeT.imp (σ' := [(0, _), (2, _), (3, _), (4, _), (5, _), (6, _), (32, _)]) ?_ (imp_covers ⟨rfl, rfl, rfl, rfl, rfl, rfl, rfl, trivial⟩)
        refine code_cond_d rfl (fun h3 => ?_) (fun h3 => ?_)
        · skip
          (try simp only [Decidable.not_not] at h3)
          refine code_region ?_
          refine list_cons rfl (op_q (q_move rfl (by decide)) ?_)
          refine list_cons rfl (op_q (q_move rfl (by decide)) ?_)
          refine list_cons rfl (op_q (q_move rfl (by decide)) ?_)
          refine list_cons rfl (op_q (q_build bt_62 (parts := [(0, .tmp 34), (1, .tmp 35)]) rfl rfl (by decide)) ?_)
          refine list_cons rfl (op_buildSlice sl_24 (parts := [(0, .tmp 36)]) rfl rfl rfl (by decide) (by decide) (by decide) rfl ?_)
          refine list_cons rfl (op_append_gen sl_24 (l := 7) (.inl rfl) rfl rfl (l2 := none) (.inl ⟨rfl, (by first | rfl | exact flat_map _ (fun _ => rfl) _)⟩) (by first | rfl | simp | omega) (by omega) (by decide) (by decide) (by decide) ?_)
          refine list_cons rfl (op_q (q_assign rfl (by decide)) ?_)
          refine list_nil ?_
          refine blk_n ?_
          refine hK7 _ ?_; clear hK7 K7
          refine codeT.imp (σ' := [(0, _), (2, _), (3, _), (4, _), (5, _), (6, _)]) ?_ (imp_covers ⟨rfl, rfl, rfl, rfl, rfl, rfl, trivial⟩)
          refine code_region ?_
          refine list_cons rfl (op_q (q_move rfl (by decide)) ?_)
          refine list_cons rfl (op_q (by first | exact q_addI rfl rfl (by decide) (by omega) (by omega) | exact q_ib rfl rfl rfl (by decide)) ?_)
          refine list_cons rfl (op_q (q_assign rfl (by decide)) ?_)
          refine list_nil ?_
          refine then_n ⟨(_, _, _, _), imp_covers ⟨rfl, rfl, rfl, rfl, trivial⟩, ?_, ?_⟩
          · (try dsimp only)
            first
            | exact ⟨by omega, by omega, by rw [wdL_yes i1 (by assumption) (by assumption), List.length_append]; rfl, by rw [wdL_yes i1 (by assumption) (by assumption), fl_app8]; rfl⟩
            | (have hn : ¬ (flF l cells ≠ 0 ∧ ((csN l (flF l cells).toNat l.length : Nat) : Int) = cells) := fun z => by first | exact absurd z.2 (by assumption) | exact z.1 (by assumption)
               exact ⟨by omega, by omega, by rw [wdL_no i1 hn], by rw [wdL_no i1 hn]; rfl⟩)
          · (try dsimp only); omega
        (try simp only [Decidable.not_not] at h3)
        refine code_skip ?_
        refine blk_n ?_
        refine hK7 _ ?_; clear hK7 K7
        refine code_region ?_
        refine list_cons rfl (op_q (q_move rfl (by decide)) ?_)
        refine list_cons rfl (op_q (by first | exact q_addI rfl rfl (by decide) (by omega) (by omega) | exact q_ib rfl rfl rfl (by decide)) ?_)
        refine list_cons rfl (op_q (q_assign rfl (by decide)) ?_)
        refine list_nil ?_
        refine then_n ⟨(_, _, _, _), imp_covers ⟨rfl, rfl, rfl, rfl, trivial⟩, ?_, ?_⟩
        · (try dsimp only)
          first
          | exact ⟨by omega, by omega, by rw [wdL_yes i1 (by assumption) (by assumption), List.length_append]; rfl, by rw [wdL_yes i1 (by assumption) (by assumption), fl_app8]; rfl⟩
          | (have hn : ¬ (flF l cells ≠ 0 ∧ ((csN l (flF l cells).toNat l.length : Nat) : Int) = cells) := fun z => by first | exact absurd z.2 (by assumption) | exact z.1 (by assumption)
             exact ⟨by omega, by omega, by rw [wdL_no i1 hn], by rw [wdL_no i1 hn]; rfl⟩)
        · (try dsimp only); omega
      simp only [Bool.false_eq_true, if_true, if_false, Decidable.not_not] at h2
      refine list_guard_nT rfl rfl rfl rfl (by decide) (by decide) ?_
      refine list_guard_nT rfl rfl rfl rfl (by decide) (by decide) ?_
      refine list_guard_nT rfl rfl rfl rfl (by decide) (by decide) ?_
      refine list_guard_nT rfl rfl rfl rfl (by decide) (by decide) ?_
      refine list_cons rfl (op_q (q_pick rfl rfl (by decide)) ?_)
      refine list_nil ?_
      refine hK9 _ ?_; clear hK9 K9
      refine codeT.imp (σ' := [(0, _), (2, _), (3, _), (4, _), (5, _), (6, _), (32, _)]) ?_ (imp_covers ⟨rfl, rfl, rfl, rfl, rfl, rfl, rfl, trivial⟩)
      refine code_cond_f rfl ?_
      refine code_skip ?_
      refine blk_n ?_
      refine hK7 _ ?_; clear hK7 K7
      refine code_region ?_
      refine list_cons rfl (op_q (q_move rfl (by decide)) ?_)
      refine list_cons rfl (op_q (by first | exact q_addI rfl rfl (by decide) (by omega) (by omega) | exact q_ib rfl rfl rfl (by decide)) ?_)
      refine list_cons rfl (op_q (q_assign rfl (by decide)) ?_)
      refine list_nil ?_
      refine then_n ⟨(_, _, _, _), imp_covers ⟨rfl, rfl, rfl, rfl, trivial⟩, ?_, ?_⟩
      · (try dsimp only)
        first
        | exact ⟨by omega, by omega, by rw [wdL_yes i1 (by assumption) (by assumption), List.length_append]; rfl, by rw [wdL_yes i1 (by assumption) (by assumption), fl_app8]; rfl⟩
        | (have hn : ¬ (flF l cells ≠ 0 ∧ ((csN l (flF l cells).toNat l.length : Nat) : Int) = cells) := fun z => by first | exact absurd z.2 (by assumption) | exact z.1 (by assumption)
           exact ⟨by omega, by omega, by rw [wdL_no i1 hn], by rw [wdL_no i1 hn]; rfl⟩)
      · (try dsimp only); omega
    (try simp only [Decidable.not_not] at h1)
    refine code_exit ?_
    refine then_x ?_; clear hK5 K5
    refine then_x ?_
    refine blk_hit ?_
    refine hK3 _ ?_; clear hK3 K3
    refine code_seq (fun K10 hK10 => ?_)
    refine code_region ?_
    refine list_cons rfl (op_q (q_move rfl (by decide)) ?_)
    refine list_cons rfl (op_q (q_assign rfl (by decide)) ?_)
    refine list_nil ?_
    refine hK10 _ ?_; clear hK10 K10
    refine code_ret ?_
    refine ends_ret (cs := []) rfl rfl rfl rfl trivial ?_
    first | rw [show cells.toNat = p2 l.length by omega]
set_option maxRecDepth 8000 in
set_option maxHeartbeats 4000000 in
theorem impl_firstMissing (l seen : List Int) (hl : RowP l) (hs : SnP l seen) (hz : ¬ AllZ (lfW l seen)) : PCalls Try.prog 94 [.agg (seen.map (.int .i64)), .agg ((wtd l).map (.int .i64))] (· = [.val (.agg [.int .i64 ((p2 (fsI (lfW l seen)) : Nat) : Int), .int .i64 ((p2 (lbI ((lfW l seen).getD (fsI (lfW l seen)) 0).toNat) : Nat) : Int)])]) := by
  refine pcalls_of_code (n := 29) az Try.func94 (by kernel_rfl) rfl rfl (Nat.le_of_ble_eq_true rfl) (by intro t u h; simp [Try.f94] at h; obtain ⟨_, rfl⟩ := h <;> first | exact resTy_agg agg_62 (by decide)) ?_
  have h6 := hl.1
  have hsl := hs.1
  have hwl := wtd_len h6
  have hf1 := flat_map (PV.int .i64) (fun _ => rfl) seen
  have hf2 := flat_map (PV.int .i64) (fun _ => rfl) (wtd l)
  rw [show inits false 0 [.agg (seen.map (.int .i64)), .agg ((wtd l).map (.int .i64))] = [(0, SV.val (.agg (seen.map (.int .i64)))), (1, SV.val (.agg ((wtd l).map (.int .i64))))] from by simp [inits, PV.start, PV.flat, PV.flatL, hf1, hf2]]
  refine code_seq (fun K1 hK1 => ?_)
  refine code_region ?_
  refine list_cons rfl (op_box rfl (.inl ⟨rfl, (by first | assumption | rfl)⟩) (by decide) (by decide) rfl ?_)
  refine list_cons rfl (op_box rfl (.inl ⟨rfl, (by first | assumption | rfl)⟩) (by decide) (by decide) rfl ?_)
  refine list_cons rfl (op_alloc zt_62 (by decide) (by decide) rfl ?_)
  refine list_nil ?_
  refine hK1 _ ?_; clear hK1 K1
  refine code_seq (fun K2 hK2 => ?_)
  refine code_seq (fun K3 hK3 => ?_)
  refine code_region ?_
  refine list_cons rfl (op_q (q_load_agg agg_54 3 (.inr ⟨rfl, _, rfl⟩) rfl rfl (by first | (rw [List.length_map, hwl]) | (simp [PV.cells, hwl])) (by first | rfl | exact flat_part (flat_map _ (fun _ => rfl) _) _ _) (by decide)) ?_)
  refine list_cons rfl (op_q (q_move rfl (by decide)) ?_)
  refine list_nil ?_
  refine hK3 _ ?_; clear hK3 K3
  refine codeT.imp (σ' := [(0, _), (1, _), (2, _), (3, _), (4, _), (8, .val (.agg ((wtd l).map (.int .i64)))), (9, _)]) ?_ (imp_covers ⟨rfl, rfl, rfl, rfl, rfl, (congrArg (fun z => some (SV.val (PV.agg z))) (List.take_of_length_le (by rw [List.drop_zero]; show (List.map _ _).length ≤ 6; rw [List.length_map, hwl]; exact Nat.le_refl _))), rfl, trivial⟩)
  refine code_block ?_
  refine code_loop (X := List PV × Int) (fun x => [(0, .val (.agg (seen.map (.int .i64)))), (1, .val (.agg ((wtd l).map (.int .i64)))), (2, .box 2 54 (seen.map (.int .i64))), (3, .box 3 54 x.1), (4, .box 4 62 [.int .i64 0, .int .i64 0]), (8, .val (.agg ((wtd l).map (.int .i64)))), (9, .val (.int .i64 x.2))]) (fun x => 0 ≤ x.2 ∧ x.2 ≤ 6 ∧ ∀ j, j < x.2.toNat → an (l.getD j 0) (seen.getD j 0) = 0) (fun x => (6 - x.2).toNat) (_, _) (imp_covers ⟨rfl, rfl, rfl, rfl, rfl, rfl, rfl, trivial⟩) ?_ ?_
  · (try dsimp only)
    exact ⟨by omega, by omega, fun j hj => by simp at hj⟩
  · intro x hI
    obtain ⟨wanted_3_c, t9⟩ := x
    replace hI : 0 ≤ t9 ∧ t9 ≤ 6 ∧ ∀ j, j < t9.toNat → an (l.getD j 0) (seen.getD j 0) = 0 := hI
    show codeT _ _ _ [(0, .val (.agg (seen.map (.int .i64)))), (1, .val (.agg ((wtd l).map (.int .i64)))), (2, .box 2 54 (seen.map (.int .i64))), (3, .box 3 54 wanted_3_c), (4, .box 4 62 [.int .i64 0, .int .i64 0]), (8, .val (.agg ((wtd l).map (.int .i64)))), (9, .val (.int .i64 t9))] _
    obtain ⟨i1, i2, hf⟩ := hI
    have hg := RowP.all hl t9.toNat
    have hb1 := hs.2.1 t9.toNat
    refine code_seq (fun K4 hK4 => ?_)
    refine code_region ?_
    refine list_cons rfl (op_q (q_lt rfl rfl (by decide)) ?_)
    refine list_nil ?_
    refine hK4 _ ?_; clear hK4 K4
    refine code_seq (fun K5 hK5 => ?_)
    refine code_cond_d rfl (fun h1 => ?_) (fun h1 => ?_)
    · skip
      (try simp only [Decidable.not_not] at h1)
      refine code_skip ?_
      refine hK5 _ ?_; clear hK5 K5
      refine code_seq (fun K6 hK6 => ?_)
      refine code_block ?_
      refine code_seq (fun K7 hK7 => ?_)
      refine code_region ?_
      refine list_cons rfl (op_q (q_move rfl (by decide)) ?_)
      refine list_cons rfl (op_q (q_index_arr (size := 1) Try.underlying54 one_3.2 one_3 rfl rfl (by omega) (by omega) (wtd_get h6 (by omega)) (by decide) rfl) ?_)
      refine list_cons rfl (op_q (q_assign rfl (by decide)) ?_)
      refine list_cons rfl (op_q (q_assign rfl (by decide)) ?_)
      refine list_nil ?_
      refine hK7 _ ?_; clear hK7 K7
      refine code_seq (fun K8 hK8 => ?_)
      refine code_region ?_
      refine list_cons rfl (op_q (q_move rfl (by decide)) ?_)
      refine list_cons rfl (op_q (q_move rfl (by decide)) ?_)
      refine list_cons rfl (op_q (q_indexAddr_arr arr_54 rfl rfl rfl (by omega) (by omega) (by decide)) ?_)
      refine list_cons rfl (op_q (q_load one_3 2 rfl rfl rfl (by first | rfl | exact get_map1 _ 0 _ (by first | omega | (simp; omega))) (by decide)) ?_)
      refine list_cons rfl (op_q (by first | exact q_andNotI rfl rfl (by decide) (by omega) (by omega) (by omega) (by omega) | exact q_ib rfl rfl rfl (by decide)) ?_)
      refine list_cons rfl (op_q (q_assign rfl (by decide)) ?_)
      refine list_nil ?_
      refine hK8 _ ?_; clear hK8 K8
      refine codeT.imp (σ' := [(0, _), (1, _), (2, _), (3, _), (4, _), (5, _), (6, _), (7, _), (8, _), (9, _)]) ?_ (imp_covers ⟨rfl, rfl, rfl, rfl, rfl, rfl, rfl, rfl, rfl, rfl, trivial⟩)
      refine code_seq (fun K9 hK9 => ?_)
      refine code_region ?_
      refine list_cons rfl (op_q (q_move rfl (by decide)) ?_)
      refine list_cons rfl (op_q (q_ne rfl rfl (by decide)) ?_)
      refine list_nil ?_
      refine hK9 _ ?_; clear hK9 K9
      refine code_cond_d rfl (fun h2 => ?_) (fun h2 => ?_)
      · skip
        (try simp only [Decidable.not_not] at h2)
        refine code_seq (fun K10 hK10 => ?_)
        refine code_region ?_
        refine list_cons rfl (op_q (q_move rfl (by decide)) ?_)
        refine list_cons rfl (op_q (by first | exact q_shl1 rfl rfl (by decide) (by omega) (by omega) | exact q_shlI rfl rfl (by decide) (by omega) (by omega) (by omega) | exact q_shl rfl rfl (by omega) (by decide)) ?_)
        refine list_cons rfl (op_q (q_move rfl (by decide)) ?_)
        refine list_cons rfl (op_q (q_move rfl (by decide)) ?_)
        refine list_cons rfl (op_q (by first | exact q_negI rfl (by decide) (by omega) (by omega) | exact q_neg rfl (by decide)) ?_)
        refine list_cons rfl (op_q (by first | exact q_andI rfl rfl (by decide) (by omega) (by omega) (by omega) (by omega) | exact q_ib rfl rfl rfl (by decide)) ?_)
        refine list_cons rfl (op_q (q_build bt_62 (parts := [(0, .tmp 21), (1, .tmp 25)]) rfl rfl (by decide)) ?_)
        refine list_cons rfl (op_store (agg_62).2 4 [4] (by intro t ht; simp only [List.mem_cons, List.not_mem_nil, or_false] at ht; subst ht; rfl) (.inr ⟨rfl, _, rfl⟩) rfl rfl rfl rfl (by first | rfl | exact flat_part (flat_map _ (fun _ => rfl) _) _ _ | exact flat_map _ (fun _ => rfl) _) (by first | rfl | (simp [PV.cells]; done)) (by first | decide | omega | exact Nat.le_refl _ | (simp; done) | (simp; omega)) (by decide) rfl ?_)
        refine list_nil ?_
        refine hK10 _ ?_; clear hK10 K10
        refine codeT.imp (σ' := [(0, _), (1, _), (2, _), (3, _), (4, _), (5, _), (6, _), (7, _), (8, _), (9, _)]) ?_ (imp_covers ⟨rfl, rfl, rfl, rfl, rfl, rfl, rfl, rfl, rfl, rfl, trivial⟩)
        refine code_ret ?_
        refine blk_r ?_
        refine then_r ?_; clear hK6 K6
        refine then_r ?_
        refine blk_r ?_
        refine then_r ?_; clear hK2 K2
        refine ends_ret (cs := []) rfl rfl rfl rfl trivial ?_
        first
          | (have hne : an (l.getD t9.toNat 0) (seen.getD t9.toNat 0) ≠ 0 := by assumption
             have hlt : t9.toNat < l.length := Decidable.byContradiction fun k => hne (by rw [List.getD_eq_getElem?_getD (l := l), List.getElem?_eq_none (by omega)]; exact an_0)
             have hfs : fsI (lfW l seen) = t9.toNat := fsI_eq (by rw [lfW_len]; exact hlt) (fun j hj => by rw [lfW_at (by omega)]; exact hf j hj) (by rw [lfW_at hlt]; exact hne)
             have hv := an_le (l.getD t9.toNat 0) (seen.getD t9.toNat 0) hg
             have hnl := neg_lb (v := an (l.getD t9.toNat 0) (seen.getD t9.toNat 0)) (by omega) (by omega)
             rw [hfs, lfW_at hlt, ← hnl]; rfl)
          | exact absurd (fun j hj => by rw [lfW_len] at hj; rw [lfW_at hj]; exact hf j (by omega)) hz
      (try simp only [Decidable.not_not] at h2)
      refine code_skip ?_
      refine blk_n ?_
      refine hK6 _ ?_; clear hK6 K6
      refine code_region ?_
      refine list_cons rfl (op_q (by first | exact q_addI rfl rfl (by decide) (by omega) (by omega) | exact q_ib rfl rfl rfl (by decide)) ?_)
      refine list_cons rfl (op_q (q_move rfl (by decide)) ?_)
      refine list_nil ?_
      refine then_n ⟨(_, _), imp_covers ⟨rfl, rfl, rfl, rfl, rfl, rfl, rfl, trivial⟩, ?_, ?_⟩
      · (try dsimp only)
        exact ⟨by omega, by omega, fun j hj => by
          by_cases e : j = t9.toNat
          · subst e; assumption
          · exact hf j (by omega)⟩
      · (try dsimp only); omega
    (try simp only [Decidable.not_not] at h1)
    refine code_exit ?_
    refine then_x ?_; clear hK5 K5
    refine then_x ?_
    refine blk_hit ?_
    refine hK2 _ ?_; clear hK2 K2
    refine code_seq (fun K11 hK11 => ?_)
    refine code_region ?_
    refine list_cons rfl (op_q (q_build bt_62 (parts := []) rfl rfl (by decide)) ?_)
    refine list_cons rfl (op_store (agg_62).2 4 [4] (by intro t ht; simp only [List.mem_cons, List.not_mem_nil, or_false] at ht; subst ht; rfl) (.inr ⟨rfl, _, rfl⟩) rfl rfl rfl rfl (by first | rfl | exact flat_part (flat_map _ (fun _ => rfl) _) _ _ | exact flat_map _ (fun _ => rfl) _) (by first | rfl | (simp [PV.cells]; done)) (by first | decide | omega | exact Nat.le_refl _ | (simp; done) | (simp; omega)) (by decide) rfl ?_)
    refine list_nil ?_
    refine hK11 _ ?_; clear hK11 K11
    refine codeT.imp (σ' := [(0, _), (1, _), (2, _), (3, _), (4, _), (8, _), (9, _)]) ?_ (imp_covers ⟨rfl, rfl, rfl, rfl, rfl, rfl, rfl, trivial⟩)
    refine code_ret ?_
    refine ends_ret (cs := []) rfl rfl rfl rfl trivial ?_
    first
      | (have hne : an (l.getD t9.toNat 0) (seen.getD t9.toNat 0) ≠ 0 := by assumption
         have hlt : t9.toNat < l.length := Decidable.byContradiction fun k => hne (by rw [List.getD_eq_getElem?_getD (l := l), List.getElem?_eq_none (by omega)]; exact an_0)
         have hfs : fsI (lfW l seen) = t9.toNat := fsI_eq (by rw [lfW_len]; exact hlt) (fun j hj => by rw [lfW_at (by omega)]; exact hf j hj) (by rw [lfW_at hlt]; exact hne)
         have hv := an_le (l.getD t9.toNat 0) (seen.getD t9.toNat 0) hg
         have hnl := neg_lb (v := an (l.getD t9.toNat 0) (seen.getD t9.toNat 0)) (by omega) (by omega)
         rw [hfs, lfW_at hlt, ← hnl]; rfl)
      | exact absurd (fun j hj => by rw [lfW_len] at hj; rw [lfW_at hj]; exact hf j (by omega)) hz
set_option maxRecDepth 8000 in
set_option maxHeartbeats 4000000 in
theorem canC1_c (l seen : List Int) (n : Nat) (hn : n ≤ 1000) (hl : RowP l) (hs : SnP l seen) (mc mb c b : Int) (hmc : 0 ≤ mc ∧ mc ≤ 127) (hmb : 0 ≤ mb ∧ mb ≤ 127) (hc : 0 ≤ c ∧ c ≤ 63) (hb : 0 ≤ b ∧ b ≤ 127) (hw : SnP l (wiS seen c b 6)) (h0 : 0 < n) (IH : ∀ (m : Nat) (seen2 : List Int) (x : Int) (cs : List PV), m + 1 = n → x = m → cs = seen2.map (.int .i64) → SnP l seen2 → PCalls Try.prog 65 [.agg cs, .agg ((wtd l).map (.int .i64)), .sl (wdL l (p2 l.length - 1)).length (fl (wdL l (p2 l.length - 1))), .int .i64 x] (· = [.val (.bool (decide (Cov l m (lfW l seen2))))])) : PCalls Try.prog 95 [.agg [.int .i64 c, .int .i64 b], .ptr [.int .i64 mc, .int .i64 mb], .ptr (seen.map (.int .i64)), .ptr ((wtd l).map (.int .i64)), .ptr [.sl (wdL l (p2 l.length - 1)).length (fl (wdL l (p2 l.length - 1)))], .ptr [.int .i64 n]] (· = [.val (.bool (decide (PcS l seen (n - 1) mc mb c b)))]) := by
  refine pcalls_of_code (n := 34) az Try.func95 (by kernel_rfl) rfl rfl (Nat.le_of_ble_eq_true rfl) (by intro t u h; simp [Try.f95] at h) ?_
  refine codeT.imp ?_ (imp_rpar (s := 1) (i := 1) rfl)
  refine codeT.imp ?_ (imp_rpar (s := 2) (i := 2) rfl)
  refine codeT.imp ?_ (imp_rpar (s := 3) (i := 3) rfl)
  refine codeT.imp ?_ (imp_rpar (s := 4) (i := 4) rfl)
  refine codeT.imp ?_ (imp_rpar (s := 5) (i := 5) rfl)
  have h6 := hl.1
  have hsl := hs.1
  have hwl := wtd_len h6
  have hf1 := flat_map (PV.int .i64) (fun _ => rfl) seen
  have hf2 := flat_map (PV.int .i64) (fun _ => rfl) (wtd l)
  refine code_seq (fun K1 hK1 => ?_)
  refine code_region ?_
  refine list_cons rfl (op_box rfl (.inl ⟨rfl, rfl⟩) (by decide) (by decide) rfl ?_)
  refine list_cons rfl (op_q (q_assign rfl (by decide)) ?_)
  refine list_nil ?_
  refine hK1 _ ?_; clear hK1 K1
  refine code_seq (fun K2 hK2 => ?_)
  refine code_region ?_
  refine list_cons rfl (op_q (q_fieldAddr fi_62_0 rfl rfl (by decide)) ?_)
  refine list_cons rfl (op_q (q_load one_3 6 rfl rfl rfl (by first | rfl | (rw [List.length_map, hsl]; exact Nat.le_refl _) | (rw [List.length_map, hwl]; exact Nat.le_refl _) | exact Nat.le_of_ble_eq_true rfl) (by decide)) ?_)
  refine list_cons rfl (op_q (q_fieldAddr fi_62_0 rfl rfl (by decide)) ?_)
  refine list_cons rfl (op_q (q_load_rd one_3 rfl (.inl ⟨_, (by first | rfl | (rw [List.length_map, hsl]; exact Nat.le_refl _) | (rw [List.length_map, hwl]; exact Nat.le_refl _) | exact Nat.le_of_ble_eq_true rfl), rfl⟩) (by decide)) ?_)
  refine list_cons rfl (op_q (by first | exact q_andI rfl rfl (by decide) (by omega) (by omega) (by omega) (by omega) | exact q_ib rfl rfl rfl (by decide)) ?_)
  refine list_cons rfl (op_q (q_ne rfl rfl (by decide)) ?_)
  refine list_cons rfl (op_q (q_move rfl (by decide)) ?_)
  refine list_guard_d rfl rfl rfl rfl (by decide) rfl (by decide) (fun h1 => ?_) (fun h1 => ?_)
  · simp only [Bool.false_eq_true, if_true, if_false, Decidable.not_not] at h1
    refine id (op_q (q_fieldAddr fi_62_1 rfl rfl (by decide)) ?_)
    refine list_guard_y rfl rfl rfl rfl (by decide) rfl ?_
    refine id (op_q (q_load one_3 6 rfl rfl rfl (by first | rfl | (rw [List.length_map, hsl]; exact Nat.le_refl _) | (rw [List.length_map, hwl]; exact Nat.le_refl _) | exact Nat.le_of_ble_eq_true rfl) (by decide)) ?_)
    refine list_guard_y rfl rfl rfl rfl (by decide) rfl ?_
    refine id (op_q (q_fieldAddr fi_62_1 rfl rfl (by decide)) ?_)
    refine list_guard_y rfl rfl rfl rfl (by decide) rfl ?_
    refine id (op_q (q_load_rd one_3 rfl (.inl ⟨_, (by first | rfl | (rw [List.length_map, hsl]; exact Nat.le_refl _) | (rw [List.length_map, hwl]; exact Nat.le_refl _) | exact Nat.le_of_ble_eq_true rfl), rfl⟩) (by decide)) ?_)
    refine list_guard_y rfl rfl rfl rfl (by decide) rfl ?_
    refine id (op_q (by first | exact q_andI rfl rfl (by decide) (by omega) (by omega) (by omega) (by omega) | exact q_ib rfl rfl rfl (by decide)) ?_)
    refine list_guard_y rfl rfl rfl rfl (by decide) rfl ?_
    refine id (op_q (q_ne rfl rfl (by decide)) ?_)
    refine list_cons rfl (op_q (q_pick rfl rfl (by decide)) ?_)
    refine list_cons rfl (op_q (q_assign rfl (by decide)) ?_)
    refine list_nil ?_
    refine hK2 _ ?_; clear hK2 K2
    refine codeT.imp (σ' := [(0, _), (1, _), (2, _), (3, _), (4, _), (5, _), (6, _), (7, _), (8, _)]) ?_ (imp_covers ⟨rfl, rfl, rfl, rfl, rfl, rfl, rfl, rfl, rfl, trivial⟩)
    refine code_seq (fun K3 hK3 => ?_)
    refine code_draw (by kernel_rfl) (by kernel_rfl) ?_
    refine draw_q rfl (q_move rfl (by decide)) ?_
    refine draw_q rfl (q_move rfl (by decide)) ?_
    refine draw_guard_d rfl rfl rfl rfl (by decide) rfl (by decide) (fun h2 => q_load_rd_aggE agg_54 rfl (.inl ⟨_, rfl⟩) (by first | rfl | (rw [List.length_map, hsl]; exact Nat.le_refl _) | (rw [List.length_map, hwl]; exact Nat.le_refl _) | exact Nat.le_of_ble_eq_true rfl) (tk6 (by first | exact hsl | exact hwl)) (flat_map (PV.int .i64) (fun _ => rfl) _) (by decide)) (fun h2 => ?_) (fun h2 => ?_)
    · simp only [Bool.false_eq_true, if_true, if_false, Decidable.not_not] at h2
      refine draw_guard_y rfl rfl rfl rfl (by decide) rfl (q_load_agg agg_62 6 (.inr ⟨rfl, _, rfl⟩) rfl rfl (by first | rfl | (rw [List.length_map, hsl]; exact Nat.le_refl _) | (rw [List.length_map, hwl]; exact Nat.le_refl _) | exact Nat.le_of_ble_eq_true rfl) (by first | rfl | exact flat_part (flat_map _ (fun _ => rfl) _) _ _) (by decide)) ?_
      refine draw_callW _ (with_E _ _ seen c b rfl rfl hs.1 hs.2.1 hc hb) rfl rfl rfl (by decide) (wanted_of rfl rfl rfl (by decide)) ?_
      refine draw_guard_y rfl rfl rfl rfl (by decide) rfl (q_load_rd_aggE agg_54 rfl (.inl ⟨_, rfl⟩) (by first | rfl | (rw [List.length_map, hsl]; exact Nat.le_refl _) | (rw [List.length_map, hwl]; exact Nat.le_refl _) | exact Nat.le_of_ble_eq_true rfl) (tk6 (by first | exact hsl | exact hwl)) (flat_map (PV.int .i64) (fun _ => rfl) _) (by decide)) ?_
      refine draw_guard_y rfl rfl rfl rfl (by decide) rfl (q_load_rd one_24 rfl (.inl ⟨_, (by first | rfl | (rw [List.length_map, hsl]; exact Nat.le_refl _) | (rw [List.length_map, hwl]; exact Nat.le_refl _) | exact Nat.le_of_ble_eq_true rfl), rfl⟩) (by decide)) ?_
      refine draw_guard_y rfl rfl rfl rfl (by decide) rfl (q_load_rd one_3 rfl (.inl ⟨_, (by first | rfl | (rw [List.length_map, hsl]; exact Nat.le_refl _) | (rw [List.length_map, hwl]; exact Nat.le_refl _) | exact Nat.le_of_ble_eq_true rfl), rfl⟩) (by decide)) ?_
      refine draw_guard_y rfl rfl rfl rfl (by decide) rfl (by first | exact q_subI rfl rfl (by decide) (by omega) (by omega) | exact q_ib rfl rfl rfl (by decide)) ?_
      refine draw_callW _ (IH (n - 1) (wiS seen c b 6) _ _ (by omega) (by omega) rfl hw) rfl rfl rfl (by decide) (wanted_of rfl rfl rfl (by decide)) ?_
      refine draw_q rfl (q_pick rfl rfl (by decide)) ?_
      refine draw_q rfl (q_assign rfl (by decide)) ?_
      refine draw_nil ?_
      refine hK3 _ ?_; clear hK3 K3
      refine codeT.imp (σ' := [(0, _), (1, _), (2, _), (3, _), (4, _), (5, _), (6, _), (7, _), (8, _)]) ?_ (imp_covers ⟨rfl, rfl, rfl, rfl, rfl, rfl, rfl, rfl, rfl, trivial⟩)
      refine code_ret ?_
      refine ends_ret (cs := []) rfl rfl rfl rfl trivial ?_
      first
        | (congr 3; exact decide_eq_decide.mpr ⟨fun e => ⟨⟨by assumption, by assumption⟩, e⟩, fun e => e.2⟩)
        | (rw [decide_eq_false (fun z : PcS l seen (n - 1) mc mb c b => by first | exact absurd z.1.1 (by first | assumption | (intro w; contradiction)) | exact z.1.1 (by assumption) | exact z.1.2 (by assumption))]; done)
    simp only [Bool.false_eq_true, if_true, if_false, Decidable.not_not] at h2
    refine draw_guard_nT rfl rfl rfl rfl (by decide) (by decide) ?_
    refine draw_guard_nT rfl rfl rfl rfl (by decide) (by decide) ?_
    refine draw_guard_nT rfl rfl rfl rfl (by decide) (by decide) ?_
    refine draw_guard_nT rfl rfl rfl rfl (by decide) (by decide) ?_
    refine draw_guard_nT rfl rfl rfl rfl (by decide) (by decide) ?_
    refine draw_guard_nT rfl rfl rfl rfl (by decide) (by decide) ?_
    refine draw_guard_nT rfl rfl rfl rfl (by decide) (by decide) ?_
    refine draw_q rfl (q_pick rfl rfl (by decide)) ?_
    refine draw_q rfl (q_assign rfl (by decide)) ?_
    refine draw_nil ?_
    refine hK3 _ ?_; clear hK3 K3
    refine codeT.imp (σ' := [(0, _), (1, _), (2, _), (3, _), (4, _), (5, _), (6, _), (7, _), (8, _)]) ?_ (imp_covers ⟨rfl, rfl, rfl, rfl, rfl, rfl, rfl, rfl, rfl, trivial⟩)
    refine code_ret ?_
    refine ends_ret (cs := []) rfl rfl rfl rfl trivial ?_
    first
      | (congr 3; exact decide_eq_decide.mpr ⟨fun e => ⟨⟨by assumption, by assumption⟩, e⟩, fun e => e.2⟩)
      | (rw [decide_eq_false (fun z : PcS l seen (n - 1) mc mb c b => by first | exact absurd z.1.1 (by first | assumption | (intro w; contradiction)) | exact z.1.1 (by assumption) | exact z.1.2 (by assumption))]; done)
  simp only [Bool.false_eq_true, if_true, if_false, Decidable.not_not] at h1
  refine list_guard_nT rfl rfl rfl rfl (by decide) (by decide) ?_
  refine list_guard_nT rfl rfl rfl rfl (by decide) (by decide) ?_
  refine list_guard_nT rfl rfl rfl rfl (by decide) (by decide) ?_
  refine list_guard_nT rfl rfl rfl rfl (by decide) (by decide) ?_
  refine list_guard_nT rfl rfl rfl rfl (by decide) (by decide) ?_
  refine list_cons rfl (op_q (q_pick rfl rfl (by decide)) ?_)
  refine list_cons rfl (op_q (q_assign rfl (by decide)) ?_)
  refine list_nil ?_
  refine hK2 _ ?_; clear hK2 K2
  refine codeT.imp (σ' := [(0, _), (1, _), (2, _), (3, _), (4, _), (5, _), (6, _), (7, _), (8, _)]) ?_ (imp_covers ⟨rfl, rfl, rfl, rfl, rfl, rfl, rfl, rfl, rfl, trivial⟩)
  refine code_seq (fun K4 hK4 => ?_)
  refine code_draw (by kernel_rfl) (by kernel_rfl) ?_
  refine draw_q rfl (q_move rfl (by decide)) ?_
  refine draw_q rfl (q_move rfl (by decide)) ?_
  refine draw_guard_nT rfl rfl rfl rfl (by decide) (by decide) ?_
  refine draw_guard_nT rfl rfl rfl rfl (by decide) (by decide) ?_
  refine draw_guard_nT rfl rfl rfl rfl (by decide) (by decide) ?_
  refine draw_guard_nT rfl rfl rfl rfl (by decide) (by decide) ?_
  refine draw_guard_nT rfl rfl rfl rfl (by decide) (by decide) ?_
  refine draw_guard_nT rfl rfl rfl rfl (by decide) (by decide) ?_
  refine draw_guard_nT rfl rfl rfl rfl (by decide) (by decide) ?_
  refine draw_guard_nT rfl rfl rfl rfl (by decide) (by decide) ?_
  refine draw_q rfl (q_pick rfl rfl (by decide)) ?_
  refine draw_q rfl (q_assign rfl (by decide)) ?_
  refine draw_nil ?_
  refine hK4 _ ?_; clear hK4 K4
  refine codeT.imp (σ' := [(0, _), (1, _), (2, _), (3, _), (4, _), (5, _), (6, _), (7, _), (8, _)]) ?_ (imp_covers ⟨rfl, rfl, rfl, rfl, rfl, rfl, rfl, rfl, rfl, trivial⟩)
  refine code_ret ?_
  refine ends_ret (cs := []) rfl rfl rfl rfl trivial ?_
  first
    | (congr 3; exact decide_eq_decide.mpr ⟨fun e => ⟨⟨by assumption, by assumption⟩, e⟩, fun e => e.2⟩)
    | (rw [decide_eq_false (fun z : PcS l seen (n - 1) mc mb c b => by first | exact absurd z.1.1 (by first | assumption | (intro w; contradiction)) | exact z.1.1 (by assumption) | exact z.1.2 (by assumption))]; done)
set_option maxRecDepth 8000 in
set_option maxHeartbeats 4000000 in
theorem canComplete_st (l seen : List Int) (n : Nat) (hn : n ≤ 1000) (hP : PlnP l) (hs : SnP l seen) (IH : ∀ (m : Nat) (seen2 : List Int) (x : Int) (cs : List PV), m + 1 = n → x = m → cs = seen2.map (.int .i64) → SnP l seen2 → PCalls Try.prog 65 [.agg cs, .agg ((wtd l).map (.int .i64)), .sl (wdL l (p2 l.length - 1)).length (fl (wdL l (p2 l.length - 1))), .int .i64 x] (· = [.val (.bool (decide (Cov l m (lfW l seen2))))])) : MCalls Try.prog 65 true none [.agg (seen.map (.int .i64)), .agg ((wtd l).map (.int .i64)), .sl (wdL l (p2 l.length - 1)).length (fl (wdL l (p2 l.length - 1))), .int .i64 n] (fun rs _ => rs = [.val (.bool (decide (Cov l n (lfW l seen))))]) := by
  refine mcalls_of_code (n := 21) az Try.func65 (by kernel_rfl) rfl rfl (Nat.le_of_ble_eq_true rfl) (by intro t u h; simp [Try.f65] at h) ?_
  have hl := hP.1
  have h6 := hl.1
  have hsl := hs.1
  have hwl := wtd_len h6
  have hf1 := flat_map (PV.int .i64) (fun _ => rfl) seen
  have hf2 := flat_map (PV.int .i64) (fun _ => rfl) (wtd l)
  rw [show starts true none [.agg (seen.map (.int .i64)), .agg ((wtd l).map (.int .i64)), .sl (wdL l (p2 l.length - 1)).length (fl (wdL l (p2 l.length - 1))), .int .i64 n] = [(0, SV.val (.agg (seen.map (.int .i64)))), (1, SV.val (.agg ((wtd l).map (.int .i64)))), (2, SV.ext (.sl (wdL l (p2 l.length - 1)).length (fl (wdL l (p2 l.length - 1))))), (3, SV.val (.int .i64 n))] from by simp [starts, inits, PV.start, PV.flat, PV.flatL, hf1, hf2]]
  refine code_seq (fun K1 hK1 => ?_)
  refine code_region ?_
  refine list_cons rfl (op_box rfl (.inl ⟨rfl, (by first | assumption | rfl | exact fl_flat _)⟩) (by decide) (by decide) rfl ?_)
  refine list_cons rfl (op_box rfl (.inl ⟨rfl, (by first | assumption | rfl | exact fl_flat _)⟩) (by decide) (by decide) rfl ?_)
  refine list_cons rfl (op_box rfl (.inr rfl) (by decide) (by decide) rfl ?_)
  refine list_cons rfl (op_box rfl (.inl ⟨rfl, (by first | assumption | rfl | exact fl_flat _)⟩) (by decide) (by decide) rfl ?_)
  refine list_cons rfl (op_q (q_assign rfl (by decide)) ?_)
  refine list_nil ?_
  refine hK1 _ ?_; clear hK1 K1
  refine codeT.imp (σ' := [(0, _), (1, _), (2, _), (3, _), (4, .box 4 54 (seen.map (.int .i64))), (5, .box 5 54 ((wtd l).map (.int .i64))), (6, _), (7, _), (8, _)]) ?_ (imp_covers ⟨rfl, rfl, rfl, rfl, rfl, rfl, rfl, rfl, rfl, trivial⟩)
  refine code_seq (fun K2 hK2 => ?_)
  refine code_seq (fun K3 hK3 => ?_)
  refine code_region ?_
  refine list_cons rfl (op_q (q_cast (q_load_agg agg_54 4 (.inr ⟨rfl, _, rfl⟩) rfl rfl (by first | rfl | exact Nat.le_of_ble_eq_true rfl | (rw [List.length_map, hsl]; exact Nat.le_refl _) | (rw [List.length_map, hwl]; exact Nat.le_refl _)) (by first | rfl | exact flat_part (flat_map _ (fun _ => rfl) _) _ _) (by decide)) (congrArg (fun z => SV.val (PV.agg z)) (ld6 (by first | exact hsl | exact hwl)))) ?_)
  refine list_cons rfl (op_q (q_cast (q_load_agg agg_54 5 (.inr ⟨rfl, _, rfl⟩) rfl rfl (by first | rfl | exact Nat.le_of_ble_eq_true rfl | (rw [List.length_map, hsl]; exact Nat.le_refl _) | (rw [List.length_map, hwl]; exact Nat.le_refl _)) (by first | rfl | exact flat_part (flat_map _ (fun _ => rfl) _) _ _) (by decide)) (congrArg (fun z => SV.val (PV.agg z)) (ld6 (by first | exact hsl | exact hwl)))) ?_)
  refine list_cons rfl (op_q (q_aggeq (by decide) agg_54 eqty_54 eqg_54 rfl rfl (hasK_e 6 _ (by first | (rw [hsl]; decide) | (rw [hwl]; decide))) (hasK_e 6 _ (by first | (rw [hsl]; decide) | (rw [hwl]; decide))) (by rw [List.length_map]; first | (rw [hsl]; rfl) | (rw [hwl]; rfl)) (by rw [List.length_map]; first | (rw [hsl]; rfl) | (rw [hwl]; rfl)) (by decide)) ?_)
  refine list_nil ?_
  refine hK3 _ ?_; clear hK3 K3
  refine code_cond_d rfl (fun h1 => ?_) (fun h1 => ?_)
  · skip
    (try simp only [Decidable.not_not] at h1); (try have hzz : AllZ (lfW l seen) := (all_z hP.1 hs).2 ((eqP_e _ _ (by rw [hsl, hwl])).1 (h1 : EqP _ _))); (try have hnz : ¬ AllZ (lfW l seen) := fun z => (h1 : ¬ EqP _ _) ((eqP_e _ _ (by rw [hsl, hwl])).2 ((all_z hP.1 hs).1 z)))
    refine code_seq (fun K4 hK4 => ?_)
    refine code_region ?_
    refine list_cons rfl (op_q (q_assign rfl (by decide)) ?_)
    refine list_nil ?_
    refine hK4 _ ?_; clear hK4 K4
    refine code_ret ?_
    refine then_r ?_; clear hK2 K2
    refine ends_ret (cs := []) rfl rfl rfl rfl trivial ?_
    first
      | (rw [decide_eq_true (cov_z hzz n)]; done)
      | (have h0 : n = 0 := by omega
         subst h0
         rw [decide_eq_false (fun z : Cov l 0 (lfW l seen) => hnz z)]; done)
      | (have e := cov_step (n := n - 1) hl hP.2 hnz
         rw [show n - 1 + 1 = n by omega] at e
         congr 3; exact decide_eq_decide.mpr e)
  (try simp only [Decidable.not_not] at h1); (try have hzz : AllZ (lfW l seen) := (all_z hP.1 hs).2 ((eqP_e _ _ (by rw [hsl, hwl])).1 (h1 : EqP _ _))); (try have hnz : ¬ AllZ (lfW l seen) := fun z => (h1 : ¬ EqP _ _) ((eqP_e _ _ (by rw [hsl, hwl])).2 ((all_z hP.1 hs).1 z)))
  refine code_skip ?_
  refine hK2 _ ?_; clear hK2 K2
  refine code_seq (fun K5 hK5 => ?_)
  refine code_seq (fun K6 hK6 => ?_)
  refine code_region ?_
  refine list_cons rfl (op_q (q_load_box1 one_3 rfl (by first | rfl | exact Nat.le_of_ble_eq_true rfl | (rw [List.length_map, hsl]; exact Nat.le_refl _) | (rw [List.length_map, hwl]; exact Nat.le_refl _)) (by decide)) ?_)
  refine list_cons rfl (op_q (q_eq rfl rfl (by decide)) ?_)
  refine list_nil ?_
  refine hK6 _ ?_; clear hK6 K6
  refine code_cond_d rfl (fun h2 => ?_) (fun h2 => ?_)
  · skip
    (try simp only [Decidable.not_not] at h2); (try have hzz : AllZ (lfW l seen) := (all_z hP.1 hs).2 ((eqP_e _ _ (by rw [hsl, hwl])).1 (h2 : EqP _ _))); (try have hnz : ¬ AllZ (lfW l seen) := fun z => (h2 : ¬ EqP _ _) ((eqP_e _ _ (by rw [hsl, hwl])).2 ((all_z hP.1 hs).1 z)))
    refine code_seq (fun K7 hK7 => ?_)
    refine code_region ?_
    refine list_cons rfl (op_q (q_assign rfl (by decide)) ?_)
    refine list_nil ?_
    refine hK7 _ ?_; clear hK7 K7
    refine code_ret ?_
    refine then_r ?_; clear hK5 K5
    refine ends_ret (cs := []) rfl rfl rfl rfl trivial ?_
    first
      | (rw [decide_eq_true (cov_z hzz n)]; done)
      | (have h0 : n = 0 := by omega
         subst h0
         rw [decide_eq_false (fun z : Cov l 0 (lfW l seen) => hnz z)]; done)
      | (have e := cov_step (n := n - 1) hl hP.2 hnz
         rw [show n - 1 + 1 = n by omega] at e
         congr 3; exact decide_eq_decide.mpr e)
  (try simp only [Decidable.not_not] at h2); (try have hzz : AllZ (lfW l seen) := (all_z hP.1 hs).2 ((eqP_e _ _ (by rw [hsl, hwl])).1 (h2 : EqP _ _))); (try have hnz : ¬ AllZ (lfW l seen) := fun z => (h2 : ¬ EqP _ _) ((eqP_e _ _ (by rw [hsl, hwl])).2 ((all_z hP.1 hs).1 z)))
  refine code_skip ?_
  refine hK5 _ ?_; clear hK5 K5
  refine code_seq (fun K8 hK8 => ?_)
  refine code_region ?_
  refine list_cons rfl (op_q (q_cast (q_load_agg agg_54 4 (.inr ⟨rfl, _, rfl⟩) rfl rfl (by first | rfl | exact Nat.le_of_ble_eq_true rfl | (rw [List.length_map, hsl]; exact Nat.le_refl _) | (rw [List.length_map, hwl]; exact Nat.le_refl _)) (by first | rfl | exact flat_part (flat_map _ (fun _ => rfl) _) _ _) (by decide)) (congrArg (fun z => SV.val (PV.agg z)) (ld6 (by first | exact hsl | exact hwl)))) ?_)
  refine list_cons rfl (op_q (q_cast (q_load_agg agg_54 5 (.inr ⟨rfl, _, rfl⟩) rfl rfl (by first | rfl | exact Nat.le_of_ble_eq_true rfl | (rw [List.length_map, hsl]; exact Nat.le_refl _) | (rw [List.length_map, hwl]; exact Nat.le_refl _)) (by first | rfl | exact flat_part (flat_map _ (fun _ => rfl) _) _ _) (by decide)) (congrArg (fun z => SV.val (PV.agg z)) (ld6 (by first | exact hsl | exact hwl)))) ?_)
  refine list_cons rfl (op_call _ (impl_firstMissing l seen hl hs hnz) rfl rfl (by decide) (by decide) (by decide) rfl ?_)
  rintro _ rfl
  refine list_cons rfl (op_alloc zt_62 (by decide) (by decide) rfl ?_)
  refine list_cons rfl (op_store (agg_62).2 9 [9] (by intro t ht; simp only [List.mem_cons, List.not_mem_nil, or_false] at ht; subst ht; rfl) (.inr ⟨rfl, _, rfl⟩) rfl rfl rfl rfl (by first | rfl | exact flat_part (flat_map _ (fun _ => rfl) _) _ _ | exact flat_map _ (fun _ => rfl) _) (by first | rfl | (simp [PV.cells]; done)) (by first | decide | omega | exact Nat.le_refl _ | (simp; done) | (simp; omega)) (by decide) rfl ?_)
  refine list_nil ?_
  refine hK8 _ ?_; clear hK8 K8
  refine codeT.imp (σ' := [(0, _), (1, _), (2, _), (3, _), (4, _), (5, _), (6, _), (7, _), (8, _), (9, _)]) ?_ (imp_covers ⟨rfl, rfl, rfl, rfl, rfl, rfl, rfl, rfl, rfl, rfl, trivial⟩)
  refine code_seq (fun K9 hK9 => ?_)
  refine code_region ?_
  refine list_cons rfl (op_q (q_load_boxD one_24 rfl (by decide)) ?_)
  refine list_cons rfl (op_makeFuncC (xs := [.tmp 9, .tmp 4, .tmp 5, .tmp 6, .tmp 7]) rfl rfl rfl (by decide) (by decide) rfl ?_)
  refine list_cons rfl (op_call _ (containsS_c (wdL l (p2 l.length - 1)) 95 [.int .i64 ((p2 (fsI (lfW l seen)) : Nat) : Int), .int .i64 ((p2 (lbI ((lfW l seen).getD (fsI (lfW l seen)) 0).toNat) : Nat) : Int)] [.ptr (seen.map (.int .i64)), .ptr ((wtd l).map (.int .i64)), .ptr [.sl (wdL l (p2 l.length - 1)).length (fl (wdL l (p2 l.length - 1)))], .ptr [.int .i64 n]] (PcS l seen (n - 1) ((p2 (fsI (lfW l seen)) : Nat) : Int) ((p2 (lbI ((lfW l seen).getD (fsI (lfW l seen)) 0).toNat) : Nat) : Int)) (by have := wdL_len l (p2 l.length - 1); have := p2_64e h6; omega) (fun j hj => by
    obtain ⟨c, c1, c2, c3, c4, c5⟩ := wdL_at hj
    have hp64 := p2_64e h6
    have hm := mc_bd hl hnz
    rw [c3]
    exact canC1_c l seen n hn hl hs _ _ c (flF l c) hm.1 hm.2 (by omega) (flF_bd _ _) (sn_wi hl hs (by omega)) (by omega) IH)) rfl rfl (by decide) (by decide) (by decide) rfl ?_)
  rintro _ rfl
  refine list_cons rfl (op_q (q_assign rfl (by decide)) ?_)
  refine list_nil ?_
  refine hK9 _ ?_; clear hK9 K9
  refine codeT.imp (σ' := [(0, _), (1, _), (2, _), (3, _), (4, _), (5, _), (6, _), (7, _), (8, _), (9, _)]) ?_ (imp_covers ⟨rfl, rfl, rfl, rfl, rfl, rfl, rfl, rfl, rfl, rfl, trivial⟩)
  refine code_ret ?_
  refine ends_ret (cs := []) rfl rfl rfl rfl trivial ?_
  first
    | (rw [decide_eq_true (cov_z hzz n)]; done)
    | (have h0 : n = 0 := by omega
       subst h0
       rw [decide_eq_false (fun z : Cov l 0 (lfW l seen) => hnz z)]; done)
    | (have e := cov_step (n := n - 1) hl hP.2 hnz
       rw [show n - 1 + 1 = n by omega] at e
       congr 3; exact decide_eq_decide.mpr e)
theorem impl_canComplete (l : List Int) (hP : PlnP l) : ∀ (n : Nat) (seen : List Int) (x : Int) (cs ws : List PV), n ≤ 1000 → x = n → cs = seen.map (.int .i64) → ws = (wtd l).map (.int .i64) → SnP l seen → PCalls Try.prog 65 [.agg cs, .agg ws, .sl (wdL l (p2 l.length - 1)).length (fl (wdL l (p2 l.length - 1))), .int .i64 x] (· = [.val (.bool (decide (Cov l n (lfW l seen))))])
  | 0, seen, x, cs, ws, h, hx, hcs, hws, hs => by
    subst hx; subst hcs; subst hws
    exact pcalls_exm (canComplete_st l seen 0 h hP hs (fun m _ _ _ e => absurd e (by omega)))
  | n + 1, seen, x, cs, ws, h, hx, hcs, hws, hs => by
    subst hx; subst hcs; subst hws
    exact pcalls_exm (canComplete_st l seen (n + 1) h hP hs (fun m seen2 x cs e hx hcs hs => by
      have e2 : m = n := by omega
      subst e2
      exact impl_canComplete l hP m seen2 x cs _ (by omega) hx hcs rfl hs))
set_option maxRecDepth 8000 in
set_option maxHeartbeats 4000000 in
theorem impl_LeastSlots (l : List Int) (hl : l.length ≤ 1048576) : MCalls Try.prog 24 true none [.sl l.length (l.map (.int .i64))] (fun rs _ => ∃ n : Nat, (PlnP l → n ≤ nzC l ∧ Cov l n l ∧ ∀ m, m < n → ¬ Cov l m l) ∧ rs = [.val (.int .i64 (if PlnP l then (n : Int) else 0)), .val (.bool (decide (PlnP l)))]) := by
  refine mcalls_of_code (n := 36) az Try.func24 (by kernel_rfl) rfl rfl (Nat.le_of_ble_eq_true rfl) (by intro t u h; simp [Try.f24] at h) ?_
  refine code_seq (fun K1 hK1 => ?_)
  refine code_region ?_
  refine list_cons rfl (op_q (q_assign rfl (by decide)) ?_)
  refine list_cons rfl (op_q (q_assign rfl (by decide)) ?_)
  refine list_nil ?_
  refine hK1 _ ?_; clear hK1 K1
  refine code_seq (fun K2 hK2 => ?_)
  refine code_region ?_
  refine list_cons rfl (op_q (q_move rfl (by decide)) ?_)
  refine list_cons rfl (op_call _ (impl_PlainFrame l hl) rfl rfl (by decide) (by decide) (by decide) rfl ?_)
  rintro _ rfl
  refine list_cons rfl (op_q (q_move rfl (by decide)) ?_)
  refine list_cons rfl (op_q (q_extract rfl rfl (by decide)) ?_)
  refine list_cons rfl (op_q (q_extract rfl rfl (by decide)) ?_)
  refine list_cons rfl (op_q (q_assign rfl (by decide)) ?_)
  refine list_cons rfl (op_q (q_assign rfl (by decide)) ?_)
  refine list_nil ?_
  refine hK2 _ ?_; clear hK2 K2
  refine codeT.imp (σ' := [(0, _), (2, _), (3, _), (4, _), (5, _)]) ?_ (imp_covers ⟨rfl, rfl, rfl, rfl, rfl, trivial⟩)
  refine code_seq (fun K3 hK3 => ?_)
  refine code_seq (fun K4 hK4 => ?_)
  refine code_region ?_
  refine list_cons rfl (op_q (q_move rfl (by decide)) ?_)
  refine list_cons rfl (op_q (by first | exact q_notd rfl (by decide) | exact q_not rfl (by decide)) ?_)
  refine list_nil ?_
  refine hK4 _ ?_; clear hK4 K4
  refine code_cond_d rfl (fun h1 => ?_) (fun h1 => ?_)
  · skip
    (try simp only [Decidable.not_not] at h1); (try have hP := (h1 : PlnP l); have h6 := hP.1.1; have hwl := wtd_len h6; have hnz := nzC_len l; have hpn := plnK_nz l l.length (Nat.le_refl _); rw [List.take_length] at hpn)
    refine code_seq (fun K5 hK5 => ?_)
    refine code_region ?_
    refine list_cons rfl (op_q (q_assign rfl (by decide)) ?_)
    refine list_cons rfl (op_q (q_assign rfl (by decide)) ?_)
    refine list_nil ?_
    refine hK5 _ ?_; clear hK5 K5
    refine code_ret ?_
    refine then_r ?_; clear hK3 K3
    refine ends_ret (cs := []) rfl rfl rfl rfl trivial ?_
    first
      | (have hn1 : ¬ PlnP l := by assumption
         refine ⟨0, fun z => absurd z hn1, ?_⟩
         simp only [if_neg hn1, decide_eq_false hn1]; done)
      | (have hc : Cov l slots.toNat l := by
           first
           | (have hx : Cov l slots.toNat (lfW l (List.replicate 6 0)) := by assumption
              rw [hl0] at hx; exact hx)
           | (have e : slots.toNat = nzC l := by omega
              rw [e]; exact hcl)
         refine ⟨slots.toNat, fun _ => ⟨by omega, hc, hn⟩, ?_⟩
         simp only [if_pos hP, decide_eq_true hP, Int.toNat_of_nonneg n1]; done)
  (try simp only [Decidable.not_not] at h1); (try have hP := (h1 : PlnP l); have h6 := hP.1.1; have hwl := wtd_len h6; have hnz := nzC_len l; have hpn := plnK_nz l l.length (Nat.le_refl _); rw [List.take_length] at hpn)
  refine code_skip ?_
  refine hK3 _ ?_; clear hK3 K3
  refine code_seq (fun K6 hK6 => ?_)
  refine code_region ?_
  refine list_cons rfl (op_alloc zt_54 (by decide) (by decide) rfl ?_)
  refine list_nil ?_
  refine hK6 _ ?_; clear hK6 K6
  refine code_seq (fun K7 hK7 => ?_)
  refine code_region ?_
  refine list_cons rfl (op_q (q_sliceBox Try.underlying54 one_3.2 rfl rfl rfl (by omega) (by omega) (by omega) (by decide)) ?_)
  refine list_cons rfl (op_q (q_move rfl (by decide)) ?_)
  refine list_cons rfl (op_copyV Try.underlying27 (by kernel_rfl) 6 rfl rfl rfl rfl (flat_map _ (fun _ => rfl) _) (by rw [List.length_map]) (by show _ ≤ 6; omega) (by decide) (by decide) ?_)
  refine list_nil ?_
  refine hK7 _ ?_; clear hK7 K7
  refine codeT.imp (σ' := [(0, _), (2, _), (3, _), (4, _), (5, _), (6, .box 6 54 ((wtd l).map (.int .i64)))]) ?_ (imp_covers ⟨rfl, rfl, rfl, rfl, rfl, (congrArg (fun z => some (SV.box 6 54 z)) (wtd_put h6)), trivial⟩)
  refine code_seq (fun K8 hK8 => ?_)
  refine code_region ?_
  refine list_cons rfl (op_q (q_move rfl (by decide)) ?_)
  refine list_cons rfl (op_callM (impl_widestSlots l hP) (.tmp 0) 0 [] [.tmp 19] _ rfl rfl (by intro y hy; cases hy) (by decide) (by decide) (by decide) rfl (by intro h; cases h) ?_)
  rintro _ _ rfl
  refine list_cons rfl (op_q (q_assign rfl (by decide)) ?_)
  refine list_nil ?_
  refine hK8 _ ?_; clear hK8 K8
  refine codeT.imp (σ' := [(0, _), (2, _), (3, _), (4, _), (5, _), (6, _), (7, _)]) ?_ (imp_covers ⟨rfl, rfl, rfl, rfl, rfl, rfl, rfl, trivial⟩)
  refine code_seq (fun K9 hK9 => ?_)
  refine code_region ?_
  refine list_cons rfl (op_q (q_assign rfl (by decide)) ?_)
  refine list_nil ?_
  refine hK9 _ ?_; clear hK9 K9
  refine code_seq (fun K10 hK10 => ?_)
  refine code_block ?_
  refine code_loop (X := Int × Bool × Bool × Int) (fun x => [(0, .ext (.sl l.length (l.map (.int .i64)))), (2, .val (.int .i64 x.1)), (3, .val (.bool x.2.1)), (4, .own 11 62 2 (if PlnP l then plnK l l.length else []).length (fl (if PlnP l then plnK l l.length else []))), (5, .val (.bool x.2.2.1)), (6, .box 6 54 ((wtd l).map (.int .i64))), (7, .own 20 62 2 (wdL l (p2 l.length - 1)).length (fl (wdL l (p2 l.length - 1)))), (8, .val (.int .i64 x.2.2.2))]) (fun x => 0 ≤ x.2.2.2 ∧ x.2.2.2 ≤ nzC l ∧ ∀ m, m < x.2.2.2.toNat → ¬ Cov l m l) (fun x => (nzC l - x.2.2.2).toNat) (_, _, _, _) (imp_covers ⟨rfl, rfl, rfl, rfl, rfl, rfl, rfl, rfl, trivial⟩) ?_ ?_
  · (try dsimp only)
    exact ⟨by omega, by omega, fun m hm => by simp at hm⟩
  · intro x hI
    obtain ⟨t2, t3, ok, slots⟩ := x
    replace hI : 0 ≤ slots ∧ slots ≤ nzC l ∧ ∀ m, m < slots.toNat → ¬ Cov l m l := hI
    show codeT _ _ _ [(0, .ext (.sl l.length (l.map (.int .i64)))), (2, .val (.int .i64 t2)), (3, .val (.bool t3)), (4, .own 11 62 2 (if PlnP l then plnK l l.length else []).length (fl (if PlnP l then plnK l l.length else []))), (5, .val (.bool ok)), (6, .box 6 54 ((wtd l).map (.int .i64))), (7, .own 20 62 2 (wdL l (p2 l.length - 1)).length (fl (wdL l (p2 l.length - 1)))), (8, .val (.int .i64 slots))] _
    obtain ⟨n1, n2, hn⟩ := hI
    have hpn := plnK_nz l l.length (Nat.le_refl _)
    rw [List.take_length] at hpn
    have hl0 := lfW_0 hP.1
    have hpf : (if PlnP l then plnK l l.length else []).length = nzC l := by rw [if_pos hP]; exact hpn
    have hcl := cov_all hP.1
    refine code_seq (fun K11 hK11 => ?_)
    refine code_seq (fun K12 hK12 => ?_)
    refine code_region ?_
    refine list_cons rfl (op_q (q_move rfl (by decide)) ?_)
    refine list_cons rfl (op_q (q_move rfl (by decide)) ?_)
    refine list_cons rfl (op_q (q_len_sl Try.underlying24 rfl rfl (by decide)) ?_)
    refine list_cons rfl (op_q (q_lt rfl rfl (by decide)) ?_)
    refine list_cons rfl (op_q (q_move rfl (by decide)) ?_)
    refine list_guard_d rfl rfl rfl rfl (by decide) rfl (by decide) (fun h2 => ?_) (fun h2 => ?_)
    · simp only [Bool.false_eq_true, if_true, if_false, Decidable.not_not] at h2
      (try simp only [Decidable.not_not] at h2); (try have hP := (h2 : PlnP l); have h6 := hP.1.1; have hwl := wtd_len h6; have hnz := nzC_len l; have hpn := plnK_nz l l.length (Nat.le_refl _); rw [List.take_length] at hpn)
      refine id (op_q (q_build bt_54 (parts := []) rfl rfl (by decide)) ?_)
      refine list_guard_y rfl rfl rfl rfl (by decide) rfl ?_
      refine id (op_q (q_load_agg agg_54 6 (.inr ⟨rfl, _, rfl⟩) rfl rfl (by first | rfl | (rw [List.length_map, hwl]; exact Nat.le_refl _)) (by first | rfl | exact flat_part (flat_map _ (fun _ => rfl) _) _ _) (by decide)) ?_)
      refine list_guard_y rfl rfl rfl rfl (by decide) rfl ?_
      refine id (op_q (q_move rfl (by decide)) ?_)
      refine list_guard_y rfl rfl rfl rfl (by decide) rfl ?_
      refine id (op_q (q_move rfl (by decide)) ?_)
      refine list_guard_y rfl rfl rfl rfl (by decide) rfl ?_
      refine id (op_call _ (impl_canComplete l hP slots.toNat (List.replicate 6 0) _ _ _ (by omega) (by omega) rfl (ld6 hwl) (sn_0 l)) rfl rfl (by decide) (by decide) (by decide) rfl ?_)
      rintro _ rfl
      refine list_guard_y rfl rfl rfl rfl (by decide) rfl ?_
      refine id (op_q (by first | exact q_notd rfl (by decide) | exact q_not rfl (by decide)) ?_)
      refine list_cons rfl (op_q (q_pick rfl rfl (by decide)) ?_)
      refine list_nil ?_
      refine hK12 _ ?_; clear hK12 K12
      refine codeT.imp (σ' := [(0, _), (2, _), (3, _), (4, _), (5, _), (6, _), (7, _), (8, _), (32, _)]) ?_ (imp_covers ⟨rfl, rfl, rfl, rfl, rfl, rfl, rfl, rfl, rfl, trivial⟩)
      refine code_cond_d rfl (fun h3 => ?_) (fun h3 => ?_)
      · skip
        (try simp only [Decidable.not_not] at h3); (try have hP := (h3 : PlnP l); have h6 := hP.1.1; have hwl := wtd_len h6; have hnz := nzC_len l; have hpn := plnK_nz l l.length (Nat.le_refl _); rw [List.take_length] at hpn)
        refine code_skip ?_
        refine hK11 _ ?_; clear hK11 K11
        refine code_block ?_
        refine code_region ?_
        refine list_cons rfl (op_q (q_move rfl (by decide)) ?_)
        refine list_cons rfl (op_q (by first | exact q_addI rfl rfl (by decide) (by omega) (by omega) | exact q_ib rfl rfl rfl (by decide)) ?_)
        refine list_cons rfl (op_q (q_assign rfl (by decide)) ?_)
        refine list_nil ?_
        refine blk_n ?_
        refine then_n ⟨(_, _, _, _), imp_covers ⟨rfl, rfl, rfl, rfl, rfl, rfl, rfl, rfl, trivial⟩, ?_, ?_⟩
        · (try dsimp only)
          exact ⟨by omega, by omega, fun m hm => by
            by_cases e : m = slots.toNat
            · subst e
              have hy : ¬ Cov l slots.toNat (lfW l (List.replicate 6 0)) := by assumption
              exact fun z => hy (by rw [hl0]; exact z)
            · exact hn m (by omega)⟩
        · (try dsimp only); omega
      (try simp only [Decidable.not_not] at h3); (try have hP := (h3 : PlnP l); have h6 := hP.1.1; have hwl := wtd_len h6; have hnz := nzC_len l; have hpn := plnK_nz l l.length (Nat.le_refl _); rw [List.take_length] at hpn)
      refine code_exit ?_
      refine then_x ?_; clear hK11 K11
      refine then_x ?_
      refine blk_hit ?_
      refine hK10 _ ?_; clear hK10 K10
      refine code_seq (fun K13 hK13 => ?_)
      refine code_region ?_
      refine list_cons rfl (op_q (q_move rfl (by decide)) ?_)
      refine list_cons rfl (op_q (q_assign rfl (by decide)) ?_)
      refine list_cons rfl (op_q (q_assign rfl (by decide)) ?_)
      refine list_nil ?_
      refine hK13 _ ?_; clear hK13 K13
      refine code_ret ?_
      refine ends_ret (cs := []) rfl rfl rfl rfl trivial ?_
      first
        | (have hn1 : ¬ PlnP l := by assumption
           refine ⟨0, fun z => absurd z hn1, ?_⟩
           simp only [if_neg hn1, decide_eq_false hn1]; done)
        | (have hc : Cov l slots.toNat l := by
             first
             | (have hx : Cov l slots.toNat (lfW l (List.replicate 6 0)) := by assumption
                rw [hl0] at hx; exact hx)
             | (have e : slots.toNat = nzC l := by omega
                rw [e]; exact hcl)
           refine ⟨slots.toNat, fun _ => ⟨by omega, hc, hn⟩, ?_⟩
           simp only [if_pos hP, decide_eq_true hP, Int.toNat_of_nonneg n1]; done)
    simp only [Bool.false_eq_true, if_true, if_false, Decidable.not_not] at h2
    (try simp only [Decidable.not_not] at h2); (try have hP := (h2 : PlnP l); have h6 := hP.1.1; have hwl := wtd_len h6; have hnz := nzC_len l; have hpn := plnK_nz l l.length (Nat.le_refl _); rw [List.take_length] at hpn)
    refine list_guard_nT rfl rfl rfl rfl (by decide) (by decide) ?_
    refine list_guard_nT rfl rfl rfl rfl (by decide) (by decide) ?_
    refine list_guard_nT rfl rfl rfl rfl (by decide) (by decide) ?_
    refine list_guard_nT rfl rfl rfl rfl (by decide) (by decide) ?_
    refine list_guard_nT rfl rfl rfl rfl (by decide) (by decide) ?_
    refine list_cons rfl (op_q (q_pick rfl rfl (by decide)) ?_)
    refine list_nil ?_
    refine hK12 _ ?_; clear hK12 K12
    refine codeT.imp (σ' := [(0, _), (2, _), (3, _), (4, _), (5, _), (6, _), (7, _), (8, _), (32, _)]) ?_ (imp_covers ⟨rfl, rfl, rfl, rfl, rfl, rfl, rfl, rfl, rfl, trivial⟩)
    refine code_cond_f rfl ?_
    refine code_exit ?_
    refine then_x ?_; clear hK11 K11
    refine then_x ?_
    refine blk_hit ?_
    refine hK10 _ ?_; clear hK10 K10
    refine code_seq (fun K14 hK14 => ?_)
    refine code_region ?_
    refine list_cons rfl (op_q (q_move rfl (by decide)) ?_)
    refine list_cons rfl (op_q (q_assign rfl (by decide)) ?_)
    refine list_cons rfl (op_q (q_assign rfl (by decide)) ?_)
    refine list_nil ?_
    refine hK14 _ ?_; clear hK14 K14
    refine code_ret ?_
    refine ends_ret (cs := []) rfl rfl rfl rfl trivial ?_
    first
      | (have hn1 : ¬ PlnP l := by assumption
         refine ⟨0, fun z => absurd z hn1, ?_⟩
         simp only [if_neg hn1, decide_eq_false hn1]; done)
      | (have hc : Cov l slots.toNat l := by
           first
           | (have hx : Cov l slots.toNat (lfW l (List.replicate 6 0)) := by assumption
              rw [hl0] at hx; exact hx)
           | (have e : slots.toNat = nzC l := by omega
              rw [e]; exact hcl)
         refine ⟨slots.toNat, fun _ => ⟨by omega, hc, hn⟩, ?_⟩
         simp only [if_pos hP, decide_eq_true hP, Int.toNat_of_nonneg n1]; done)
def lsN (l : List Int) : Nat := ((List.range (nzC l + 1)).find? fun n => decide (Cov l n l)).getD 0
theorem lsN_eq {l : List Int} {n : Nat} (h1 : n ≤ nzC l) (h2 : Cov l n l) (h3 : ∀ m, m < n → ¬ Cov l m l) : lsN l = n := by
  have e : (List.range (nzC l + 1)).find? (fun n => decide (Cov l n l)) = some n := List.find?_range_eq_some.2 ⟨decide_eq_true h2, List.mem_range.2 (by omega), fun j hj => by simp [h3 j hj]⟩
  unfold lsN; rw [e]; rfl
theorem spec_LeastSlotsD (l : List Int) (hl : l.length ≤ 1048576) : PCalls Try.prog 25 [.sl l.length (l.map (.int .i64))] (· = [.val (.int .i64 (if PlnP l then ((lsN l : Nat) : Int) else 0)), .val (.bool (decide (PlnP l)))]) := by
  refine (spec_LeastSlots l hl).mono ?_
  rintro _ ⟨n, hn, rfl⟩
  by_cases h : PlnP l
  · obtain ⟨a, b, c⟩ := hn h
    rw [lsN_eq a b c]
  · simp only [if_neg h]
theorem impl_LeastSlotsD (l : List Int) (hl : l.length ≤ 1048576) : MCalls Try.prog 24 true none [.sl l.length (l.map (.int .i64))] (fun rs _ => rs = [.val (.int .i64 (if PlnP l then ((lsN l : Nat) : Int) else 0)), .val (.bool (decide (PlnP l)))]) := by
  refine (impl_LeastSlots l hl).mono ?_
  rintro _ _ ⟨n, hn, rfl⟩
  by_cases h : PlnP l
  · obtain ⟨a, b, c⟩ := hn h
    rw [lsN_eq a b c]
  · simp only [if_neg h]
end Go.Proofs.Ytlipkomdajogiaa
