/- Contracts of functions, walked over the pure layer; each says for which arguments. -/
import Derived.Test.YtppocfcopnaebaaDoorp4Ty
import Derived.Test.YtppocfcopnaebaaDoorTf
import Derived.Test.YtppocfcopnaebaaDoorp1
import Derived.Test.YtppocfcopnaebaaDoorShelf
import Derived.Test.YtppocfcopnaebaaDoorp2
import Derived.Test.YtppocfcopnaebaaDoorp3
import Derived.Test.YtppocfcopnaebaaDoorp5
import Derived.Test.YtppocfcopnaebaaDoorp6
namespace Go.Proofs.YtppocfcopnaebaaDoor
open Go.RowKit p4Ty
set_option linter.unusedVariables false
set_option linter.unusedSimpArgs false
theorem dgt_comm (a b : Nat) : dgt a b = dgt b a := by unfold dgt; rw [Nat.xor_comm]
theorem dgt_0 {a b : Nat} (ha : a < 10) (hb : b < 10) : dgt a b = 0 ↔ a = b := by
  have k : ∀ a b : Fin 10, dgt a.val b.val = 0 ↔ a = b := by decide +kernel
  exact (k ⟨a, ha⟩ ⟨b, hb⟩).trans ⟨fun e => congrArg Fin.val e, fun e => Fin.ext e⟩
theorem near_ok {d b : Nat} (hd : d < 10) (hb : b < 10) (h : b ≠ d) : (nearK d 8 10).2 ≤ dgt d b ∧ (dgt d b = (nearK d 8 10).2 ↔ ((b : Nat) : Int) ∈ (nearK d 8 10).1) := by
  have k : ∀ d b : Fin 10, b ≠ d → (nearK d.val 8 10).2 ≤ dgt d.val b.val ∧ (dgt d.val b.val = (nearK d.val 8 10).2 ↔ ((b.val : Nat) : Int) ∈ (nearK d.val 8 10).1) := by decide +kernel
  exact k ⟨d, hd⟩ ⟨b, hb⟩ (fun e => h (congrArg Fin.val e))
def barK : Nat → Int
  | 0 => 0
  | k + 1 => barK k + ((cnt7 (digT.getD k 0).toNat : Nat) : Int)
theorem barK_bd : ∀ k, 0 ≤ barK k ∧ barK k ≤ 7 * k
  | 0 => by simp [barK]
  | k + 1 => by
    have h := barK_bd k
    have h2 := cnt7_le (digT.getD k 0).toNat
    unfold barK; omega
def lefK : Nat → Int
  | 0 => barK 10
  | k + 1 => lefK k - (shS 70).getD k 0
theorem lefK_7 : lefK 7 = 0 := by decide +kernel
theorem lefK_bd {k : Nat} (h : k ≤ 7) : -1000 ≤ lefK k ∧ lefK k ≤ 1000 := by
  have key : ∀ k : Fin 8, -1000 ≤ lefK k.val ∧ lefK k.val ≤ 1000 := by decide +kernel
  exact key ⟨k, by omega⟩
theorem shS_bd {k : Nat} (h : k < 7) : 0 ≤ (shS 70).getD k 0 ∧ (shS 70).getD k 0 ≤ 100 := by
  have key : ∀ k : Fin 7, 0 ≤ (shS 70).getD k.val 0 ∧ (shS 70).getD k.val 0 ≤ 100 := by decide +kernel
  exact key ⟨k, h⟩
theorem hasK_mem {l : List Int} {n : Int} : ∀ {k : Nat}, hasK l n k = true → ∃ i, i < k ∧ l.getD i 0 = n
  | 0, h => by simp [hasK] at h
  | k + 1, h => by
    unfold hasK at h
    rcases Bool.or_eq_true _ _ ▸ h with h | h
    · obtain ⟨i, hi, e⟩ := hasK_mem h
      exact ⟨i, by omega, e⟩
    · exact ⟨k, by omega, of_decide_eq_true h⟩
theorem ordK_of {l : List Int} (hd : ∀ j, j < l.length → 0 ≤ l.getD j 0 ∧ l.getD j 0 ≤ 9) (hn : l.Nodup) : ∀ k, k ≤ l.length → ordK l k = true
  | 0, _ => rfl
  | k + 1, h => by
    refine ordK_succ (ordK_of hd hn k (by omega)) (hd k (by omega)) ?_
    cases e : hasK l (l.getD k 0) k with
    | false => rfl
    | true =>
      obtain ⟨i, hi, e2⟩ := hasK_mem e
      have h1 : i < l.length := by omega
      have h2 : k < l.length := by omega
      rw [List.getD_eq_getElem?_getD, List.getD_eq_getElem?_getD, List.getElem?_eq_getElem h1, List.getElem?_eq_getElem h2] at e2
      simp only [Option.getD_some] at e2
      have := (List.getElem_inj hn).1 e2
      omega
theorem ord_perm {l b : List Int} (h : ordK l l.length = true) (hp : b.Perm l) : ordK b b.length = true :=
  ordK_of (fun j hj => perm_dg (fun j hj => (ordK_at h hj).1) hp hj) (hp.nodup_iff.2 (ord_nd h)) b.length (Nat.le_refl _)
theorem LoB_ex {s : Nat} : ∀ k, ∃ B c, LoB s k B c
  | 0 => ⟨[], -1, LoB_0 s⟩
  | k + 1 => by
    obtain ⟨B, c, h⟩ := LoB_ex (s := s) k
    by_cases hb : (k : Int) ∈ dlS s
    · by_cases hc : c < 0 ∨ Cw (-1) s k < c
      · exact ⟨_, _, LoB_new h hb hc⟩
      · exact ⟨_, _, LoB_old h hb hc⟩
    · exact ⟨_, _, LoB_no h hb⟩
theorem bst_ex {l : List Int} (h : ordK l l.length = true) (r : Bool) : BstAll (lsC r) (srt l) (loB l r) := by
  have hp := orS_perm h
  have key : ∃ b, BstAll (lsC r) (srt l) b := by
    cases r with
    | false =>
      obtain ⟨B, c, hB⟩ := LoB_ex (s := orS l l.length) 10
      exact ⟨B, (LoB_best hB hp).1⟩
    | true =>
      by_cases hn : ∀ i, i < 10 → ¬ btN (orS l l.length) i = true
      · exact ⟨[], ring_none hn hp⟩
      · obtain ⟨m, hm, hmin⟩ : ∃ m ∈ dlS (orS l l.length), ∀ y ∈ dlS (orS l l.length), m ≤ y := by
          have ha := dlS_asc (orS l l.length)
          cases hd : dlS (orS l l.length) with
          | nil =>
            exfalso
            apply hn
            intro i hi hb
            have : (i : Int) ∈ dlS (orS l l.length) := mem_dlS.2 ⟨i, hi, hb, rfl⟩
            rw [hd] at this; simp at this
          | cons x r =>
            rw [hd] at ha
            refine ⟨x, by simp, fun y hy => ?_⟩
            rcases List.mem_cons.1 hy with e | hy
            · omega
            · have := (List.pairwise_cons.1 ha).1 y hy; omega
        exact ⟨_, (ring_best hm hmin hp).1⟩
  obtain ⟨b, hb⟩ := key
  rw [loB_of hb]; exact hb
theorem bst_le {cost : List Int → Int} {f b x : List Int} (h : BstAll cost f b) (hx : x.Perm f) : cost b ≤ cost x := by
  rcases h.2 x hx with k | ⟨k, _⟩ <;> omega
theorem ls_up (b : List Int) : lsC false b ≤ lsC true b := by
  show cstK b (b.length - 1) ≤ cstK b b.length
  by_cases h : b.length = 0
  · rw [h]; exact Int.le_refl _
  · obtain ⟨n, hn⟩ : ∃ n, b.length = n + 1 := ⟨b.length - 1, by omega⟩
    rw [hn]
    have := (dgt_le (b.getD n 0).toNat (b.getD ((n + 1) % b.length) 0).toNat).1
    show cstK b n ≤ cstK b (n + 1)
    rw [cstK]; omega
theorem ord_end {l : List Int} (h : ordK l l.length = true) : ordK (loB l false) (loB l false).length = true ∧ ordK (loB l true) (loB l true).length = true ∧ lsC false (loB l false) ≤ lsC false l ∧ lsC true (loB l true) ≤ lsC true l ∧ lsC false (loB l false) ≤ lsC true (loB l true) ∧ (loB l false).length = l.length ∧ (loB l true).length = l.length := by
  have h1 := bst_ex h false
  have h2 := bst_ex h true
  have p1 := h1.1.trans (srt_perm l)
  have p2 := h2.1.trans (srt_perm l)
  have h3 := bst_le h1 (x := l) (srt_perm l).symm
  have h4 := bst_le h2 (x := l) (srt_perm l).symm
  have h5 := bst_le h1 (x := loB l true) h2.1
  have h6 := ls_up (loB l true)
  exact ⟨ord_perm h p1, ord_perm h p2, h3, h4, by omega, p1.length_eq, p2.length_eq⟩
theorem cost_ls (l : List Int) (r : Bool) : costO l r = lsC r l := by cases r <;> rfl
theorem dgt_0I {a b : Int} (ha : 0 ≤ a ∧ a < 10) (hb : 0 ≤ b ∧ b < 10) : dgt a.toNat b.toNat = 0 ↔ a = b := by
  rw [dgt_0 (by omega) (by omega)]; omega
theorem near_okI {d b : Int} (hd : 0 ≤ d ∧ d ≤ 9) (hb : 0 ≤ b ∧ b < 10) (h : b ≠ d) : (nearK d.toNat 8 10).2 ≤ dgt d.toNat b.toNat ∧ (dgt d.toNat b.toNat = (nearK d.toNat 8 10).2 ↔ b ∈ (nearK d.toNat 8 10).1) := by
  have k := near_ok (d := d.toNat) (b := b.toNat) (by omega) (by omega) (by omega)
  rw [Int.toNat_of_nonneg hb.1] at k; exact k
theorem mem_of_getO {l : List Int} {k : Nat} {x : Int} (h : k < l.length) (e : l.getD k 0 = x) : x ∈ l := by
  rw [← e, List.getD_eq_getElem?_getD, List.getElem?_eq_getElem h]; exact List.getElem_mem h
theorem ord_endL {l : List Int} (h : ordK l l.length = true) : ordK (loD l false) (loD l false).length = true ∧ ordK (loD l true) (loD l true).length = true ∧ (if ordK (loD l false) (loD l false).length = true then costO (loD l false) false else 0) = loV l false ∧ (if ordK (loD l true) (loD l true).length = true then costO (loD l true) true else 0) = loV l true ∧ (loV l false ≤ if ordK l l.length = true then costO l false else 0) ∧ (loV l true ≤ if ordK l l.length = true then costO l true else 0) ∧ loV l false ≤ loV l true ∧ (((loD l false).length : Nat) : Int) = ((l.length : Nat) : Int) ∧ (((loD l true).length : Nat) : Int) = ((l.length : Nat) : Int) := by
  obtain ⟨e1, e2, e3, e4, e5, e6, e7⟩ := ord_end h
  have d1 : loD l false = loB l false := if_pos h
  have d2 : loD l true = loB l true := if_pos h
  have v1 : loV l false = lsC false (loB l false) := if_pos h
  have v2 : loV l true = lsC true (loB l true) := if_pos h
  rw [d1, d2, v1, v2, if_pos e1, if_pos e2, if_pos h, if_pos h, cost_ls, cost_ls, cost_ls, cost_ls]
  exact ⟨e1, e2, rfl, rfl, e3, e4, e5, by omega, by omega⟩
theorem near_len (d : Int) : (if 0 ≤ d ∧ d ≤ 9 then (nearK d.toNat 8 10).1 else []).length ≤ 10 := by
  split
  · have k : ∀ d : Fin 10, (nearK d.val 8 10).1.length ≤ 10 := by decide +kernel
    exact k ⟨d.toNat, by omega⟩
  · simp
theorem ldA (n : Nat) (l : List Int) (h : l.length = n) : List.take n (List.drop 0 (l.map (PV.int .i64))) = l.map (PV.int .i64) := by
  rw [List.drop_zero, List.take_of_length_le (by simp; omega)]
theorem tab_len : (tabS 100).length = 100 := by simp [tabS, filN_len]
set_option maxRecDepth 4000 in
theorem rInts_c (a b : List Int) (ha : a.length ≤ 4611686018427387904) : PCalls Tryd.prog 10 [.sl a.length (a.map (.int .i64)), .sl b.length (b.map (.int .i64))] (· = [.val (.bool (decide (a = b)))]) := by
  refine pcalls_of_code (n := 26) az Tryd.func10 (by kernel_rfl) rfl rfl (Nat.le_of_ble_eq_true rfl) (by intro t u h; simp [Tryd.f10] at h) ?_
  refine code_seq (fun K1 hK1 => ?_)
  refine code_region ?_
  refine list_cons rfl (op_q (q_assign rfl (by decide)) ?_)
  refine list_nil ?_
  refine hK1 _ ?_; clear hK1 K1
  refine code_seq (fun K2 hK2 => ?_)
  refine code_seq (fun K3 hK3 => ?_)
  refine code_region ?_
  refine list_cons rfl (op_q (q_move rfl (by decide)) ?_)
  refine list_cons rfl (op_q (q_len_sl Tryd.underlying24 rfl rfl (by decide)) ?_)
  refine list_cons rfl (op_q (q_move rfl (by decide)) ?_)
  refine list_cons rfl (op_q (q_len_sl Tryd.underlying24 rfl rfl (by decide)) ?_)
  refine list_cons rfl (op_q (q_ne rfl rfl (by decide)) ?_)
  refine list_nil ?_
  refine hK3 _ ?_; clear hK3 K3
  refine code_cond_d rfl (fun h1 => ?_) (fun h1 => ?_)
  · skip
    (try simp only [Decidable.not_not] at h1)
    refine code_seq (fun K4 hK4 => ?_)
    refine code_region ?_
    refine list_cons rfl (op_q (q_assign rfl (by decide)) ?_)
    refine list_nil ?_
    refine hK4 _ ?_; clear hK4 K4
    refine code_ret ?_
    refine then_r ?_; clear hK2 K2
    refine ends_ret (cs := []) rfl rfl rfl rfl trivial ?_
    rw [decide_eq_false (fun e => h1 (by rw [e]))]
  (try simp only [Decidable.not_not] at h1)
  refine code_skip ?_
  refine hK2 _ ?_; clear hK2 K2
  refine code_seq (fun K5 hK5 => ?_)
  refine code_seq (fun K6 hK6 => ?_)
  refine code_region ?_
  refine list_cons rfl (op_q (q_assign rfl (by decide)) ?_)
  refine list_nil ?_
  refine hK6 _ ?_; clear hK6 K6
  refine code_block ?_
  refine code_loop (X := Bool × Int) (fun x => [(0, .par 0 (.sl a.length (a.map (.int .i64)))), (1, .par 1 (.sl b.length (b.map (.int .i64)))), (4, .val (.bool x.1)), (5, .val (.int .i64 x.2))]) (fun x => 0 ≤ x.2 ∧ x.2 ≤ a.length ∧ ∀ j, j < x.2.toNat → a.getD j 0 = b.getD j 0) (fun x => a.length - x.2.toNat) (_, _) (imp_covers ⟨rfl, rfl, rfl, rfl, trivial⟩) ?_ ?_
  · (try dsimp only)
    refine ⟨by omega, by omega, fun j hj => by simp at hj⟩
  · intro x hI
    obtain ⟨t4, i⟩ := x
    replace hI : 0 ≤ i ∧ i ≤ a.length ∧ ∀ j, j < i.toNat → a.getD j 0 = b.getD j 0 := hI
    show codeT _ _ _ [(0, .par 0 (.sl a.length (a.map (.int .i64)))), (1, .par 1 (.sl b.length (b.map (.int .i64)))), (4, .val (.bool t4)), (5, .val (.int .i64 i))] _
    obtain ⟨i1, i2, i3⟩ := hI
    refine code_seq (fun K7 hK7 => ?_)
    refine code_seq (fun K8 hK8 => ?_)
    refine code_region ?_
    refine list_cons rfl (op_q (q_move rfl (by decide)) ?_)
    refine list_cons rfl (op_q (q_move rfl (by decide)) ?_)
    refine list_cons rfl (op_q (q_len_sl Tryd.underlying24 rfl rfl (by decide)) ?_)
    refine list_cons rfl (op_q (q_lt rfl rfl (by decide)) ?_)
    refine list_nil ?_
    refine hK8 _ ?_; clear hK8 K8
    refine code_cond_d rfl (fun h2 => ?_) (fun h2 => ?_)
    · skip
      (try simp only [Decidable.not_not] at h2)
      refine code_skip ?_
      refine hK7 _ ?_; clear hK7 K7
      refine code_seq (fun K9 hK9 => ?_)
      refine code_block ?_
      refine code_seq (fun K10 hK10 => ?_)
      refine code_draw (by kernel_rfl) (by kernel_rfl) ?_
      refine draw_q rfl (q_move rfl (by decide)) ?_
      refine draw_q rfl (q_move rfl (by decide)) ?_
      refine draw_q rfl (q_indexAddr_rd sl_24 rfl (.inl ⟨_, rfl, rfl⟩) rfl (by omega) (by omega) (by decide)) ?_
      refine draw_q rfl (q_load_rd one_3 rfl (.inl ⟨_, (by first | rfl | exact congrArg (SV.rpar _) (drop_map1 _ 0 _ (by first | omega | (simp; omega)))), rfl⟩) (by decide)) ?_
      refine draw_q rfl (q_move rfl (by decide)) ?_
      refine draw_q rfl (q_move rfl (by decide)) ?_
      refine draw_q rfl (q_indexAddr_rd sl_24 rfl (.inl ⟨_, rfl, rfl⟩) rfl (by omega) (by omega) (by decide)) ?_
      refine draw_q rfl (q_load_rd one_3 rfl (.inl ⟨_, (by first | rfl | exact congrArg (SV.rpar _) (drop_map1 _ 0 _ (by first | omega | (simp; omega)))), rfl⟩) (by decide)) ?_
      refine draw_q rfl (q_ne rfl rfl (by decide)) ?_
      refine draw_nil ?_
      refine hK10 _ ?_; clear hK10 K10
      refine codeT.imp (σ' := [(0, _), (1, _), (4, _), (5, _), (25, _)]) ?_ (imp_covers ⟨rfl, rfl, rfl, rfl, rfl, trivial⟩)
      refine code_cond_d rfl (fun h3 => ?_) (fun h3 => ?_)
      · skip
        (try simp only [Decidable.not_not] at h3)
        refine code_seq (fun K11 hK11 => ?_)
        refine code_region ?_
        refine list_cons rfl (op_q (q_assign rfl (by decide)) ?_)
        refine list_nil ?_
        refine hK11 _ ?_; clear hK11 K11
        refine code_ret ?_
        refine blk_r ?_
        refine then_r ?_; clear hK9 K9
        refine then_r ?_
        refine blk_r ?_
        refine then_r ?_; clear hK5 K5
        refine ends_ret (cs := []) rfl rfl rfl rfl trivial ?_
        rw [decide_eq_false (list_ne_ofI 0 i.toNat h3)]
      (try simp only [Decidable.not_not] at h3)
      refine code_skip ?_
      refine blk_n ?_
      refine hK9 _ ?_; clear hK9 K9
      refine code_region ?_
      refine list_cons rfl (op_q (q_move rfl (by decide)) ?_)
      refine list_cons rfl (op_q (by first | exact q_addI rfl rfl (by decide) (by omega) (by omega) | exact q_ib rfl rfl rfl (by decide)) ?_)
      refine list_cons rfl (op_q (q_assign rfl (by decide)) ?_)
      refine list_nil ?_
      refine then_n ⟨(_, _), imp_covers ⟨rfl, rfl, rfl, rfl, trivial⟩, ?_, ?_⟩
      · (try dsimp only)
        refine ⟨by omega, by omega, fun j hj => ?_⟩
        by_cases e : j = i.toNat
        · subst e; exact h3
        · exact i3 j (by omega)
      · (try dsimp only); omega
    (try simp only [Decidable.not_not] at h2)
    refine code_exit ?_
    refine then_x ?_; clear hK7 K7
    refine then_x ?_
    refine blk_hit ?_
    refine hK5 _ ?_; clear hK5 K5
    refine code_seq (fun K12 hK12 => ?_)
    refine code_region ?_
    refine list_cons rfl (op_q (q_assign rfl (by decide)) ?_)
    refine list_nil ?_
    refine hK12 _ ?_; clear hK12 K12
    refine code_ret ?_
    refine ends_ret (cs := []) rfl rfl rfl rfl trivial ?_
    rw [decide_eq_true (list_eq_ofI 0 a b (by omega) fun j hj => i3 j (by omega))]
set_option maxRecDepth 4000 in
theorem rBig_c (code : List UInt8) : PCalls Tryd.prog 4 [.sl code.length (bytesP code)] (· = [.val (.bool (decide (65536 < code.length)))]) := by
  refine pcalls_of_code (n := 6) az Tryd.func4 (by kernel_rfl) rfl rfl (Nat.le_of_ble_eq_true rfl) (by intro t u h; simp [Tryd.f4] at h) ?_
  refine code_seq (fun K1 hK1 => ?_)
  refine code_region ?_
  refine list_cons rfl (op_q (q_assign rfl (by decide)) ?_)
  refine list_nil ?_
  refine hK1 _ ?_; clear hK1 K1
  refine code_seq (fun K2 hK2 => ?_)
  refine code_region ?_
  refine list_cons rfl (op_q (q_move rfl (by decide)) ?_)
  refine list_cons rfl (op_q (q_len_sl Tryd.underlying22 rfl rfl (by decide)) ?_)
  refine list_cons rfl (op_q (q_gt rfl rfl (by decide)) ?_)
  refine list_cons rfl (op_q (q_assign rfl (by decide)) ?_)
  refine list_nil ?_
  refine hK2 _ ?_; clear hK2 K2
  refine code_ret ?_
  refine ends_ret (cs := []) rfl rfl rfl rfl trivial ?_
  first | rfl | (congr 3; exact decide_eq_decide.mpr (by omega))
set_option maxRecDepth 4000 in
theorem rHas_c (l : List Int) (w : Int) (hl : l.length ≤ 4611686018427387904) : PCalls Tryd.prog 22 [.sl l.length (l.map (.int .i64)), .int .i64 w] (· = [.val (.bool (decide (w ∈ l)))]) := by
  refine pcalls_of_code (n := 18) az Tryd.func22 (by kernel_rfl) rfl rfl (Nat.le_of_ble_eq_true rfl) (by intro t u h; simp [Tryd.f22] at h) ?_
  refine code_seq (fun K1 hK1 => ?_)
  refine code_region ?_
  refine list_cons rfl (op_q (q_assign rfl (by decide)) ?_)
  refine list_nil ?_
  refine hK1 _ ?_; clear hK1 K1
  refine code_seq (fun K2 hK2 => ?_)
  refine code_seq (fun K3 hK3 => ?_)
  refine code_region ?_
  refine list_cons rfl (op_q (q_assign rfl (by decide)) ?_)
  refine list_nil ?_
  refine hK3 _ ?_; clear hK3 K3
  refine code_block ?_
  refine code_loop (X := Bool × Int) (fun x => [(0, .par 0 (.sl l.length (l.map (.int .i64)))), (1, .val (.int .i64 w)), (4, .val (.bool x.1)), (5, .val (.int .i64 x.2))]) (fun x => 0 ≤ x.2 ∧ x.2 ≤ l.length ∧ ∀ j, j < x.2.toNat → l.getD j 0 ≠ w) (fun x => l.length - x.2.toNat) (_, _) (imp_covers ⟨rfl, rfl, rfl, rfl, trivial⟩) ?_ ?_
  · (try dsimp only)
    refine ⟨by omega, by omega, fun j hj => by simp at hj⟩
  · intro x hI
    obtain ⟨t4, i⟩ := x
    replace hI : 0 ≤ i ∧ i ≤ l.length ∧ ∀ j, j < i.toNat → l.getD j 0 ≠ w := hI
    show codeT _ _ _ [(0, .par 0 (.sl l.length (l.map (.int .i64)))), (1, .val (.int .i64 w)), (4, .val (.bool t4)), (5, .val (.int .i64 i))] _
    obtain ⟨i1, i2, i3⟩ := hI
    refine code_seq (fun K4 hK4 => ?_)
    refine code_seq (fun K5 hK5 => ?_)
    refine code_region ?_
    refine list_cons rfl (op_q (q_move rfl (by decide)) ?_)
    refine list_cons rfl (op_q (q_move rfl (by decide)) ?_)
    refine list_cons rfl (op_q (q_len_sl Tryd.underlying24 rfl rfl (by decide)) ?_)
    refine list_cons rfl (op_q (q_lt rfl rfl (by decide)) ?_)
    refine list_nil ?_
    refine hK5 _ ?_; clear hK5 K5
    refine code_cond_d rfl (fun h1 => ?_) (fun h1 => ?_)
    · skip
      (try simp only [Decidable.not_not] at h1)
      refine code_skip ?_
      refine hK4 _ ?_; clear hK4 K4
      refine code_seq (fun K6 hK6 => ?_)
      refine code_block ?_
      refine code_seq (fun K7 hK7 => ?_)
      refine code_region ?_
      refine list_cons rfl (op_q (q_move rfl (by decide)) ?_)
      refine list_cons rfl (op_q (q_move rfl (by decide)) ?_)
      refine list_cons rfl (op_q (q_indexAddr_rd sl_24 rfl (.inl ⟨_, rfl, rfl⟩) rfl (by omega) (by omega) (by decide)) ?_)
      refine list_cons rfl (op_q (q_load_rd one_3 rfl (.inl ⟨_, (by first | rfl | exact congrArg (SV.rpar _) (drop_map1 _ 0 _ (by first | omega | (simp; omega)))), rfl⟩) (by decide)) ?_)
      refine list_cons rfl (op_q (q_move rfl (by decide)) ?_)
      refine list_cons rfl (op_q (q_eq rfl rfl (by decide)) ?_)
      refine list_nil ?_
      refine hK7 _ ?_; clear hK7 K7
      refine codeT.imp (σ' := [(0, _), (1, _), (4, _), (5, _), (17, _)]) ?_ (imp_covers ⟨rfl, rfl, rfl, rfl, rfl, trivial⟩)
      refine code_cond_d rfl (fun h2 => ?_) (fun h2 => ?_)
      · skip
        (try simp only [Decidable.not_not] at h2)
        refine code_seq (fun K8 hK8 => ?_)
        refine code_region ?_
        refine list_cons rfl (op_q (q_assign rfl (by decide)) ?_)
        refine list_nil ?_
        refine hK8 _ ?_; clear hK8 K8
        refine code_ret ?_
        refine blk_r ?_
        refine then_r ?_; clear hK6 K6
        refine then_r ?_
        refine blk_r ?_
        refine then_r ?_; clear hK2 K2
        refine ends_ret (cs := []) rfl rfl rfl rfl trivial ?_
        first
          | (rw [decide_eq_true (show w ∈ l from mem_of_getO (by omega) h2)]; done)
          | (rw [decide_eq_false (fun e => by obtain ⟨j, hj, rfl⟩ := List.getElem_of_mem e; exact i3 j (by omega) (by simp [hj]))]; done)
      (try simp only [Decidable.not_not] at h2)
      refine code_skip ?_
      refine blk_n ?_
      refine hK6 _ ?_; clear hK6 K6
      refine code_region ?_
      refine list_cons rfl (op_q (q_move rfl (by decide)) ?_)
      refine list_cons rfl (op_q (by first | exact q_addI rfl rfl (by decide) (by omega) (by omega) | exact q_ib rfl rfl rfl (by decide)) ?_)
      refine list_cons rfl (op_q (q_assign rfl (by decide)) ?_)
      refine list_nil ?_
      refine then_n ⟨(_, _), imp_covers ⟨rfl, rfl, rfl, rfl, trivial⟩, ?_, ?_⟩
      · (try dsimp only)
        refine ⟨by omega, by omega, fun j hj => ?_⟩
        by_cases e : j = i.toNat
        · subst e; exact h2
        · exact i3 j (by omega)
      · (try dsimp only); omega
    (try simp only [Decidable.not_not] at h1)
    refine code_exit ?_
    refine then_x ?_; clear hK4 K4
    refine then_x ?_
    refine blk_hit ?_
    refine hK2 _ ?_; clear hK2 K2
    refine code_seq (fun K9 hK9 => ?_)
    refine code_region ?_
    refine list_cons rfl (op_q (q_assign rfl (by decide)) ?_)
    refine list_nil ?_
    refine hK9 _ ?_; clear hK9 K9
    refine code_ret ?_
    refine ends_ret (cs := []) rfl rfl rfl rfl trivial ?_
    first
      | (rw [decide_eq_true (show w ∈ l from mem_of_getO (by omega) h1)]; done)
      | (rw [decide_eq_false (fun e => by obtain ⟨j, hj, rfl⟩ := List.getElem_of_mem e; exact i3 j (by omega) (by simp [hj]))]; done)
set_option maxRecDepth 8000 in
set_option maxHeartbeats 16000000 in
theorem FnOrders_law (code : List UInt8) (p0 : code.length ≤ 9223372036854775807) : MCalls Tryd.prog 3 true none [.sl code.length (bytesP code)] fun rs _ => rs = [.val (.bool true)] := by
  refine mcalls_of_code (n := 334) az Tryd.func3 (by kernel_rfl) rfl rfl (Nat.le_of_ble_eq_true rfl) (by intro t u h; simp [Tryd.f3] at h) ?_
  refine code_seq (fun K1 hK1 => ?_)
  refine code_region ?_
  refine list_cons rfl (op_q (q_assign rfl (by decide)) ?_)
  refine list_nil ?_
  refine hK1 _ ?_; clear hK1 K1
  refine code_seq (fun K2 hK2 => ?_)
  refine code_seq (fun K3 hK3 => ?_)
  refine code_region ?_
  refine list_cons rfl (op_q (q_move rfl (by decide)) ?_)
  refine list_cons rfl (op_call _ (rBig_c _) rfl rfl (by decide) (by decide) (by decide) rfl ?_)
  rintro _ rfl
  refine list_nil ?_
  refine hK3 _ ?_; clear hK3 K3
  refine codeT.imp (σ' := [(0, .ext _), (2, .val (.bool _)), (48, .val (.bool _))]) ?_ (imp_covers ⟨rfl, rfl, rfl, trivial⟩)
  refine code_cond_d rfl (fun h1 => ?_) (fun h1 => ?_)
  · skip
    (try simp only [Decidable.not_not] at h1); (try have hN : 0 ≤ d ∧ d ≤ 9 := h1); (try (have hO : ordK l l.length = true := h1; have hE := ord_endL hO))
    refine code_seq (fun K4 hK4 => ?_)
    refine code_region ?_
    refine list_cons rfl (op_q (q_assign rfl (by decide)) ?_)
    refine list_nil ?_
    refine hK4 _ ?_; clear hK4 K4
    refine code_ret ?_
    refine then_r ?_; clear hK2 K2
    refine ends_ret (cs := []) rfl rfl rfl rfl trivial ?_
    first | rfl | (rw [decide_eq_true hE.2.2.2.2.2.2.2.2]; done)
  (try simp only [Decidable.not_not] at h1); (try have hN : 0 ≤ d ∧ d ≤ 9 := h1); (try (have hO : ordK l l.length = true := h1; have hE := ord_endL hO))
  refine code_skip ?_
  refine hK2 _ ?_; clear hK2 K2
  refine code_seq (fun K5 hK5 => ?_)
  refine code_region ?_
  refine list_cons rfl (op_q (q_move rfl (by decide)) ?_)
  refine list_cons rfl (op_callM (DrawOrderCost_c _ ?_) (.tmp 0) 0 [] [.tmp 50] _ rfl rfl (by intro y hy; cases hy) (by decide) (by decide) (by decide) rfl (by intro h; cases h) ?_)
  · first | assumption | omega | (simp; omega)
  rintro _ _ ⟨l, r, hl, rfl⟩
  refine list_cons rfl (op_q (q_move rfl (by decide)) ?_)
  refine list_cons rfl (op_q (q_extract rfl rfl (by decide)) ?_)
  refine list_cons rfl (op_q (q_extract rfl rfl (by decide)) ?_)
  refine list_cons rfl (op_q (q_assign rfl (by decide)) ?_)
  refine list_cons rfl (op_q (q_assign rfl (by decide)) ?_)
  refine list_nil ?_
  refine hK5 _ ?_; clear hK5 K5
  refine codeT.imp (σ' := [(0, .ext _), (2, .val (.bool _)), (3, .own 51 3 1 _ _), (4, .val (.bool _))]) ?_ (imp_covers ⟨rfl, rfl, rfl, rfl, trivial⟩)
  refine code_seq (fun K6 hK6 => ?_)
  refine code_region ?_
  refine list_cons rfl (op_q (q_move rfl (by decide)) ?_)
  refine list_cons rfl (op_q (q_move rfl (by decide)) ?_)
  refine list_cons rfl (op_call _ (impl_OrderCost _ _ (by omega)) rfl rfl (by decide) (by decide) (by decide) rfl ?_)
  rintro _ rfl
  refine list_cons rfl (op_q (q_move rfl (by decide)) ?_)
  refine list_cons rfl (op_q (q_extract rfl rfl (by decide)) ?_)
  refine list_cons rfl (op_q (q_extract rfl rfl (by decide)) ?_)
  refine list_cons rfl (op_q (q_assign rfl (by decide)) ?_)
  refine list_cons rfl (op_q (q_assign rfl (by decide)) ?_)
  refine list_nil ?_
  refine hK6 _ ?_; clear hK6 K6
  refine codeT.imp (σ' := [(0, .ext _), (2, .val (.bool _)), (3, .own 51 3 1 _ _), (4, .val (.bool _)), (5, .val (.int .i64 _)), (6, .val (.bool _))]) ?_ (imp_covers ⟨rfl, rfl, rfl, rfl, rfl, rfl, trivial⟩)
  refine code_seq (fun K7 hK7 => ?_)
  refine code_seq (fun K8 hK8 => ?_)
  refine code_region ?_
  refine list_cons rfl (op_q (q_move rfl (by decide)) ?_)
  refine list_cons rfl (op_q (q_move rfl (by decide)) ?_)
  refine list_cons rfl (op_call _ (spec_OrderCost _ _ (by omega)) rfl rfl (by decide) (by decide) (by decide) rfl ?_)
  rintro _ rfl
  refine list_cons rfl (op_q (q_move rfl (by decide)) ?_)
  refine list_cons rfl (op_q (q_extract rfl rfl (by decide)) ?_)
  refine list_cons rfl (op_q (q_extract rfl rfl (by decide)) ?_)
  refine list_cons rfl (op_q (q_assign rfl (by decide)) ?_)
  refine list_cons rfl (op_q (q_assign rfl (by decide)) ?_)
  refine list_nil ?_
  refine hK8 _ ?_; clear hK8 K8
  refine codeT.imp (σ' := [(0, .ext _), (2, .val (.bool _)), (3, .own 51 3 1 _ _), (4, .val (.bool _)), (5, .val (.int .i64 _)), (6, .val (.bool _)), (7, .val (.int .i64 _)), (8, .val (.bool _))]) ?_ (imp_covers ⟨rfl, rfl, rfl, rfl, rfl, rfl, rfl, rfl, trivial⟩)
  refine code_seq (fun K9 hK9 => ?_)
  refine code_region ?_
  refine list_cons rfl (op_q (q_move rfl (by decide)) ?_)
  refine list_cons rfl (op_q (q_move rfl (by decide)) ?_)
  refine list_cons rfl (op_q (q_ne rfl rfl (by decide)) ?_)
  refine list_cons rfl (op_q (q_move rfl (by decide)) ?_)
  refine list_guard_d rfl rfl rfl rfl (by decide) rfl (by decide) (fun h2 => ?_) (fun h2 => ?_)
  · simp only [Bool.false_eq_true, if_true, if_false, Decidable.not_not] at h2
    (try simp only [Decidable.not_not] at h2); (try have hN : 0 ≤ d ∧ d ≤ 9 := h2); (try (have hO : ordK l l.length = true := h2; have hE := ord_endL hO))
    refine id (op_q (q_move rfl (by decide)) ?_)
    refine list_guard_y rfl rfl rfl rfl (by decide) rfl ?_
    refine id (op_q (q_move rfl (by decide)) ?_)
    refine list_guard_y rfl rfl rfl rfl (by decide) rfl ?_
    refine id (op_q (q_bne Tryd.underlying4 rfl rfl (by decide)) ?_)
    refine list_cons rfl (op_q (q_pick rfl rfl (by decide)) ?_)
    refine list_nil ?_
    refine hK9 _ ?_; clear hK9 K9
    refine codeT.imp (σ' := [(0, .ext _), (2, .val (.bool _)), (3, .own 51 3 1 _ _), (4, .val (.bool _)), (5, .val (.int .i64 _)), (6, .val (.bool _)), (7, .val (.int .i64 _)), (8, .val (.bool _)), (73, .val (.bool _))]) ?_ (imp_covers ⟨rfl, rfl, rfl, rfl, rfl, rfl, rfl, rfl, rfl, trivial⟩)
    refine code_cond_d rfl (fun h3 => ?_) (fun h3 => ?_)
    · skip
      (try simp only [Decidable.not_not] at h3); (try have hN : 0 ≤ d ∧ d ≤ 9 := h3); (try (have hO : ordK l l.length = true := h3; have hE := ord_endL hO))
      exfalso
      first | exact absurd rfl h3 | exact h3 ⟨rfl, rfl, trivial⟩ | exact h3 trivial | (simp at h3; done)
    (try simp only [Decidable.not_not] at h3); (try have hN : 0 ≤ d ∧ d ≤ 9 := h3); (try (have hO : ordK l l.length = true := h3; have hE := ord_endL hO))
    refine code_skip ?_
    refine hK7 _ ?_; clear hK7 K7
    refine code_seq (fun K10 hK10 => ?_)
    refine code_region ?_
    refine list_cons rfl (op_q (q_move rfl (by decide)) ?_)
    refine list_cons rfl (op_callM (impl_LeastOrder _ (by first | omega | (simp; omega))) (.tmp 0) 0 [] [.tmp 75] _ rfl rfl (by intro y hy; cases hy) (by decide) (by decide) (by decide) rfl (by intro h; cases h) ?_)
    rintro _ _ rfl; have hlo1 := loD_len l false
    refine list_cons rfl (op_q (q_move rfl (by decide)) ?_)
    refine list_cons rfl (op_q (q_extract rfl rfl (by decide)) ?_)
    refine list_cons rfl (op_q (q_extract rfl rfl (by decide)) ?_)
    refine list_cons rfl (op_q (q_extract rfl rfl (by decide)) ?_)
    refine list_cons rfl (op_q (q_assign rfl (by decide)) ?_)
    refine list_cons rfl (op_q (q_assign rfl (by decide)) ?_)
    refine list_cons rfl (op_q (q_assign rfl (by decide)) ?_)
    refine list_nil ?_
    refine hK10 _ ?_; clear hK10 K10
    refine codeT.imp (σ' := [(0, .ext _), (2, .val (.bool _)), (3, .own 51 3 1 _ _), (4, .val (.bool _)), (5, .val (.int .i64 _)), (6, .val (.bool _)), (7, .val (.int .i64 _)), (8, .val (.bool _)), (9, .own 76 3 1 _ _), (10, .val (.int .i64 _)), (11, .val (.bool _))]) ?_ (imp_covers ⟨rfl, rfl, rfl, rfl, rfl, rfl, rfl, rfl, rfl, rfl, rfl, trivial⟩)
    refine code_seq (fun K11 hK11 => ?_)
    refine code_seq (fun K12 hK12 => ?_)
    refine code_region ?_
    refine list_cons rfl (op_q (q_move rfl (by decide)) ?_)
    refine list_cons rfl (op_call _ (spec_LeastOrderD _ (by first | omega | (simp; omega))) rfl rfl (by decide) (by decide) (by decide) rfl ?_)
    rintro _ rfl
    refine list_cons rfl (op_q (q_move rfl (by decide)) ?_)
    refine list_cons rfl (op_q (q_extract rfl rfl (by decide)) ?_)
    refine list_cons rfl (op_q (q_extract rfl rfl (by decide)) ?_)
    refine list_cons rfl (op_q (q_extract rfl rfl (by decide)) ?_)
    refine list_cons rfl (op_q (q_assign rfl (by decide)) ?_)
    refine list_cons rfl (op_q (q_assign rfl (by decide)) ?_)
    refine list_cons rfl (op_q (q_assign rfl (by decide)) ?_)
    refine list_nil ?_
    refine hK12 _ ?_; clear hK12 K12
    refine codeT.imp (σ' := [(0, .ext _), (2, .val (.bool _)), (3, .own 51 3 1 _ _), (4, .val (.bool _)), (5, .val (.int .i64 _)), (6, .val (.bool _)), (7, .val (.int .i64 _)), (8, .val (.bool _)), (9, .own 76 3 1 _ _), (10, .val (.int .i64 _)), (11, .val (.bool _)), (12, .own 82 3 1 _ _), (13, .val (.int .i64 _)), (14, .val (.bool _))]) ?_ (imp_covers ⟨rfl, rfl, rfl, rfl, rfl, rfl, rfl, rfl, rfl, rfl, rfl, rfl, rfl, rfl, trivial⟩)
    refine code_seq (fun K13 hK13 => ?_)
    refine code_region ?_
    refine list_cons rfl (op_q (q_move rfl (by decide)) ?_)
    refine list_cons rfl (op_q (q_move rfl (by decide)) ?_)
    refine list_cons rfl (op_q (q_ne rfl rfl (by decide)) ?_)
    refine list_cons rfl (op_q (q_move rfl (by decide)) ?_)
    refine list_guard_d rfl rfl rfl rfl (by decide) rfl (by decide) (fun h4 => ?_) (fun h4 => ?_)
    · simp only [Bool.false_eq_true, if_true, if_false, Decidable.not_not] at h4
      (try simp only [Decidable.not_not] at h4); (try have hN : 0 ≤ d ∧ d ≤ 9 := h4); (try (have hO : ordK l l.length = true := h4; have hE := ord_endL hO))
      refine id (op_q (q_move rfl (by decide)) ?_)
      refine list_guard_y rfl rfl rfl rfl (by decide) rfl ?_
      refine id (op_q (q_move rfl (by decide)) ?_)
      refine list_guard_y rfl rfl rfl rfl (by decide) rfl ?_
      refine id (op_q (q_bne Tryd.underlying4 rfl rfl (by decide)) ?_)
      refine list_cons rfl (op_q (q_pick rfl rfl (by decide)) ?_)
      refine list_cons rfl (op_q (q_move rfl (by decide)) ?_)
      refine list_guard_d rfl rfl rfl rfl (by decide) rfl (by decide) (fun h5 => ?_) (fun h5 => ?_)
      · simp only [Bool.false_eq_true, if_true, if_false, Decidable.not_not] at h5
        (try simp only [Decidable.not_not] at h5); (try have hN : 0 ≤ d ∧ d ≤ 9 := h5); (try (have hO : ordK l l.length = true := h5; have hE := ord_endL hO))
        refine id (op_q (q_move rfl (by decide)) ?_)
        refine list_guard_y rfl rfl rfl rfl (by decide) rfl ?_
        refine id (op_q (q_move rfl (by decide)) ?_)
        refine list_guard_y rfl rfl rfl rfl (by decide) rfl ?_
        refine id (op_q (q_bne Tryd.underlying4 rfl rfl (by decide)) ?_)
        refine list_cons rfl (op_q (q_pick rfl rfl (by decide)) ?_)
        refine list_cons rfl (op_q (q_move rfl (by decide)) ?_)
        refine list_guard_d rfl rfl rfl rfl (by decide) rfl (by decide) (fun h6 => ?_) (fun h6 => ?_)
        · simp only [Bool.false_eq_true, if_true, if_false, Decidable.not_not] at h6
          (try simp only [Decidable.not_not] at h6); (try have hN : 0 ≤ d ∧ d ≤ 9 := h6); (try (have hO : ordK l l.length = true := h6; have hE := ord_endL hO))
          refine id (op_q (q_move rfl (by decide)) ?_)
          refine list_guard_y rfl rfl rfl rfl (by decide) rfl ?_
          refine id (op_q (q_move rfl (by decide)) ?_)
          refine list_guard_y rfl rfl rfl rfl (by decide) rfl ?_
          refine id (op_call _ (rInts_c _ _ (by first | omega | (simp; omega))) rfl rfl (by decide) (by decide) (by decide) rfl ?_)
          rintro _ rfl
          refine list_guard_y rfl rfl rfl rfl (by decide) rfl ?_
          refine id (op_q (by first | exact q_notd rfl (by decide) | exact q_not rfl (by decide)) ?_)
          refine list_cons rfl (op_q (q_pick rfl rfl (by decide)) ?_)
          refine list_nil ?_
          refine hK13 _ ?_; clear hK13 K13
          refine codeT.imp (σ' := [(0, .ext _), (2, .val (.bool _)), (3, .own 51 3 1 _ _), (4, .val (.bool _)), (5, .val (.int .i64 _)), (6, .val (.bool _)), (7, .val (.int .i64 _)), (8, .val (.bool _)), (9, .own 76 3 1 _ _), (10, .val (.int .i64 _)), (11, .val (.bool _)), (12, .own 82 3 1 _ _), (13, .val (.int .i64 _)), (14, .val (.bool _)), (104, .val (.bool _))]) ?_ (imp_covers ⟨rfl, rfl, rfl, rfl, rfl, rfl, rfl, rfl, rfl, rfl, rfl, rfl, rfl, rfl, rfl, trivial⟩)
          refine code_cond_d rfl (fun h7 => ?_) (fun h7 => ?_)
          · skip
            (try simp only [Decidable.not_not] at h7); (try have hN : 0 ≤ d ∧ d ≤ 9 := h7); (try (have hO : ordK l l.length = true := h7; have hE := ord_endL hO))
            exfalso
            first | exact absurd rfl h7 | exact h7 ⟨rfl, rfl, trivial⟩ | exact h7 trivial | (simp at h7; done)
          (try simp only [Decidable.not_not] at h7); (try have hN : 0 ≤ d ∧ d ≤ 9 := h7); (try (have hO : ordK l l.length = true := h7; have hE := ord_endL hO))
          refine code_skip ?_
          refine hK11 _ ?_; clear hK11 K11
          refine code_seq (fun K14 hK14 => ?_)
          refine code_region ?_
          refine list_cons rfl (op_q (q_move rfl (by decide)) ?_)
          refine list_cons rfl (op_callM (impl_LeastRing _ (by first | omega | (simp; omega))) (.tmp 0) 0 [] [.tmp 106] _ rfl rfl (by intro y hy; cases hy) (by decide) (by decide) (by decide) rfl (by intro h; cases h) ?_)
          rintro _ _ rfl; have hlo2 := loD_len l true
          refine list_cons rfl (op_q (q_move rfl (by decide)) ?_)
          refine list_cons rfl (op_q (q_extract rfl rfl (by decide)) ?_)
          refine list_cons rfl (op_q (q_extract rfl rfl (by decide)) ?_)
          refine list_cons rfl (op_q (q_extract rfl rfl (by decide)) ?_)
          refine list_cons rfl (op_q (q_assign rfl (by decide)) ?_)
          refine list_cons rfl (op_q (q_assign rfl (by decide)) ?_)
          refine list_cons rfl (op_q (q_assign rfl (by decide)) ?_)
          refine list_nil ?_
          refine hK14 _ ?_; clear hK14 K14
          refine codeT.imp (σ' := [(0, .ext _), (2, .val (.bool _)), (3, .own 51 3 1 _ _), (4, .val (.bool _)), (5, .val (.int .i64 _)), (6, .val (.bool _)), (7, .val (.int .i64 _)), (8, .val (.bool _)), (9, .own 76 3 1 _ _), (10, .val (.int .i64 _)), (11, .val (.bool _)), (12, .own 82 3 1 _ _), (13, .val (.int .i64 _)), (14, .val (.bool _)), (15, .own 107 3 1 _ _), (16, .val (.int .i64 _)), (17, .val (.bool _))]) ?_ (imp_covers ⟨rfl, rfl, rfl, rfl, rfl, rfl, rfl, rfl, rfl, rfl, rfl, rfl, rfl, rfl, rfl, rfl, rfl, trivial⟩)
          refine code_seq (fun K15 hK15 => ?_)
          refine code_seq (fun K16 hK16 => ?_)
          refine code_region ?_
          refine list_cons rfl (op_q (q_move rfl (by decide)) ?_)
          refine list_cons rfl (op_call _ (spec_LeastRingD _ (by first | omega | (simp; omega))) rfl rfl (by decide) (by decide) (by decide) rfl ?_)
          rintro _ rfl
          refine list_cons rfl (op_q (q_move rfl (by decide)) ?_)
          refine list_cons rfl (op_q (q_extract rfl rfl (by decide)) ?_)
          refine list_cons rfl (op_q (q_extract rfl rfl (by decide)) ?_)
          refine list_cons rfl (op_q (q_extract rfl rfl (by decide)) ?_)
          refine list_cons rfl (op_q (q_assign rfl (by decide)) ?_)
          refine list_cons rfl (op_q (q_assign rfl (by decide)) ?_)
          refine list_cons rfl (op_q (q_assign rfl (by decide)) ?_)
          refine list_nil ?_
          refine hK16 _ ?_; clear hK16 K16
          refine codeT.imp (σ' := [(0, .ext _), (2, .val (.bool _)), (3, .own 51 3 1 _ _), (4, .val (.bool _)), (5, .val (.int .i64 _)), (6, .val (.bool _)), (7, .val (.int .i64 _)), (8, .val (.bool _)), (9, .own 76 3 1 _ _), (10, .val (.int .i64 _)), (11, .val (.bool _)), (12, .own 82 3 1 _ _), (13, .val (.int .i64 _)), (14, .val (.bool _)), (15, .own 107 3 1 _ _), (16, .val (.int .i64 _)), (17, .val (.bool _)), (18, .own 113 3 1 _ _), (19, .val (.int .i64 _)), (20, .val (.bool _))]) ?_ (imp_covers ⟨rfl, rfl, rfl, rfl, rfl, rfl, rfl, rfl, rfl, rfl, rfl, rfl, rfl, rfl, rfl, rfl, rfl, rfl, rfl, rfl, trivial⟩)
          refine code_seq (fun K17 hK17 => ?_)
          refine code_region ?_
          refine list_cons rfl (op_q (q_move rfl (by decide)) ?_)
          refine list_cons rfl (op_q (q_move rfl (by decide)) ?_)
          refine list_cons rfl (op_q (q_ne rfl rfl (by decide)) ?_)
          refine list_cons rfl (op_q (q_move rfl (by decide)) ?_)
          refine list_guard_d rfl rfl rfl rfl (by decide) rfl (by decide) (fun h8 => ?_) (fun h8 => ?_)
          · simp only [Bool.false_eq_true, if_true, if_false, Decidable.not_not] at h8
            (try simp only [Decidable.not_not] at h8); (try have hN : 0 ≤ d ∧ d ≤ 9 := h8); (try (have hO : ordK l l.length = true := h8; have hE := ord_endL hO))
            refine id (op_q (q_move rfl (by decide)) ?_)
            refine list_guard_y rfl rfl rfl rfl (by decide) rfl ?_
            refine id (op_q (q_move rfl (by decide)) ?_)
            refine list_guard_y rfl rfl rfl rfl (by decide) rfl ?_
            refine id (op_q (q_bne Tryd.underlying4 rfl rfl (by decide)) ?_)
            refine list_cons rfl (op_q (q_pick rfl rfl (by decide)) ?_)
            refine list_cons rfl (op_q (q_move rfl (by decide)) ?_)
            refine list_guard_d rfl rfl rfl rfl (by decide) rfl (by decide) (fun h9 => ?_) (fun h9 => ?_)
            · simp only [Bool.false_eq_true, if_true, if_false, Decidable.not_not] at h9
              (try simp only [Decidable.not_not] at h9); (try have hN : 0 ≤ d ∧ d ≤ 9 := h9); (try (have hO : ordK l l.length = true := h9; have hE := ord_endL hO))
              refine id (op_q (q_move rfl (by decide)) ?_)
              refine list_guard_y rfl rfl rfl rfl (by decide) rfl ?_
              refine id (op_q (q_move rfl (by decide)) ?_)
              refine list_guard_y rfl rfl rfl rfl (by decide) rfl ?_
              refine id (op_q (q_bne Tryd.underlying4 rfl rfl (by decide)) ?_)
              refine list_cons rfl (op_q (q_pick rfl rfl (by decide)) ?_)
              refine list_cons rfl (op_q (q_move rfl (by decide)) ?_)
              refine list_guard_d rfl rfl rfl rfl (by decide) rfl (by decide) (fun h10 => ?_) (fun h10 => ?_)
              · simp only [Bool.false_eq_true, if_true, if_false, Decidable.not_not] at h10
                (try simp only [Decidable.not_not] at h10); (try have hN : 0 ≤ d ∧ d ≤ 9 := h10); (try (have hO : ordK l l.length = true := h10; have hE := ord_endL hO))
                refine id (op_q (q_move rfl (by decide)) ?_)
                refine list_guard_y rfl rfl rfl rfl (by decide) rfl ?_
                refine id (op_q (q_move rfl (by decide)) ?_)
                refine list_guard_y rfl rfl rfl rfl (by decide) rfl ?_
                refine id (op_call _ (rInts_c _ _ (by first | omega | (simp; omega))) rfl rfl (by decide) (by decide) (by decide) rfl ?_)
                rintro _ rfl
                refine list_guard_y rfl rfl rfl rfl (by decide) rfl ?_
                refine id (op_q (by first | exact q_notd rfl (by decide) | exact q_not rfl (by decide)) ?_)
                refine list_cons rfl (op_q (q_pick rfl rfl (by decide)) ?_)
                refine list_nil ?_
                refine hK17 _ ?_; clear hK17 K17
                refine codeT.imp (σ' := [(0, .ext _), (2, .val (.bool _)), (3, .own 51 3 1 _ _), (4, .val (.bool _)), (5, .val (.int .i64 _)), (6, .val (.bool _)), (7, .val (.int .i64 _)), (8, .val (.bool _)), (9, .own 76 3 1 _ _), (10, .val (.int .i64 _)), (11, .val (.bool _)), (12, .own 82 3 1 _ _), (13, .val (.int .i64 _)), (14, .val (.bool _)), (15, .own 107 3 1 _ _), (16, .val (.int .i64 _)), (17, .val (.bool _)), (18, .own 113 3 1 _ _), (19, .val (.int .i64 _)), (20, .val (.bool _)), (135, .val (.bool _))]) ?_ (imp_covers ⟨rfl, rfl, rfl, rfl, rfl, rfl, rfl, rfl, rfl, rfl, rfl, rfl, rfl, rfl, rfl, rfl, rfl, rfl, rfl, rfl, rfl, trivial⟩)
                refine code_cond_d rfl (fun h11 => ?_) (fun h11 => ?_)
                · skip
                  (try simp only [Decidable.not_not] at h11); (try have hN : 0 ≤ d ∧ d ≤ 9 := h11); (try (have hO : ordK l l.length = true := h11; have hE := ord_endL hO))
                  exfalso
                  first | exact absurd rfl h11 | exact h11 ⟨rfl, rfl, trivial⟩ | exact h11 trivial | (simp at h11; done)
                (try simp only [Decidable.not_not] at h11); (try have hN : 0 ≤ d ∧ d ≤ 9 := h11); (try (have hO : ordK l l.length = true := h11; have hE := ord_endL hO))
                refine code_skip ?_
                refine hK15 _ ?_; clear hK15 K15
                refine code_seq (fun K18 hK18 => ?_)
                refine code_region ?_
                refine list_cons rfl (op_call _ (impl_ChangeTable) rfl rfl (by decide) (by decide) (by decide) rfl ?_)
                rintro _ rfl
                refine list_cons rfl (op_alloc zt_33 (by decide) (by decide) rfl ?_)
                refine list_cons rfl (op_store (agg_33).2 21 [21] (by intro t ht; simp only [List.mem_cons, List.not_mem_nil, or_false] at ht; subst ht; rfl) (.inr ⟨rfl, _, rfl⟩) rfl rfl rfl rfl (by first | rfl | exact flat_part (flat_map _ (fun _ => rfl) _) _ _ | exact flat_map _ (fun _ => rfl) _) (by first | rfl | (simp [PV.cells]; done)) (by first | decide | omega | exact Nat.le_refl _ | (simp; done) | (simp; omega)) (by decide) rfl ?_)
                refine list_nil ?_
                refine hK18 _ ?_; clear hK18 K18
                refine codeT.imp (σ' := [(0, .ext _), (2, .val (.bool _)), (3, .own 51 3 1 _ _), (4, .val (.bool _)), (5, .val (.int .i64 _)), (6, .val (.bool _)), (7, .val (.int .i64 _)), (8, .val (.bool _)), (9, .own 76 3 1 _ _), (10, .val (.int .i64 _)), (11, .val (.bool _)), (12, .own 82 3 1 _ _), (13, .val (.int .i64 _)), (14, .val (.bool _)), (15, .own 107 3 1 _ _), (16, .val (.int .i64 _)), (17, .val (.bool _)), (18, .own 113 3 1 _ _), (19, .val (.int .i64 _)), (20, .val (.bool _)), (21, .box 21 33 ((tabS 100).map (.int .i64)))]) ?_ (imp_covers ⟨rfl, rfl, rfl, rfl, rfl, rfl, rfl, rfl, rfl, rfl, rfl, rfl, rfl, rfl, rfl, rfl, rfl, rfl, rfl, rfl, (congrArg (fun z => some (SV.box 21 33 z)) (put_all8 (n := 100) (by rfl) (by simp [tabS, filN_len]))), trivial⟩)
                refine code_seq (fun K19 hK19 => ?_)
                refine code_seq (fun K20 hK20 => ?_)
                refine code_draw (by kernel_rfl) (by kernel_rfl) ?_
                refine draw_q rfl (q_cast (q_load_agg agg_33 21 (.inr ⟨rfl, _, rfl⟩) rfl rfl (by first | exact tab_get (by omega) (by omega) | exact get_map1 (PV.int .i64) 0 (shS 70) (by rw [shS_len]; omega) | rfl | (simp [tabS, filN_len, shS_len]; done)) (by first | rfl | exact flat_part (flat_map _ (fun _ => rfl) _) _ _) (by decide)) (congrArg (fun z => SV.val (PV.agg z)) (by first | exact ldA 100 (tabS 100) tab_len | exact ldA 7 (shS 70) (shS_len _)))) ?_
                refine draw_call _ (spec_ChangeTable) rfl rfl rfl (by decide) ?_
                refine draw_q rfl (q_aggne (by decide) agg_33 eqty_33 eqg_33 rfl rfl (show HasK (List.replicate 100 [BK.int .i64]).flatten _ from hasK_q 100 _ (by rw [tab_len]; decide)) (show HasK (List.replicate 100 [BK.int .i64]).flatten _ from hasK_q 100 _ (by rw [tab_len]; decide)) rfl rfl (by decide)) ?_
                refine draw_nil ?_
                refine hK20 _ ?_; clear hK20 K20
                refine code_cond_d rfl (fun h12 => ?_) (fun h12 => ?_)
                · skip
                  (try simp only [Decidable.not_not] at h12); (try have hN : 0 ≤ d ∧ d ≤ 9 := h12); (try (have hO : ordK l l.length = true := h12; have hE := ord_endL hO))
                  exfalso
                  first | exact h12 ((eqP_q _ _ rfl).2 rfl)
                (try simp only [Decidable.not_not] at h12); (try have hN : 0 ≤ d ∧ d ≤ 9 := h12); (try (have hO : ordK l l.length = true := h12; have hE := ord_endL hO))
                refine code_skip ?_
                refine hK19 _ ?_; clear hK19 K19
                refine code_seq (fun K21 hK21 => ?_)
                refine code_region ?_
                refine list_cons rfl (op_call _ (impl_BarShares) rfl rfl (by decide) (by decide) (by decide) rfl ?_)
                rintro _ rfl
                refine list_cons rfl (op_alloc zt_35 (by decide) (by decide) rfl ?_)
                refine list_cons rfl (op_store (agg_35).2 22 [22] (by intro t ht; simp only [List.mem_cons, List.not_mem_nil, or_false] at ht; subst ht; rfl) (.inr ⟨rfl, _, rfl⟩) rfl rfl rfl rfl (by first | rfl | exact flat_part (flat_map _ (fun _ => rfl) _) _ _ | exact flat_map _ (fun _ => rfl) _) (by first | rfl | (simp [PV.cells]; done)) (by first | decide | omega | exact Nat.le_refl _ | (simp; done) | (simp; omega)) (by decide) rfl ?_)
                refine list_nil ?_
                refine hK21 _ ?_; clear hK21 K21
                refine codeT.imp (σ' := [(0, .ext _), (2, .val (.bool _)), (3, .own 51 3 1 _ _), (4, .val (.bool _)), (5, .val (.int .i64 _)), (6, .val (.bool _)), (7, .val (.int .i64 _)), (8, .val (.bool _)), (9, .own 76 3 1 _ _), (10, .val (.int .i64 _)), (11, .val (.bool _)), (12, .own 82 3 1 _ _), (13, .val (.int .i64 _)), (14, .val (.bool _)), (15, .own 107 3 1 _ _), (16, .val (.int .i64 _)), (17, .val (.bool _)), (18, .own 113 3 1 _ _), (19, .val (.int .i64 _)), (20, .val (.bool _)), (21, .box 21 33 _), (22, .box 22 35 ((shS 70).map (.int .i64)))]) ?_ (imp_covers ⟨rfl, rfl, rfl, rfl, rfl, rfl, rfl, rfl, rfl, rfl, rfl, rfl, rfl, rfl, rfl, rfl, rfl, rfl, rfl, rfl, rfl, (congrArg (fun z => some (SV.box 22 35 z)) (put_all8 (n := 7) (by rfl) (by simp [shS_len]))), trivial⟩)
                refine code_seq (fun K22 hK22 => ?_)
                refine code_seq (fun K23 hK23 => ?_)
                refine code_draw (by kernel_rfl) (by kernel_rfl) ?_
                refine draw_q rfl (q_cast (q_load_agg agg_35 22 (.inr ⟨rfl, _, rfl⟩) rfl rfl (by first | exact tab_get (by omega) (by omega) | exact get_map1 (PV.int .i64) 0 (shS 70) (by rw [shS_len]; omega) | rfl | (simp [tabS, filN_len, shS_len]; done)) (by first | rfl | exact flat_part (flat_map _ (fun _ => rfl) _) _ _) (by decide)) (congrArg (fun z => SV.val (PV.agg z)) (by first | exact ldA 100 (tabS 100) tab_len | exact ldA 7 (shS 70) (shS_len _)))) ?_
                refine draw_call _ (spec_BarShares) rfl rfl rfl (by decide) ?_
                refine draw_q rfl (q_aggne (by decide) agg_35 eqty_35 eqg_35 rfl rfl (hasK_q 7 _ (by rw [shS_len]; decide)) (hasK_q 7 _ (by rw [shS_len]; decide)) rfl rfl (by decide)) ?_
                refine draw_nil ?_
                refine hK23 _ ?_; clear hK23 K23
                refine code_cond_d rfl (fun h13 => ?_) (fun h13 => ?_)
                · skip
                  (try simp only [Decidable.not_not] at h13); (try have hN : 0 ≤ d ∧ d ≤ 9 := h13); (try (have hO : ordK l l.length = true := h13; have hE := ord_endL hO))
                  exfalso
                  first | exact h13 ((eqP_q _ _ rfl).2 rfl)
                (try simp only [Decidable.not_not] at h13); (try have hN : 0 ≤ d ∧ d ≤ 9 := h13); (try (have hO : ordK l l.length = true := h13; have hE := ord_endL hO))
                refine code_skip ?_
                refine hK22 _ ?_; clear hK22 K22
                refine code_seq (fun K24 hK24 => ?_)
                refine code_region ?_
                refine list_cons rfl (op_q (q_move rfl (by decide)) ?_)
                refine list_cons rfl (op_callM (DrawNearestDigits_c _ ?_) (.tmp 0) 0 [] [.tmp 144] _ rfl rfl (by intro y hy; cases hy) (by decide) (by decide) (by decide) rfl (by intro h; cases h) ?_)
                · first | assumption | omega | (simp; omega)
                rintro _ _ ⟨d, hd, rfl⟩
                refine list_cons rfl (op_q (q_assign rfl (by decide)) ?_)
                refine list_nil ?_
                refine hK24 _ ?_; clear hK24 K24
                refine codeT.imp (σ' := [(0, .ext _), (2, .val (.bool _)), (3, .own 51 3 1 _ _), (4, .val (.bool _)), (5, .val (.int .i64 _)), (6, .val (.bool _)), (7, .val (.int .i64 _)), (8, .val (.bool _)), (9, .own 76 3 1 _ _), (10, .val (.int .i64 _)), (11, .val (.bool _)), (12, .own 82 3 1 _ _), (13, .val (.int .i64 _)), (14, .val (.bool _)), (15, .own 107 3 1 _ _), (16, .val (.int .i64 _)), (17, .val (.bool _)), (18, .own 113 3 1 _ _), (19, .val (.int .i64 _)), (20, .val (.bool _)), (21, .box 21 33 _), (22, .box 22 35 _), (23, .val (.int .i64 _))]) ?_ (imp_covers ⟨rfl, rfl, rfl, rfl, rfl, rfl, rfl, rfl, rfl, rfl, rfl, rfl, rfl, rfl, rfl, rfl, rfl, rfl, rfl, rfl, rfl, rfl, rfl, trivial⟩)
                refine code_seq (fun K25 hK25 => ?_)
                refine code_region ?_
                refine list_cons rfl (op_q (q_move rfl (by decide)) ?_)
                refine list_cons rfl (op_call _ (impl_NearestDigits _) rfl rfl (by decide) (by decide) (by decide) rfl ?_)
                rintro _ rfl; have hnl := near_len d; generalize hNL : (if 0 ≤ d ∧ d ≤ 9 then (nearK d.toNat 8 10).1 else []) = NL at hnl ⊢; generalize hNF : (if 0 ≤ d ∧ d ≤ 9 then (nearK d.toNat 8 10).2 else 0) = NF
                refine list_cons rfl (op_q (q_move rfl (by decide)) ?_)
                refine list_cons rfl (op_q (q_extract rfl rfl (by decide)) ?_)
                refine list_cons rfl (op_q (q_extract rfl rfl (by decide)) ?_)
                refine list_cons rfl (op_q (q_extract rfl rfl (by decide)) ?_)
                refine list_cons rfl (op_q (q_assign rfl (by decide)) ?_)
                refine list_cons rfl (op_q (q_assign rfl (by decide)) ?_)
                refine list_cons rfl (op_q (q_assign rfl (by decide)) ?_)
                refine list_nil ?_
                refine hK25 _ ?_; clear hK25 K25
                refine codeT.imp (σ' := [(0, .ext _), (2, .val (.bool _)), (3, .own 51 3 1 _ _), (4, .val (.bool _)), (5, .val (.int .i64 _)), (6, .val (.bool _)), (7, .val (.int .i64 _)), (8, .val (.bool _)), (9, .own 76 3 1 _ _), (10, .val (.int .i64 _)), (11, .val (.bool _)), (12, .own 82 3 1 _ _), (13, .val (.int .i64 _)), (14, .val (.bool _)), (15, .own 107 3 1 _ _), (16, .val (.int .i64 _)), (17, .val (.bool _)), (18, .own 113 3 1 _ _), (19, .val (.int .i64 _)), (20, .val (.bool _)), (21, .box 21 33 _), (22, .box 22 35 _), (23, .val (.int .i64 _)), (24, .own 148 3 1 _ _), (25, .val (.int .i64 _)), (26, .val (.bool _))]) ?_ (imp_covers ⟨rfl, rfl, rfl, rfl, rfl, rfl, rfl, rfl, rfl, rfl, rfl, rfl, rfl, rfl, rfl, rfl, rfl, rfl, rfl, rfl, rfl, rfl, rfl, rfl, rfl, rfl, trivial⟩)
                refine code_seq (fun K26 hK26 => ?_)
                refine code_seq (fun K27 hK27 => ?_)
                refine code_region ?_
                refine list_cons rfl (op_q (q_move rfl (by decide)) ?_)
                refine list_cons rfl (op_call _ (spec_NearestDigits _) rfl rfl (by decide) (by decide) (by decide) rfl ?_)
                rintro _ rfl; rw [hNL, hNF]
                refine list_cons rfl (op_q (q_move rfl (by decide)) ?_)
                refine list_cons rfl (op_q (q_extract rfl rfl (by decide)) ?_)
                refine list_cons rfl (op_q (q_extract rfl rfl (by decide)) ?_)
                refine list_cons rfl (op_q (q_extract rfl rfl (by decide)) ?_)
                refine list_cons rfl (op_q (q_assign rfl (by decide)) ?_)
                refine list_cons rfl (op_q (q_assign rfl (by decide)) ?_)
                refine list_cons rfl (op_q (q_assign rfl (by decide)) ?_)
                refine list_nil ?_
                refine hK27 _ ?_; clear hK27 K27
                refine codeT.imp (σ' := [(0, .ext _), (2, .val (.bool _)), (3, .own 51 3 1 _ _), (4, .val (.bool _)), (5, .val (.int .i64 _)), (6, .val (.bool _)), (7, .val (.int .i64 _)), (8, .val (.bool _)), (9, .own 76 3 1 _ _), (10, .val (.int .i64 _)), (11, .val (.bool _)), (12, .own 82 3 1 _ _), (13, .val (.int .i64 _)), (14, .val (.bool _)), (15, .own 107 3 1 _ _), (16, .val (.int .i64 _)), (17, .val (.bool _)), (18, .own 113 3 1 _ _), (19, .val (.int .i64 _)), (20, .val (.bool _)), (21, .box 21 33 _), (22, .box 22 35 _), (23, .val (.int .i64 _)), (24, .own 148 3 1 _ _), (25, .val (.int .i64 _)), (26, .val (.bool _)), (27, .own 154 3 1 _ _), (28, .val (.int .i64 _)), (29, .val (.bool _))]) ?_ (imp_covers ⟨rfl, rfl, rfl, rfl, rfl, rfl, rfl, rfl, rfl, rfl, rfl, rfl, rfl, rfl, rfl, rfl, rfl, rfl, rfl, rfl, rfl, rfl, rfl, rfl, rfl, rfl, rfl, rfl, rfl, trivial⟩)
                refine code_seq (fun K28 hK28 => ?_)
                refine code_region ?_
                refine list_cons rfl (op_q (q_move rfl (by decide)) ?_)
                refine list_cons rfl (op_q (q_move rfl (by decide)) ?_)
                refine list_cons rfl (op_q (q_ne rfl rfl (by decide)) ?_)
                refine list_cons rfl (op_q (q_move rfl (by decide)) ?_)
                refine list_guard_d rfl rfl rfl rfl (by decide) rfl (by decide) (fun h14 => ?_) (fun h14 => ?_)
                · simp only [Bool.false_eq_true, if_true, if_false, Decidable.not_not] at h14
                  (try simp only [Decidable.not_not] at h14); (try have hN : 0 ≤ d ∧ d ≤ 9 := h14); (try (have hO : ordK l l.length = true := h14; have hE := ord_endL hO))
                  refine id (op_q (q_move rfl (by decide)) ?_)
                  refine list_guard_y rfl rfl rfl rfl (by decide) rfl ?_
                  refine id (op_q (q_move rfl (by decide)) ?_)
                  refine list_guard_y rfl rfl rfl rfl (by decide) rfl ?_
                  refine id (op_q (q_bne Tryd.underlying4 rfl rfl (by decide)) ?_)
                  refine list_cons rfl (op_q (q_pick rfl rfl (by decide)) ?_)
                  refine list_cons rfl (op_q (q_move rfl (by decide)) ?_)
                  refine list_guard_d rfl rfl rfl rfl (by decide) rfl (by decide) (fun h15 => ?_) (fun h15 => ?_)
                  · simp only [Bool.false_eq_true, if_true, if_false, Decidable.not_not] at h15
                    (try simp only [Decidable.not_not] at h15); (try have hN : 0 ≤ d ∧ d ≤ 9 := h15); (try (have hO : ordK l l.length = true := h15; have hE := ord_endL hO))
                    refine id (op_q (q_move rfl (by decide)) ?_)
                    refine list_guard_y rfl rfl rfl rfl (by decide) rfl ?_
                    refine id (op_q (q_move rfl (by decide)) ?_)
                    refine list_guard_y rfl rfl rfl rfl (by decide) rfl ?_
                    refine id (op_call _ (rInts_c _ _ (by first | omega | (simp; omega))) rfl rfl (by decide) (by decide) (by decide) rfl ?_)
                    rintro _ rfl
                    refine list_guard_y rfl rfl rfl rfl (by decide) rfl ?_
                    refine id (op_q (by first | exact q_notd rfl (by decide) | exact q_not rfl (by decide)) ?_)
                    refine list_cons rfl (op_q (q_pick rfl rfl (by decide)) ?_)
                    refine list_nil ?_
                    refine hK28 _ ?_; clear hK28 K28
                    refine codeT.imp (σ' := ((0, .ext _) :: (2, .val (.bool _)) :: (3, .own 51 3 1 _ _) :: (4, .val (.bool _)) :: (5, .val (.int .i64 _)) :: (6, .val (.bool _)) :: (7, .val (.int .i64 _)) :: (8, .val (.bool _)) :: (9, .own 76 3 1 _ _) :: (10, .val (.int .i64 _)) :: (11, .val (.bool _)) :: (12, .own 82 3 1 _ _) :: (13, .val (.int .i64 _)) :: (14, .val (.bool _)) :: (15, .own 107 3 1 _ _) :: (16, .val (.int .i64 _)) :: (17, .val (.bool _)) :: (18, .own 113 3 1 _ _) :: (19, .val (.int .i64 _)) :: (20, .val (.bool _)) :: (21, .box 21 33 _) :: (22, .box 22 35 _) :: (23, .val (.int .i64 _)) :: (24, .own 148 3 1 _ _) :: (25, .val (.int .i64 _)) :: (26, .val (.bool _)) :: (27, .own 154 3 1 _ _) :: (28, .val (.int .i64 _)) :: (29, .val (.bool _)) :: (171, .val (.bool _)) :: [])) ?_ (imp_covers ⟨rfl, rfl, rfl, rfl, rfl, rfl, rfl, rfl, rfl, rfl, rfl, rfl, rfl, rfl, rfl, rfl, rfl, rfl, rfl, rfl, rfl, rfl, rfl, rfl, rfl, rfl, rfl, rfl, rfl, rfl, trivial⟩)
                    refine code_cond_d rfl (fun h16 => ?_) (fun h16 => ?_)
                    · skip
                      (try simp only [Decidable.not_not] at h16); (try have hN : 0 ≤ d ∧ d ≤ 9 := h16); (try (have hO : ordK l l.length = true := h16; have hE := ord_endL hO))
                      exfalso
                      first | exact absurd rfl h16 | exact h16 ⟨rfl, rfl, trivial⟩ | exact h16 trivial | (simp at h16; done)
                    (try simp only [Decidable.not_not] at h16); (try have hN : 0 ≤ d ∧ d ≤ 9 := h16); (try (have hO : ordK l l.length = true := h16; have hE := ord_endL hO))
                    refine code_skip ?_
                    refine hK26 _ ?_; clear hK26 K26
                    refine code_seq (fun K29 hK29 => ?_)
                    refine code_region ?_
                    refine list_cons rfl (op_q (q_assign rfl (by decide)) ?_)
                    refine list_nil ?_
                    refine hK29 _ ?_; clear hK29 K29
                    refine code_seq (fun K30 hK30 => ?_)
                    refine code_seq (fun K31 hK31 => ?_)
                    refine code_region ?_
                    refine list_cons rfl (op_q (q_assign rfl (by decide)) ?_)
                    refine list_nil ?_
                    refine hK31 _ ?_; clear hK31 K31
                    refine code_block ?_
                    refine code_loop (X := Bool × Int × Bool × Bool × Nat × List PV × Int × Bool × Bool × Nat × List PV × Int × Bool × Nat × List PV × Int × Bool × Int × Int) (fun x => [(0, .ext (.sl code.length (bytesP code))), (2, .val (.bool false)), (3, .own 51 3 1 (l).length ((l).map (.int .i64))), (4, .val (.bool x.1)), (5, .val (.int .i64 (if ordK l l.length = true then costO l (decide (r = 0)) else 0))), (6, .val (.bool (decide (ordK l l.length = true)))), (7, .val (.int .i64 x.2.1)), (8, .val (.bool x.2.2.1)), (9, .own 76 3 1 (loD l false).length ((loD l false).map (.int .i64))), (10, .val (.int .i64 (loV l false))), (11, .val (.bool x.2.2.2.1)), (12, .own 82 3 1 x.2.2.2.2.1 x.2.2.2.2.2.1), (13, .val (.int .i64 x.2.2.2.2.2.2.1)), (14, .val (.bool x.2.2.2.2.2.2.2.1)), (15, .own 107 3 1 (loD l true).length ((loD l true).map (.int .i64))), (16, .val (.int .i64 (loV l true))), (17, .val (.bool x.2.2.2.2.2.2.2.2.1)), (18, .own 113 3 1 x.2.2.2.2.2.2.2.2.2.1 x.2.2.2.2.2.2.2.2.2.2.1), (19, .val (.int .i64 x.2.2.2.2.2.2.2.2.2.2.2.1)), (20, .val (.bool x.2.2.2.2.2.2.2.2.2.2.2.2.1)), (21, .box 21 33 ((tabS 100).map (.int .i64))), (22, .box 22 35 ((shS 70).map (.int .i64))), (23, .val (.int .i64 (d))), (24, .own 148 3 1 (NL).length ((NL).map (.int .i64))), (25, .val (.int .i64 (NF))), (26, .val (.bool (decide (0 ≤ d ∧ d ≤ 9)))), (27, .own 154 3 1 x.2.2.2.2.2.2.2.2.2.2.2.2.2.1 x.2.2.2.2.2.2.2.2.2.2.2.2.2.2.1), (28, .val (.int .i64 x.2.2.2.2.2.2.2.2.2.2.2.2.2.2.2.1)), (29, .val (.bool x.2.2.2.2.2.2.2.2.2.2.2.2.2.2.2.2.1)), (30, .val (.int .i64 x.2.2.2.2.2.2.2.2.2.2.2.2.2.2.2.2.2.1)), (31, .val (.int .i64 x.2.2.2.2.2.2.2.2.2.2.2.2.2.2.2.2.2.2))]) (fun x => 0 ≤ x.2.2.2.2.2.2.2.2.2.2.2.2.2.2.2.2.2.2 ∧ x.2.2.2.2.2.2.2.2.2.2.2.2.2.2.2.2.2.2 ≤ 10 ∧ x.2.2.2.2.2.2.2.2.2.2.2.2.2.2.2.2.2.1 = barK x.2.2.2.2.2.2.2.2.2.2.2.2.2.2.2.2.2.2.toNat) (fun x => (10 - x.2.2.2.2.2.2.2.2.2.2.2.2.2.2.2.2.2.2).toNat) (_, _, _, _, _, _, _, _, _, _, _, _, _, _, _, _, _, _, _) (imp_covers ⟨rfl, rfl, rfl, rfl, rfl, rfl, rfl, rfl, rfl, rfl, rfl, rfl, rfl, rfl, rfl, rfl, rfl, rfl, rfl, rfl, rfl, rfl, rfl, rfl, rfl, rfl, rfl, rfl, rfl, rfl, rfl, trivial⟩) ?_ ?_
                    · (try dsimp only)
                      exact ⟨by omega, by omega, rfl⟩
                    · intro x hI
                      obtain ⟨ring, want, wants, one, x__n, x__c, y, wants_14, two, x__18_n, x__18_c, y_19, wants_20, x__27_n, x__27_c, y_28, wants_29, lit, a⟩ := x
                      replace hI : 0 ≤ a ∧ a ≤ 10 ∧ lit = barK a.toNat := hI
                      show codeT _ _ _ [(0, .ext (.sl code.length (bytesP code))), (2, .val (.bool false)), (3, .own 51 3 1 (l).length ((l).map (.int .i64))), (4, .val (.bool ring)), (5, .val (.int .i64 (if ordK l l.length = true then costO l (decide (r = 0)) else 0))), (6, .val (.bool (decide (ordK l l.length = true)))), (7, .val (.int .i64 want)), (8, .val (.bool wants)), (9, .own 76 3 1 (loD l false).length ((loD l false).map (.int .i64))), (10, .val (.int .i64 (loV l false))), (11, .val (.bool one)), (12, .own 82 3 1 x__n x__c), (13, .val (.int .i64 y)), (14, .val (.bool wants_14)), (15, .own 107 3 1 (loD l true).length ((loD l true).map (.int .i64))), (16, .val (.int .i64 (loV l true))), (17, .val (.bool two)), (18, .own 113 3 1 x__18_n x__18_c), (19, .val (.int .i64 y_19)), (20, .val (.bool wants_20)), (21, .box 21 33 ((tabS 100).map (.int .i64))), (22, .box 22 35 ((shS 70).map (.int .i64))), (23, .val (.int .i64 (d))), (24, .own 148 3 1 (NL).length ((NL).map (.int .i64))), (25, .val (.int .i64 (NF))), (26, .val (.bool (decide (0 ≤ d ∧ d ≤ 9)))), (27, .own 154 3 1 x__27_n x__27_c), (28, .val (.int .i64 y_28)), (29, .val (.bool wants_29)), (30, .val (.int .i64 lit)), (31, .val (.int .i64 a))] _
                      obtain ⟨i1, i2, rfl⟩ := hI
                      have hbk := barK_bd a.toNat
                      refine code_seq (fun K32 hK32 => ?_)
                      refine code_seq (fun K33 hK33 => ?_)
                      refine code_region ?_
                      refine list_cons rfl (op_q (q_move rfl (by decide)) ?_)
                      refine list_cons rfl (op_q (q_lt rfl rfl (by decide)) ?_)
                      refine list_nil ?_
                      refine hK33 _ ?_; clear hK33 K33
                      refine code_cond_d rfl (fun h17 => ?_) (fun h17 => ?_)
                      · skip
                        (try simp only [Decidable.not_not] at h17); (try have hN : 0 ≤ d ∧ d ≤ 9 := h17); (try (have hO : ordK l l.length = true := h17; have hE := ord_endL hO))
                        refine code_skip ?_
                        refine hK32 _ ?_; clear hK32 K32
                        refine code_seq (fun K34 hK34 => ?_)
                        refine code_block ?_
                        refine code_seq (fun K35 hK35 => ?_)
                        refine code_region ?_
                        refine list_cons rfl (op_q (q_move rfl (by decide)) ?_)
                        refine list_cons rfl (op_call _ (impl_CellOf a) rfl rfl (by decide) (by decide) (by decide) rfl ?_)
                        rintro _ rfl; simp only [if_pos (show 0 ≤ a ∧ a ≤ 9 by omega), decide_eq_true (show 0 ≤ a ∧ a ≤ 9 by omega)]; have hda := digT_cell a.toNat
                        refine list_cons rfl (op_q (q_move rfl (by decide)) ?_)
                        refine list_cons rfl (op_q (q_extract rfl rfl (by decide)) ?_)
                        refine list_cons rfl (op_q (q_extract rfl rfl (by decide)) ?_)
                        refine list_cons rfl (op_q (q_assign rfl (by decide)) ?_)
                        refine list_cons rfl (op_q (q_assign rfl (by decide)) ?_)
                        refine list_nil ?_
                        refine hK35 _ ?_; clear hK35 K35
                        refine codeT.imp (σ' := ((0, .ext _) :: (2, .val (.bool _)) :: (3, .own 51 3 1 _ _) :: (4, .val (.bool _)) :: (5, .val (.int .i64 _)) :: (6, .val (.bool _)) :: (7, .val (.int .i64 _)) :: (8, .val (.bool _)) :: (9, .own 76 3 1 _ _) :: (10, .val (.int .i64 _)) :: (11, .val (.bool _)) :: (12, .own 82 3 1 _ _) :: (13, .val (.int .i64 _)) :: (14, .val (.bool _)) :: (15, .own 107 3 1 _ _) :: (16, .val (.int .i64 _)) :: (17, .val (.bool _)) :: (18, .own 113 3 1 _ _) :: (19, .val (.int .i64 _)) :: (20, .val (.bool _)) :: (21, .box 21 33 _) :: (22, .box 22 35 _) :: (23, .val (.int .i64 _)) :: (24, .own 148 3 1 _ _) :: (25, .val (.int .i64 _)) :: (26, .val (.bool _)) :: (27, .own 154 3 1 _ _) :: (28, .val (.int .i64 _)) :: (29, .val (.bool _)) :: (30, .val (.int .i64 _)) :: (31, .val (.int .i64 _)) :: (32, .val (.int .i64 _)) :: (33, .val (.bool _)) :: [])) ?_ (imp_covers ⟨rfl, rfl, rfl, rfl, rfl, rfl, rfl, rfl, rfl, rfl, rfl, rfl, rfl, rfl, rfl, rfl, rfl, rfl, rfl, rfl, rfl, rfl, rfl, rfl, rfl, rfl, rfl, rfl, rfl, rfl, rfl, rfl, rfl, trivial⟩)
                        refine code_seq (fun K36 hK36 => ?_)
                        refine code_region ?_
                        refine list_cons rfl (op_q (q_move rfl (by decide)) ?_)
                        refine list_cons rfl (op_call _ (impl_CountBars (digT.getD a.toNat 0)) rfl rfl (by decide) (by decide) (by decide) rfl ?_)
                        rintro _ rfl; simp only [if_pos hda, decide_eq_true hda]; have hc7 := cnt7_le (digT.getD a.toNat 0).toNat
                        refine list_cons rfl (op_q (q_move rfl (by decide)) ?_)
                        refine list_cons rfl (op_q (q_extract rfl rfl (by decide)) ?_)
                        refine list_cons rfl (op_q (q_extract rfl rfl (by decide)) ?_)
                        refine list_cons rfl (op_q (q_assign rfl (by decide)) ?_)
                        refine list_cons rfl (op_q (q_assign rfl (by decide)) ?_)
                        refine list_nil ?_
                        refine hK36 _ ?_; clear hK36 K36
                        refine codeT.imp (σ' := ((0, .ext _) :: (2, .val (.bool _)) :: (3, .own 51 3 1 _ _) :: (4, .val (.bool _)) :: (5, .val (.int .i64 _)) :: (6, .val (.bool _)) :: (7, .val (.int .i64 _)) :: (8, .val (.bool _)) :: (9, .own 76 3 1 _ _) :: (10, .val (.int .i64 _)) :: (11, .val (.bool _)) :: (12, .own 82 3 1 _ _) :: (13, .val (.int .i64 _)) :: (14, .val (.bool _)) :: (15, .own 107 3 1 _ _) :: (16, .val (.int .i64 _)) :: (17, .val (.bool _)) :: (18, .own 113 3 1 _ _) :: (19, .val (.int .i64 _)) :: (20, .val (.bool _)) :: (21, .box 21 33 _) :: (22, .box 22 35 _) :: (23, .val (.int .i64 _)) :: (24, .own 148 3 1 _ _) :: (25, .val (.int .i64 _)) :: (26, .val (.bool _)) :: (27, .own 154 3 1 _ _) :: (28, .val (.int .i64 _)) :: (29, .val (.bool _)) :: (30, .val (.int .i64 _)) :: (31, .val (.int .i64 _)) :: (32, .val (.int .i64 _)) :: (33, .val (.bool _)) :: (34, .val (.int .i64 _)) :: (35, .val (.bool _)) :: [])) ?_ (imp_covers ⟨rfl, rfl, rfl, rfl, rfl, rfl, rfl, rfl, rfl, rfl, rfl, rfl, rfl, rfl, rfl, rfl, rfl, rfl, rfl, rfl, rfl, rfl, rfl, rfl, rfl, rfl, rfl, rfl, rfl, rfl, rfl, rfl, rfl, rfl, rfl, trivial⟩)
                        refine code_seq (fun K37 hK37 => ?_)
                        refine code_seq (fun K38 hK38 => ?_)
                        refine code_region ?_
                        refine list_cons rfl (op_q (q_move rfl (by decide)) ?_)
                        refine list_cons rfl (op_q (by first | exact q_notd rfl (by decide) | exact q_not rfl (by decide)) ?_)
                        refine list_cons rfl (op_q (q_move rfl (by decide)) ?_)
                        refine list_guard_y rfl rfl rfl rfl (by decide) rfl ?_
                        refine id (op_q (q_move rfl (by decide)) ?_)
                        refine list_guard_y rfl rfl rfl rfl (by decide) rfl ?_
                        refine id (op_q (by first | exact q_notd rfl (by decide) | exact q_not rfl (by decide)) ?_)
                        refine list_cons rfl (op_q (q_pick rfl rfl (by decide)) ?_)
                        refine list_nil ?_
                        refine hK38 _ ?_; clear hK38 K38
                        refine code_cond_f rfl ?_
                        refine code_skip ?_
                        refine hK37 _ ?_; clear hK37 K37
                        refine code_seq (fun K39 hK39 => ?_)
                        refine code_region ?_
                        refine list_cons rfl (op_q (q_move rfl (by decide)) ?_)
                        refine list_cons rfl (op_q (q_move rfl (by decide)) ?_)
                        refine list_cons rfl (op_q (by first | exact q_addI rfl rfl (by decide) (by omega) (by omega) | exact q_ib rfl rfl rfl (by decide)) ?_)
                        refine list_cons rfl (op_q (q_assign rfl (by decide)) ?_)
                        refine list_nil ?_
                        refine hK39 _ ?_; clear hK39 K39
                        refine codeT.imp (σ' := ((0, .ext _) :: (2, .val (.bool _)) :: (3, .own 51 3 1 _ _) :: (4, .val (.bool _)) :: (5, .val (.int .i64 _)) :: (6, .val (.bool _)) :: (7, .val (.int .i64 _)) :: (8, .val (.bool _)) :: (9, .own 76 3 1 _ _) :: (10, .val (.int .i64 _)) :: (11, .val (.bool _)) :: (12, .own 82 3 1 _ _) :: (13, .val (.int .i64 _)) :: (14, .val (.bool _)) :: (15, .own 107 3 1 _ _) :: (16, .val (.int .i64 _)) :: (17, .val (.bool _)) :: (18, .own 113 3 1 _ _) :: (19, .val (.int .i64 _)) :: (20, .val (.bool _)) :: (21, .box 21 33 _) :: (22, .box 22 35 _) :: (23, .val (.int .i64 _)) :: (24, .own 148 3 1 _ _) :: (25, .val (.int .i64 _)) :: (26, .val (.bool _)) :: (27, .own 154 3 1 _ _) :: (28, .val (.int .i64 _)) :: (29, .val (.bool _)) :: (30, .val (.int .i64 _)) :: (31, .val (.int .i64 _)) :: (32, .val (.int .i64 _)) :: (33, .val (.bool _)) :: (34, .val (.int .i64 _)) :: (35, .val (.bool _)) :: [])) ?_ (imp_covers ⟨rfl, rfl, rfl, rfl, rfl, rfl, rfl, rfl, rfl, rfl, rfl, rfl, rfl, rfl, rfl, rfl, rfl, rfl, rfl, rfl, rfl, rfl, rfl, rfl, rfl, rfl, rfl, rfl, rfl, rfl, rfl, rfl, rfl, rfl, rfl, trivial⟩)
                        refine code_seq (fun K40 hK40 => ?_)
                        refine code_region ?_
                        refine list_cons rfl (op_q (q_assign rfl (by decide)) ?_)
                        refine list_nil ?_
                        refine hK40 _ ?_; clear hK40 K40
                        refine code_block ?_
                        refine code_loop (X := Bool × Int × Bool × Bool × Nat × List PV × Int × Bool × Bool × Nat × List PV × Int × Bool × Nat × List PV × Int × Bool × Int × Bool × Int × Bool × Int) (fun x => [(0, .ext (.sl code.length (bytesP code))), (2, .val (.bool false)), (3, .own 51 3 1 (l).length ((l).map (.int .i64))), (4, .val (.bool x.1)), (5, .val (.int .i64 (if ordK l l.length = true then costO l (decide (r = 0)) else 0))), (6, .val (.bool (decide (ordK l l.length = true)))), (7, .val (.int .i64 x.2.1)), (8, .val (.bool x.2.2.1)), (9, .own 76 3 1 (loD l false).length ((loD l false).map (.int .i64))), (10, .val (.int .i64 (loV l false))), (11, .val (.bool x.2.2.2.1)), (12, .own 82 3 1 x.2.2.2.2.1 x.2.2.2.2.2.1), (13, .val (.int .i64 x.2.2.2.2.2.2.1)), (14, .val (.bool x.2.2.2.2.2.2.2.1)), (15, .own 107 3 1 (loD l true).length ((loD l true).map (.int .i64))), (16, .val (.int .i64 (loV l true))), (17, .val (.bool x.2.2.2.2.2.2.2.2.1)), (18, .own 113 3 1 x.2.2.2.2.2.2.2.2.2.1 x.2.2.2.2.2.2.2.2.2.2.1), (19, .val (.int .i64 x.2.2.2.2.2.2.2.2.2.2.2.1)), (20, .val (.bool x.2.2.2.2.2.2.2.2.2.2.2.2.1)), (21, .box 21 33 ((tabS 100).map (.int .i64))), (22, .box 22 35 ((shS 70).map (.int .i64))), (23, .val (.int .i64 (d))), (24, .own 148 3 1 (NL).length ((NL).map (.int .i64))), (25, .val (.int .i64 (NF))), (26, .val (.bool (decide (0 ≤ d ∧ d ≤ 9)))), (27, .own 154 3 1 x.2.2.2.2.2.2.2.2.2.2.2.2.2.1 x.2.2.2.2.2.2.2.2.2.2.2.2.2.2.1), (28, .val (.int .i64 x.2.2.2.2.2.2.2.2.2.2.2.2.2.2.2.1)), (29, .val (.bool x.2.2.2.2.2.2.2.2.2.2.2.2.2.2.2.2.1)), (30, .val (.int .i64 (barK a.toNat + ((cnt7 (digT.getD a.toNat 0).toNat : Nat) : Int)))), (31, .val (.int .i64 (a))), (32, .val (.int .i64 x.2.2.2.2.2.2.2.2.2.2.2.2.2.2.2.2.2.1)), (33, .val (.bool x.2.2.2.2.2.2.2.2.2.2.2.2.2.2.2.2.2.2.1)), (34, .val (.int .i64 x.2.2.2.2.2.2.2.2.2.2.2.2.2.2.2.2.2.2.2.1)), (35, .val (.bool x.2.2.2.2.2.2.2.2.2.2.2.2.2.2.2.2.2.2.2.2.1)), (36, .val (.int .i64 x.2.2.2.2.2.2.2.2.2.2.2.2.2.2.2.2.2.2.2.2.2))]) (fun x => 0 ≤ x.2.2.2.2.2.2.2.2.2.2.2.2.2.2.2.2.2.2.2.2.2 ∧ x.2.2.2.2.2.2.2.2.2.2.2.2.2.2.2.2.2.2.2.2.2 ≤ 10) (fun x => (10 - x.2.2.2.2.2.2.2.2.2.2.2.2.2.2.2.2.2.2.2.2.2).toNat) (_, _, _, _, _, _, _, _, _, _, _, _, _, _, _, _, _, _, _, _, _, _) (imp_covers ⟨rfl, rfl, rfl, rfl, rfl, rfl, rfl, rfl, rfl, rfl, rfl, rfl, rfl, rfl, rfl, rfl, rfl, rfl, rfl, rfl, rfl, rfl, rfl, rfl, rfl, rfl, rfl, rfl, rfl, rfl, rfl, rfl, rfl, rfl, rfl, rfl, trivial⟩) ?_ ?_
                        · (try dsimp only)
                          exact ⟨by omega, by omega⟩
                        · intro x hI
                          obtain ⟨ring, want, wants, one, x__n, x__c, y, wants_14, two, x__18_n, x__18_c, y_19, wants_20, x__27_n, x__27_c, y_28, wants_29, cell, four, bars, five, b⟩ := x
                          replace hI : 0 ≤ b ∧ b ≤ 10 := hI
                          show codeT _ _ _ [(0, .ext (.sl code.length (bytesP code))), (2, .val (.bool false)), (3, .own 51 3 1 (l).length ((l).map (.int .i64))), (4, .val (.bool ring)), (5, .val (.int .i64 (if ordK l l.length = true then costO l (decide (r = 0)) else 0))), (6, .val (.bool (decide (ordK l l.length = true)))), (7, .val (.int .i64 want)), (8, .val (.bool wants)), (9, .own 76 3 1 (loD l false).length ((loD l false).map (.int .i64))), (10, .val (.int .i64 (loV l false))), (11, .val (.bool one)), (12, .own 82 3 1 x__n x__c), (13, .val (.int .i64 y)), (14, .val (.bool wants_14)), (15, .own 107 3 1 (loD l true).length ((loD l true).map (.int .i64))), (16, .val (.int .i64 (loV l true))), (17, .val (.bool two)), (18, .own 113 3 1 x__18_n x__18_c), (19, .val (.int .i64 y_19)), (20, .val (.bool wants_20)), (21, .box 21 33 ((tabS 100).map (.int .i64))), (22, .box 22 35 ((shS 70).map (.int .i64))), (23, .val (.int .i64 (d))), (24, .own 148 3 1 (NL).length ((NL).map (.int .i64))), (25, .val (.int .i64 (NF))), (26, .val (.bool (decide (0 ≤ d ∧ d ≤ 9)))), (27, .own 154 3 1 x__27_n x__27_c), (28, .val (.int .i64 y_28)), (29, .val (.bool wants_29)), (30, .val (.int .i64 (barK a.toNat + ((cnt7 (digT.getD a.toNat 0).toNat : Nat) : Int)))), (31, .val (.int .i64 (a))), (32, .val (.int .i64 cell)), (33, .val (.bool four)), (34, .val (.int .i64 bars)), (35, .val (.bool five)), (36, .val (.int .i64 b))] _
                          obtain ⟨j1, j2⟩ := hI
                          refine code_seq (fun K41 hK41 => ?_)
                          refine code_seq (fun K42 hK42 => ?_)
                          refine code_region ?_
                          refine list_cons rfl (op_q (q_move rfl (by decide)) ?_)
                          refine list_cons rfl (op_q (q_lt rfl rfl (by decide)) ?_)
                          refine list_nil ?_
                          refine hK42 _ ?_; clear hK42 K42
                          refine code_cond_d rfl (fun h18 => ?_) (fun h18 => ?_)
                          · skip
                            (try simp only [Decidable.not_not] at h18); (try have hN : 0 ≤ d ∧ d ≤ 9 := h18); (try (have hO : ordK l l.length = true := h18; have hE := ord_endL hO))
                            refine code_skip ?_
                            refine hK41 _ ?_; clear hK41 K41
                            refine code_seq (fun K43 hK43 => ?_)
                            refine code_block ?_
                            refine code_seq (fun K44 hK44 => ?_)
                            refine code_draw (by kernel_rfl) (by kernel_rfl) ?_
                            refine draw_q rfl (q_move rfl (by decide)) ?_
                            refine draw_q rfl (q_move rfl (by decide)) ?_
                            refine draw_q rfl (q_indexAddr_arr arr_33 rfl rfl rfl (by omega) (by omega) (by decide)) ?_
                            refine draw_q rfl (q_indexAddr_arr arr_32 rfl rfl rfl (by omega) (by omega) (by decide)) ?_
                            refine draw_q rfl (q_load one_3 21 rfl rfl rfl (by first | exact tab_get (by omega) (by omega) | exact get_map1 (PV.int .i64) 0 (shS 70) (by rw [shS_len]; omega) | rfl | (simp [tabS, filN_len, shS_len]; done)) (by decide)) ?_
                            refine draw_q rfl (q_move rfl (by decide)) ?_
                            refine draw_q rfl (q_move rfl (by decide)) ?_
                            refine draw_q rfl (q_indexAddr_arr arr_33 rfl rfl rfl (by omega) (by omega) (by decide)) ?_
                            refine draw_q rfl (q_indexAddr_arr arr_32 rfl rfl rfl (by omega) (by omega) (by decide)) ?_
                            refine draw_q rfl (q_load one_3 21 rfl rfl rfl (by first | exact tab_get (by omega) (by omega) | exact get_map1 (PV.int .i64) 0 (shS 70) (by rw [shS_len]; omega) | rfl | (simp [tabS, filN_len, shS_len]; done)) (by decide)) ?_
                            refine draw_q rfl (q_ne rfl rfl (by decide)) ?_
                            refine draw_q rfl (q_move rfl (by decide)) ?_
                            refine draw_guard_d rfl rfl rfl rfl (by decide) rfl (by decide) (fun h19 => q_move rfl (by decide)) (fun h19 => ?_) (fun h19 => ?_)
                            · simp only [Bool.false_eq_true, if_true, if_false, Decidable.not_not] at h19
                              (try simp only [Decidable.not_not] at h19); (try have hN : 0 ≤ d ∧ d ≤ 9 := h19); (try (have hO : ordK l l.length = true := h19; have hE := ord_endL hO))
                              refine draw_guard_y rfl rfl rfl rfl (by decide) rfl (q_move rfl (by decide)) ?_
                              refine draw_guard_y rfl rfl rfl rfl (by decide) rfl (q_indexAddr_arr arr_33 rfl rfl rfl (by omega) (by omega) (by decide)) ?_
                              refine draw_guard_y rfl rfl rfl rfl (by decide) rfl (q_indexAddr_arr arr_32 rfl rfl rfl (by omega) (by omega) (by decide)) ?_
                              refine draw_guard_y rfl rfl rfl rfl (by decide) rfl (q_load one_3 21 rfl rfl rfl (by first | exact tab_get (by omega) (by omega) | exact get_map1 (PV.int .i64) 0 (shS 70) (by rw [shS_len]; omega) | rfl | (simp [tabS, filN_len, shS_len]; done)) (by decide)) ?_
                              refine draw_guard_y rfl rfl rfl rfl (by decide) rfl (q_eq rfl rfl (by decide)) ?_
                              refine draw_guard_y rfl rfl rfl rfl (by decide) rfl (q_move rfl (by decide)) ?_
                              refine draw_guard_y rfl rfl rfl rfl (by decide) rfl (q_move rfl (by decide)) ?_
                              refine draw_guard_y rfl rfl rfl rfl (by decide) rfl (q_eq rfl rfl (by decide)) ?_
                              refine draw_guard_y rfl rfl rfl rfl (by decide) rfl (q_bne Tryd.underlying4 rfl rfl (by decide)) ?_
                              refine draw_q rfl (q_pick rfl rfl (by decide)) ?_
                              refine draw_nil ?_
                              refine hK44 _ ?_; clear hK44 K44
                              refine codeT.imp (σ' := ((0, .ext _) :: (2, .val (.bool _)) :: (3, .own 51 3 1 _ _) :: (4, .val (.bool _)) :: (5, .val (.int .i64 _)) :: (6, .val (.bool _)) :: (7, .val (.int .i64 _)) :: (8, .val (.bool _)) :: (9, .own 76 3 1 _ _) :: (10, .val (.int .i64 _)) :: (11, .val (.bool _)) :: (12, .own 82 3 1 _ _) :: (13, .val (.int .i64 _)) :: (14, .val (.bool _)) :: (15, .own 107 3 1 _ _) :: (16, .val (.int .i64 _)) :: (17, .val (.bool _)) :: (18, .own 113 3 1 _ _) :: (19, .val (.int .i64 _)) :: (20, .val (.bool _)) :: (21, .box 21 33 _) :: (22, .box 22 35 _) :: (23, .val (.int .i64 _)) :: (24, .own 148 3 1 _ _) :: (25, .val (.int .i64 _)) :: (26, .val (.bool _)) :: (27, .own 154 3 1 _ _) :: (28, .val (.int .i64 _)) :: (29, .val (.bool _)) :: (30, .val (.int .i64 _)) :: (31, .val (.int .i64 _)) :: (32, .val (.int .i64 _)) :: (33, .val (.bool _)) :: (34, .val (.int .i64 _)) :: (35, .val (.bool _)) :: (36, .val (.int .i64 _)) :: (221, .val (.bool _)) :: [])) ?_ (imp_covers ⟨rfl, rfl, rfl, rfl, rfl, rfl, rfl, rfl, rfl, rfl, rfl, rfl, rfl, rfl, rfl, rfl, rfl, rfl, rfl, rfl, rfl, rfl, rfl, rfl, rfl, rfl, rfl, rfl, rfl, rfl, rfl, rfl, rfl, rfl, rfl, rfl, rfl, trivial⟩)
                              refine code_cond_d rfl (fun h20 => ?_) (fun h20 => ?_)
                              · skip
                                (try simp only [Decidable.not_not] at h20); (try have hN : 0 ≤ d ∧ d ≤ 9 := h20); (try (have hO : ordK l l.length = true := h20; have hE := ord_endL hO))
                                exfalso
                                first | exact h20 (decide_eq_decide.mpr (dgt_0I ⟨by omega, by omega⟩ ⟨by omega, by omega⟩))
                              (try simp only [Decidable.not_not] at h20); (try have hN : 0 ≤ d ∧ d ≤ 9 := h20); (try (have hO : ordK l l.length = true := h20; have hE := ord_endL hO))
                              refine code_skip ?_
                              refine blk_n ?_
                              refine hK43 _ ?_; clear hK43 K43
                              refine code_region ?_
                              refine list_cons rfl (op_q (q_move rfl (by decide)) ?_)
                              refine list_cons rfl (op_q (by first | exact q_addI rfl rfl (by decide) (by omega) (by omega) | exact q_ib rfl rfl rfl (by decide)) ?_)
                              refine list_cons rfl (op_q (q_assign rfl (by decide)) ?_)
                              refine list_nil ?_
                              refine then_n ⟨(_, _, _, _, _, _, _, _, _, _, _, _, _, _, _, _, _, _, _, _, _, _), imp_covers ⟨rfl, rfl, rfl, rfl, rfl, rfl, rfl, rfl, rfl, rfl, rfl, rfl, rfl, rfl, rfl, rfl, rfl, rfl, rfl, rfl, rfl, rfl, rfl, rfl, rfl, rfl, rfl, rfl, rfl, rfl, rfl, rfl, rfl, rfl, rfl, rfl, trivial⟩, ?_, ?_⟩
                              · (try dsimp only)
                                exact ⟨by omega, by omega⟩
                              · (try dsimp only); omega
                            simp only [Bool.false_eq_true, if_true, if_false, Decidable.not_not] at h19
                            (try simp only [Decidable.not_not] at h19); (try have hN : 0 ≤ d ∧ d ≤ 9 := h19); (try (have hO : ordK l l.length = true := h19; have hE := ord_endL hO))
                            exfalso
                            first | exact h19 (dgt_comm _ _)
                          (try simp only [Decidable.not_not] at h18); (try have hN : 0 ≤ d ∧ d ≤ 9 := h18); (try (have hO : ordK l l.length = true := h18; have hE := ord_endL hO))
                          refine code_exit ?_
                          refine then_x ?_; clear hK41 K41
                          refine then_x ?_
                          refine blk_hit ?_
                          refine blk_n ?_
                          refine hK34 _ ?_; clear hK34 K34
                          refine code_region ?_
                          refine list_cons rfl (op_q (q_move rfl (by decide)) ?_)
                          refine list_cons rfl (op_q (by first | exact q_addI rfl rfl (by decide) (by omega) (by omega) | exact q_ib rfl rfl rfl (by decide)) ?_)
                          refine list_cons rfl (op_q (q_assign rfl (by decide)) ?_)
                          refine list_nil ?_
                          refine then_n ⟨(_, _, _, _, _, _, _, _, _, _, _, _, _, _, _, _, _, _, _), imp_covers ⟨rfl, rfl, rfl, rfl, rfl, rfl, rfl, rfl, rfl, rfl, rfl, rfl, rfl, rfl, rfl, rfl, rfl, rfl, rfl, rfl, rfl, rfl, rfl, rfl, rfl, rfl, rfl, rfl, rfl, rfl, rfl, trivial⟩, ?_, ?_⟩
                          · (try dsimp only)
                            exact ⟨by omega, by omega, by rw [show (a + 1).toNat = a.toNat + 1 by omega]; rfl⟩
                          · (try dsimp only); omega
                      (try simp only [Decidable.not_not] at h17); (try have hN : 0 ≤ d ∧ d ≤ 9 := h17); (try (have hO : ordK l l.length = true := h17; have hE := ord_endL hO))
                      refine code_exit ?_
                      refine then_x ?_; clear hK32 K32
                      refine then_x ?_
                      refine blk_hit ?_
                      refine hK30 _ ?_; clear hK30 K30
                      refine code_seq (fun K45 hK45 => ?_)
                      refine code_seq (fun K46 hK46 => ?_)
                      refine code_region ?_
                      refine list_cons rfl (op_q (q_assign rfl (by decide)) ?_)
                      refine list_nil ?_
                      refine hK46 _ ?_; clear hK46 K46
                      refine code_block ?_
                      refine code_loop (X := Bool × Int × Bool × Bool × Nat × List PV × Int × Bool × Bool × Nat × List PV × Int × Bool × Nat × List PV × Int × Bool × Int × Int × Int) (fun x => [(0, .ext (.sl code.length (bytesP code))), (2, .val (.bool false)), (3, .own 51 3 1 (l).length ((l).map (.int .i64))), (4, .val (.bool x.1)), (5, .val (.int .i64 (if ordK l l.length = true then costO l (decide (r = 0)) else 0))), (6, .val (.bool (decide (ordK l l.length = true)))), (7, .val (.int .i64 x.2.1)), (8, .val (.bool x.2.2.1)), (9, .own 76 3 1 (loD l false).length ((loD l false).map (.int .i64))), (10, .val (.int .i64 (loV l false))), (11, .val (.bool x.2.2.2.1)), (12, .own 82 3 1 x.2.2.2.2.1 x.2.2.2.2.2.1), (13, .val (.int .i64 x.2.2.2.2.2.2.1)), (14, .val (.bool x.2.2.2.2.2.2.2.1)), (15, .own 107 3 1 (loD l true).length ((loD l true).map (.int .i64))), (16, .val (.int .i64 (loV l true))), (17, .val (.bool x.2.2.2.2.2.2.2.2.1)), (18, .own 113 3 1 x.2.2.2.2.2.2.2.2.2.1 x.2.2.2.2.2.2.2.2.2.2.1), (19, .val (.int .i64 x.2.2.2.2.2.2.2.2.2.2.2.1)), (20, .val (.bool x.2.2.2.2.2.2.2.2.2.2.2.2.1)), (21, .box 21 33 ((tabS 100).map (.int .i64))), (22, .box 22 35 ((shS 70).map (.int .i64))), (23, .val (.int .i64 (d))), (24, .own 148 3 1 (NL).length ((NL).map (.int .i64))), (25, .val (.int .i64 (NF))), (26, .val (.bool (decide (0 ≤ d ∧ d ≤ 9)))), (27, .own 154 3 1 x.2.2.2.2.2.2.2.2.2.2.2.2.2.1 x.2.2.2.2.2.2.2.2.2.2.2.2.2.2.1), (28, .val (.int .i64 x.2.2.2.2.2.2.2.2.2.2.2.2.2.2.2.1)), (29, .val (.bool x.2.2.2.2.2.2.2.2.2.2.2.2.2.2.2.2.1)), (30, .val (.int .i64 x.2.2.2.2.2.2.2.2.2.2.2.2.2.2.2.2.2.1)), (31, .val (.int .i64 x.2.2.2.2.2.2.2.2.2.2.2.2.2.2.2.2.2.2.1)), (37, .val (.int .i64 x.2.2.2.2.2.2.2.2.2.2.2.2.2.2.2.2.2.2.2))]) (fun x => 0 ≤ x.2.2.2.2.2.2.2.2.2.2.2.2.2.2.2.2.2.2.2 ∧ x.2.2.2.2.2.2.2.2.2.2.2.2.2.2.2.2.2.2.2 ≤ 7 ∧ x.2.2.2.2.2.2.2.2.2.2.2.2.2.2.2.2.2.1 = lefK x.2.2.2.2.2.2.2.2.2.2.2.2.2.2.2.2.2.2.2.toNat) (fun x => (7 - x.2.2.2.2.2.2.2.2.2.2.2.2.2.2.2.2.2.2.2).toNat) (_, _, _, _, _, _, _, _, _, _, _, _, _, _, _, _, _, _, _, _) (imp_covers ⟨rfl, rfl, rfl, rfl, rfl, rfl, rfl, rfl, rfl, rfl, rfl, rfl, rfl, rfl, rfl, rfl, rfl, rfl, rfl, rfl, rfl, rfl, rfl, rfl, rfl, rfl, rfl, rfl, rfl, rfl, rfl, rfl, trivial⟩) ?_ ?_
                      · (try dsimp only)
                        exact ⟨by omega, by omega, by rw [show a.toNat = 10 by omega]; rfl⟩
                      · intro x hI
                        obtain ⟨ring, want, wants, one, x__n, x__c, y, wants_14, two, x__18_n, x__18_c, y_19, wants_20, x__27_n, x__27_c, y_28, wants_29, lit, a, bar⟩ := x
                        replace hI : 0 ≤ bar ∧ bar ≤ 7 ∧ lit = lefK bar.toNat := hI
                        show codeT _ _ _ [(0, .ext (.sl code.length (bytesP code))), (2, .val (.bool false)), (3, .own 51 3 1 (l).length ((l).map (.int .i64))), (4, .val (.bool ring)), (5, .val (.int .i64 (if ordK l l.length = true then costO l (decide (r = 0)) else 0))), (6, .val (.bool (decide (ordK l l.length = true)))), (7, .val (.int .i64 want)), (8, .val (.bool wants)), (9, .own 76 3 1 (loD l false).length ((loD l false).map (.int .i64))), (10, .val (.int .i64 (loV l false))), (11, .val (.bool one)), (12, .own 82 3 1 x__n x__c), (13, .val (.int .i64 y)), (14, .val (.bool wants_14)), (15, .own 107 3 1 (loD l true).length ((loD l true).map (.int .i64))), (16, .val (.int .i64 (loV l true))), (17, .val (.bool two)), (18, .own 113 3 1 x__18_n x__18_c), (19, .val (.int .i64 y_19)), (20, .val (.bool wants_20)), (21, .box 21 33 ((tabS 100).map (.int .i64))), (22, .box 22 35 ((shS 70).map (.int .i64))), (23, .val (.int .i64 (d))), (24, .own 148 3 1 (NL).length ((NL).map (.int .i64))), (25, .val (.int .i64 (NF))), (26, .val (.bool (decide (0 ≤ d ∧ d ≤ 9)))), (27, .own 154 3 1 x__27_n x__27_c), (28, .val (.int .i64 y_28)), (29, .val (.bool wants_29)), (30, .val (.int .i64 lit)), (31, .val (.int .i64 a)), (37, .val (.int .i64 bar))] _
                        obtain ⟨i1, i2, rfl⟩ := hI
                        have hlk := lefK_bd (k := bar.toNat) (by omega)
                        have hsb := fun h : bar < 7 => shS_bd (k := bar.toNat) (by omega)
                        refine code_seq (fun K47 hK47 => ?_)
                        refine code_seq (fun K48 hK48 => ?_)
                        refine code_region ?_
                        refine list_cons rfl (op_q (q_move rfl (by decide)) ?_)
                        refine list_cons rfl (op_q (q_lt rfl rfl (by decide)) ?_)
                        refine list_nil ?_
                        refine hK48 _ ?_; clear hK48 K48
                        refine code_cond_d rfl (fun h21 => ?_) (fun h21 => ?_)
                        · skip
                          (try simp only [Decidable.not_not] at h21); (try have hN : 0 ≤ d ∧ d ≤ 9 := h21); (try (have hO : ordK l l.length = true := h21; have hE := ord_endL hO))
                          refine code_skip ?_
                          refine hK47 _ ?_; clear hK47 K47
                          refine code_seq (fun K49 hK49 => ?_)
                          refine code_block ?_
                          refine code_region ?_
                          refine list_cons rfl (op_q (q_move rfl (by decide)) ?_)
                          refine list_cons rfl (op_q (q_move rfl (by decide)) ?_)
                          refine list_cons rfl (op_q (q_indexAddr_arr arr_35 rfl rfl rfl (by omega) (by omega) (by decide)) ?_)
                          refine list_cons rfl (op_q (q_load one_3 22 rfl rfl rfl (by first | exact tab_get (by omega) (by omega) | exact get_map1 (PV.int .i64) 0 (shS 70) (by rw [shS_len]; omega) | rfl | (simp [tabS, filN_len, shS_len]; done)) (by decide)) ?_)
                          refine list_cons rfl (op_q (by first | exact q_subI rfl rfl (by decide) (by omega) (by omega) | exact q_ib rfl rfl rfl (by decide)) ?_)
                          refine list_cons rfl (op_q (q_assign rfl (by decide)) ?_)
                          refine list_nil ?_
                          refine blk_n ?_
                          refine hK49 _ ?_; clear hK49 K49
                          refine codeT.imp (σ' := ((0, .ext _) :: (2, .val (.bool _)) :: (3, .own 51 3 1 _ _) :: (4, .val (.bool _)) :: (5, .val (.int .i64 _)) :: (6, .val (.bool _)) :: (7, .val (.int .i64 _)) :: (8, .val (.bool _)) :: (9, .own 76 3 1 _ _) :: (10, .val (.int .i64 _)) :: (11, .val (.bool _)) :: (12, .own 82 3 1 _ _) :: (13, .val (.int .i64 _)) :: (14, .val (.bool _)) :: (15, .own 107 3 1 _ _) :: (16, .val (.int .i64 _)) :: (17, .val (.bool _)) :: (18, .own 113 3 1 _ _) :: (19, .val (.int .i64 _)) :: (20, .val (.bool _)) :: (21, .box 21 33 _) :: (22, .box 22 35 _) :: (23, .val (.int .i64 _)) :: (24, .own 148 3 1 _ _) :: (25, .val (.int .i64 _)) :: (26, .val (.bool _)) :: (27, .own 154 3 1 _ _) :: (28, .val (.int .i64 _)) :: (29, .val (.bool _)) :: (30, .val (.int .i64 _)) :: (31, .val (.int .i64 _)) :: (37, .val (.int .i64 _)) :: [])) ?_ (imp_covers ⟨rfl, rfl, rfl, rfl, rfl, rfl, rfl, rfl, rfl, rfl, rfl, rfl, rfl, rfl, rfl, rfl, rfl, rfl, rfl, rfl, rfl, rfl, rfl, rfl, rfl, rfl, rfl, rfl, rfl, rfl, rfl, rfl, trivial⟩)
                          refine code_region ?_
                          refine list_cons rfl (op_q (q_move rfl (by decide)) ?_)
                          refine list_cons rfl (op_q (by first | exact q_addI rfl rfl (by decide) (by omega) (by omega) | exact q_ib rfl rfl rfl (by decide)) ?_)
                          refine list_cons rfl (op_q (q_assign rfl (by decide)) ?_)
                          refine list_nil ?_
                          refine then_n ⟨(_, _, _, _, _, _, _, _, _, _, _, _, _, _, _, _, _, _, _, _), imp_covers ⟨rfl, rfl, rfl, rfl, rfl, rfl, rfl, rfl, rfl, rfl, rfl, rfl, rfl, rfl, rfl, rfl, rfl, rfl, rfl, rfl, rfl, rfl, rfl, rfl, rfl, rfl, rfl, rfl, rfl, rfl, rfl, rfl, trivial⟩, ?_, ?_⟩
                          · (try dsimp only)
                            exact ⟨by omega, by omega, by rw [show (bar + 1).toNat = bar.toNat + 1 by omega]; rfl⟩
                          · (try dsimp only); omega
                        (try simp only [Decidable.not_not] at h21); (try have hN : 0 ≤ d ∧ d ≤ 9 := h21); (try (have hO : ordK l l.length = true := h21; have hE := ord_endL hO))
                        refine code_exit ?_
                        refine then_x ?_; clear hK47 K47
                        refine then_x ?_
                        refine blk_hit ?_
                        refine hK45 _ ?_; clear hK45 K45
                        refine code_seq (fun K50 hK50 => ?_)
                        refine code_seq (fun K51 hK51 => ?_)
                        refine code_region ?_
                        refine list_cons rfl (op_q (q_move rfl (by decide)) ?_)
                        refine list_cons rfl (op_q (q_ne rfl rfl (by decide)) ?_)
                        refine list_nil ?_
                        refine hK51 _ ?_; clear hK51 K51
                        refine code_cond_d rfl (fun h22 => ?_) (fun h22 => ?_)
                        · skip
                          (try simp only [Decidable.not_not] at h22); (try have hN : 0 ≤ d ∧ d ≤ 9 := h22); (try (have hO : ordK l l.length = true := h22; have hE := ord_endL hO))
                          exfalso
                          first | exact h22 (by rw [show bar.toNat = 7 by omega]; exact lefK_7)
                        (try simp only [Decidable.not_not] at h22); (try have hN : 0 ≤ d ∧ d ≤ 9 := h22); (try (have hO : ordK l l.length = true := h22; have hE := ord_endL hO))
                        refine code_skip ?_
                        refine hK50 _ ?_; clear hK50 K50
                        refine codeT.imp (σ' := [(2, .val (.bool _)), (3, .own 51 3 1 _ _), (6, .val (.bool _)), (9, .own 76 3 1 _ _), (10, .val (.int .i64 _)), (15, .own 107 3 1 _ _), (16, .val (.int .i64 _)), (21, .box 21 33 _), (23, .val (.int .i64 _)), (24, .own 148 3 1 _ _), (25, .val (.int .i64 _)), (26, .val (.bool _))]) ?_ (imp_covers ⟨rfl, rfl, rfl, rfl, rfl, rfl, rfl, rfl, rfl, rfl, rfl, rfl, trivial⟩)
                        refine code_seq_same ?_ ?_
                        · skip
                          refine code_seq (fun K52 hK52 => ?_)
                          refine code_region ?_
                          refine list_cons rfl (op_q (q_move rfl (by decide)) ?_)
                          refine list_nil ?_
                          refine hK52 _ ?_; clear hK52 K52
                          refine code_cond_d rfl (fun h23 => ?_) (fun h23 => ?_)
                          · skip
                            (try simp only [Decidable.not_not] at h23); (try have hN : 0 ≤ d ∧ d ≤ 9 := h23); (try (have hO : ordK l l.length = true := h23; have hE := ord_endL hO))
                            refine code_seq (fun K53 hK53 => ?_)
                            refine code_region ?_
                            refine list_cons rfl (op_q (q_assign rfl (by decide)) ?_)
                            refine list_nil ?_
                            refine hK53 _ ?_; clear hK53 K53
                            refine code_block ?_
                            refine code_loop (X := Int) (fun x => [(2, .val (.bool false)), (3, .own 51 3 1 (l).length ((l).map (.int .i64))), (6, .val (.bool (decide (ordK l l.length = true)))), (9, .own 76 3 1 (loD l false).length ((loD l false).map (.int .i64))), (10, .val (.int .i64 (loV l false))), (15, .own 107 3 1 (loD l true).length ((loD l true).map (.int .i64))), (16, .val (.int .i64 (loV l true))), (21, .box 21 33 ((tabS 100).map (.int .i64))), (23, .val (.int .i64 (d))), (24, .own 148 3 1 (NL).length ((NL).map (.int .i64))), (25, .val (.int .i64 (NF))), (26, .val (.bool (decide (0 ≤ d ∧ d ≤ 9)))), (38, .val (.int .i64 x))]) (fun x => 0 ≤ x ∧ x ≤ 10) (fun x => (10 - x).toNat) (_) (imp_covers ⟨rfl, rfl, rfl, rfl, rfl, rfl, rfl, rfl, rfl, rfl, rfl, rfl, rfl, trivial⟩) ?_ ?_
                            · (try dsimp only)
                              exact ⟨by omega, by omega⟩
                            · intro x hI
                              revert hI; revert x; intro b hI
                              replace hI : 0 ≤ b ∧ b ≤ 10 := hI
                              show codeT _ _ _ [(2, .val (.bool false)), (3, .own 51 3 1 (l).length ((l).map (.int .i64))), (6, .val (.bool (decide (ordK l l.length = true)))), (9, .own 76 3 1 (loD l false).length ((loD l false).map (.int .i64))), (10, .val (.int .i64 (loV l false))), (15, .own 107 3 1 (loD l true).length ((loD l true).map (.int .i64))), (16, .val (.int .i64 (loV l true))), (21, .box 21 33 ((tabS 100).map (.int .i64))), (23, .val (.int .i64 (d))), (24, .own 148 3 1 (NL).length ((NL).map (.int .i64))), (25, .val (.int .i64 (NF))), (26, .val (.bool (decide (0 ≤ d ∧ d ≤ 9)))), (38, .val (.int .i64 b))] _
                              obtain ⟨j1, j2⟩ := hI
                              have hNF2 := hNF
                              rw [if_pos hN] at hNF2
                              subst hNF2
                              have hNL2 := hNL
                              rw [if_pos hN] at hNL2
                              subst hNL2
                              refine code_seq (fun K54 hK54 => ?_)
                              refine code_seq (fun K55 hK55 => ?_)
                              refine code_region ?_
                              refine list_cons rfl (op_q (q_move rfl (by decide)) ?_)
                              refine list_cons rfl (op_q (q_lt rfl rfl (by decide)) ?_)
                              refine list_nil ?_
                              refine hK55 _ ?_; clear hK55 K55
                              refine code_cond_d rfl (fun h24 => ?_) (fun h24 => ?_)
                              · skip
                                (try simp only [Decidable.not_not] at h24); (try have hN : 0 ≤ d ∧ d ≤ 9 := h24); (try (have hO : ordK l l.length = true := h24; have hE := ord_endL hO))
                                refine code_skip ?_
                                refine hK54 _ ?_; clear hK54 K54
                                refine code_seq (fun K56 hK56 => ?_)
                                refine code_block ?_
                                refine code_seq (fun K57 hK57 => ?_)
                                refine code_draw (by kernel_rfl) (by kernel_rfl) ?_
                                refine draw_q rfl (q_move rfl (by decide)) ?_
                                refine draw_q rfl (q_move rfl (by decide)) ?_
                                refine draw_q rfl (q_ne rfl rfl (by decide)) ?_
                                refine draw_q rfl (q_move rfl (by decide)) ?_
                                refine draw_guard_d rfl rfl rfl rfl (by decide) rfl (by decide) (fun h25 => q_move rfl (by decide)) (fun h25 => ?_) (fun h25 => ?_)
                                · simp only [Bool.false_eq_true, if_true, if_false, Decidable.not_not] at h25
                                  (try simp only [Decidable.not_not] at h25); (try have hN : 0 ≤ d ∧ d ≤ 9 := h25); (try (have hO : ordK l l.length = true := h25; have hE := ord_endL hO))
                                  refine draw_guard_y rfl rfl rfl rfl (by decide) rfl (q_move rfl (by decide)) ?_
                                  refine draw_guard_y rfl rfl rfl rfl (by decide) rfl (q_indexAddr_arr arr_33 rfl rfl rfl (by omega) (by omega) (by decide)) ?_
                                  refine draw_guard_y rfl rfl rfl rfl (by decide) rfl (q_indexAddr_arr arr_32 rfl rfl rfl (by omega) (by omega) (by decide)) ?_
                                  refine draw_guard_y rfl rfl rfl rfl (by decide) rfl (q_load one_3 21 rfl rfl rfl (by first | exact tab_get (by omega) (by omega) | exact get_map1 (PV.int .i64) 0 (shS 70) (by rw [shS_len]; omega) | rfl | (simp [tabS, filN_len, shS_len]; done)) (by decide)) ?_
                                  refine draw_guard_y rfl rfl rfl rfl (by decide) rfl (q_move rfl (by decide)) ?_
                                  refine draw_guard_y rfl rfl rfl rfl (by decide) rfl (q_lt rfl rfl (by decide)) ?_
                                  refine draw_guard_y rfl rfl rfl rfl (by decide) rfl (q_move rfl (by decide)) ?_
                                  refine draw_guard_d rfl rfl rfl rfl (by decide) rfl (by decide) (fun h26 => q_move rfl (by decide)) (fun h26 => ?_) (fun h26 => ?_)
                                  · simp only [Bool.false_eq_true, if_true, if_false, Decidable.not_not] at h26
                                    (try simp only [Decidable.not_not] at h26); (try have hN : 0 ≤ d ∧ d ≤ 9 := h26); (try (have hO : ordK l l.length = true := h26; have hE := ord_endL hO))
                                    refine draw_guard_y rfl rfl rfl rfl (by decide) rfl (q_move rfl (by decide)) ?_
                                    refine draw_guard_y rfl rfl rfl rfl (by decide) rfl (q_indexAddr_arr arr_33 rfl rfl rfl (by omega) (by omega) (by decide)) ?_
                                    refine draw_guard_y rfl rfl rfl rfl (by decide) rfl (q_indexAddr_arr arr_32 rfl rfl rfl (by omega) (by omega) (by decide)) ?_
                                    refine draw_guard_y rfl rfl rfl rfl (by decide) rfl (q_load one_3 21 rfl rfl rfl (by first | exact tab_get (by omega) (by omega) | exact get_map1 (PV.int .i64) 0 (shS 70) (by rw [shS_len]; omega) | rfl | (simp [tabS, filN_len, shS_len]; done)) (by decide)) ?_
                                    refine draw_guard_y rfl rfl rfl rfl (by decide) rfl (q_move rfl (by decide)) ?_
                                    refine draw_guard_y rfl rfl rfl rfl (by decide) rfl (q_eq rfl rfl (by decide)) ?_
                                    refine draw_guard_y rfl rfl rfl rfl (by decide) rfl (q_move rfl (by decide)) ?_
                                    refine draw_guard_y rfl rfl rfl rfl (by decide) rfl (q_move rfl (by decide)) ?_
                                    refine draw_callW _ (rHas_c _ _ (by first | omega | (simp; omega))) rfl rfl rfl (by decide) (wanted_of rfl rfl rfl (by decide)) ?_
                                    refine draw_guard_y rfl rfl rfl rfl (by decide) rfl (q_bne Tryd.underlying4 rfl rfl (by decide)) ?_
                                    refine draw_guard_y rfl rfl rfl rfl (by decide) rfl (q_pick rfl rfl (by decide)) ?_
                                    refine draw_q rfl (q_pick rfl rfl (by decide)) ?_
                                    refine draw_nil ?_
                                    refine hK57 _ ?_; clear hK57 K57
                                    refine codeT.imp (σ' := [(2, .val (.bool _)), (3, .own 51 3 1 _ _), (6, .val (.bool _)), (9, .own 76 3 1 _ _), (10, .val (.int .i64 _)), (15, .own 107 3 1 _ _), (16, .val (.int .i64 _)), (21, .box 21 33 _), (23, .val (.int .i64 _)), (24, .own 148 3 1 _ _), (25, .val (.int .i64 _)), (26, .val (.bool _)), (38, .val (.int .i64 _)), (262, .val (.bool _))]) ?_ (imp_covers ⟨rfl, rfl, rfl, rfl, rfl, rfl, rfl, rfl, rfl, rfl, rfl, rfl, rfl, rfl, trivial⟩)
                                    refine code_cond_d rfl (fun h27 => ?_) (fun h27 => ?_)
                                    · skip
                                      (try simp only [Decidable.not_not] at h27); (try have hN : 0 ≤ d ∧ d ≤ 9 := h27); (try (have hO : ordK l l.length = true := h27; have hE := ord_endL hO))
                                      exfalso
                                      first | exact h27 (decide_eq_decide.mpr (near_okI hN ⟨by omega, by omega⟩ (by assumption)).2)
                                    (try simp only [Decidable.not_not] at h27); (try have hN : 0 ≤ d ∧ d ≤ 9 := h27); (try (have hO : ordK l l.length = true := h27; have hE := ord_endL hO))
                                    refine code_skip ?_
                                    refine blk_n ?_
                                    refine hK56 _ ?_; clear hK56 K56
                                    refine code_region ?_
                                    refine list_cons rfl (op_q (q_move rfl (by decide)) ?_)
                                    refine list_cons rfl (op_q (by first | exact q_addI rfl rfl (by decide) (by omega) (by omega) | exact q_ib rfl rfl rfl (by decide)) ?_)
                                    refine list_cons rfl (op_q (q_assign rfl (by decide)) ?_)
                                    refine list_nil ?_
                                    refine then_n ⟨(_), imp_covers ⟨rfl, rfl, rfl, rfl, rfl, rfl, rfl, rfl, rfl, rfl, rfl, rfl, rfl, trivial⟩, ?_, ?_⟩
                                    · (try dsimp only)
                                      exact ⟨by omega, by omega⟩
                                    · (try dsimp only); omega
                                  simp only [Bool.false_eq_true, if_true, if_false, Decidable.not_not] at h26
                                  (try simp only [Decidable.not_not] at h26); (try have hN : 0 ≤ d ∧ d ≤ 9 := h26); (try (have hO : ordK l l.length = true := h26; have hE := ord_endL hO))
                                  exfalso
                                  first | (have hno := near_okI hN ⟨by omega, by omega⟩ (by assumption); omega)
                                simp only [Bool.false_eq_true, if_true, if_false, Decidable.not_not] at h25
                                (try simp only [Decidable.not_not] at h25); (try have hN : 0 ≤ d ∧ d ≤ 9 := h25); (try (have hO : ordK l l.length = true := h25; have hE := ord_endL hO))
                                refine draw_guard_nT rfl rfl rfl rfl (by decide) (by decide) ?_
                                refine draw_guard_nT rfl rfl rfl rfl (by decide) (by decide) ?_
                                refine draw_guard_nT rfl rfl rfl rfl (by decide) (by decide) ?_
                                refine draw_guard_nT rfl rfl rfl rfl (by decide) (by decide) ?_
                                refine draw_guard_nT rfl rfl rfl rfl (by decide) (by decide) ?_
                                refine draw_guard_nT rfl rfl rfl rfl (by decide) (by decide) ?_
                                refine draw_guard_nT rfl rfl rfl rfl (by decide) (by decide) ?_
                                refine draw_guard_u rfl rfl rfl rfl (by decide) (by decide) ?_
                                refine draw_guard_u rfl rfl rfl rfl (by decide) (by decide) ?_
                                refine draw_guard_u rfl rfl rfl rfl (by decide) (by decide) ?_
                                refine draw_guard_u rfl rfl rfl rfl (by decide) (by decide) ?_
                                refine draw_guard_u rfl rfl rfl rfl (by decide) (by decide) ?_
                                refine draw_guard_u rfl rfl rfl rfl (by decide) (by decide) ?_
                                refine draw_guard_u rfl rfl rfl rfl (by decide) (by decide) ?_
                                refine draw_guard_u rfl rfl rfl rfl (by decide) (by decide) ?_
                                refine draw_guard_u rfl rfl rfl rfl (by decide) (by decide) ?_
                                refine draw_guard_u rfl rfl rfl rfl (by decide) (by decide) ?_
                                refine draw_guard_u rfl rfl rfl rfl (by decide) (by decide) ?_
                                refine draw_guard_nT rfl rfl rfl rfl (by decide) (by decide) ?_
                                refine draw_q rfl (q_pick rfl rfl (by decide)) ?_
                                refine draw_nil ?_
                                refine hK57 _ ?_; clear hK57 K57
                                refine codeT.imp (σ' := [(2, .val (.bool _)), (3, .own 51 3 1 _ _), (6, .val (.bool _)), (9, .own 76 3 1 _ _), (10, .val (.int .i64 _)), (15, .own 107 3 1 _ _), (16, .val (.int .i64 _)), (21, .box 21 33 _), (23, .val (.int .i64 _)), (24, .own 148 3 1 _ _), (25, .val (.int .i64 _)), (26, .val (.bool _)), (38, .val (.int .i64 _)), (262, .val (.bool _))]) ?_ (imp_covers ⟨rfl, rfl, rfl, rfl, rfl, rfl, rfl, rfl, rfl, rfl, rfl, rfl, rfl, rfl, trivial⟩)
                                refine code_cond_f rfl ?_
                                refine code_skip ?_
                                refine blk_n ?_
                                refine hK56 _ ?_; clear hK56 K56
                                refine code_region ?_
                                refine list_cons rfl (op_q (q_move rfl (by decide)) ?_)
                                refine list_cons rfl (op_q (by first | exact q_addI rfl rfl (by decide) (by omega) (by omega) | exact q_ib rfl rfl rfl (by decide)) ?_)
                                refine list_cons rfl (op_q (q_assign rfl (by decide)) ?_)
                                refine list_nil ?_
                                refine then_n ⟨(_), imp_covers ⟨rfl, rfl, rfl, rfl, rfl, rfl, rfl, rfl, rfl, rfl, rfl, rfl, rfl, trivial⟩, ?_, ?_⟩
                                · (try dsimp only)
                                  exact ⟨by omega, by omega⟩
                                · (try dsimp only); omega
                              (try simp only [Decidable.not_not] at h24); (try have hN : 0 ≤ d ∧ d ≤ 9 := h24); (try (have hO : ordK l l.length = true := h24; have hE := ord_endL hO))
                              refine code_exit ?_
                              refine then_x ?_; clear hK54 K54
                              refine then_x ?_
                              refine blk_hit ?_
                              exact then_n (imp_covers ⟨rfl, rfl, rfl, rfl, rfl, rfl, rfl, rfl, rfl, rfl, rfl, rfl, trivial⟩)
                          (try simp only [Decidable.not_not] at h23); (try have hN : 0 ≤ d ∧ d ≤ 9 := h23); (try (have hO : ordK l l.length = true := h23; have hE := ord_endL hO))
                          refine code_skip ?_
                          exact then_n (imp_covers ⟨rfl, rfl, rfl, rfl, rfl, rfl, rfl, rfl, rfl, rfl, rfl, rfl, trivial⟩)
                        refine code_seq (fun K58 hK58 => ?_)
                        refine code_seq (fun K59 hK59 => ?_)
                        refine code_region ?_
                        refine list_cons rfl (op_q (q_move rfl (by decide)) ?_)
                        refine list_cons rfl (op_q (by first | exact q_notd rfl (by decide) | exact q_not rfl (by decide)) ?_)
                        refine list_nil ?_
                        refine hK59 _ ?_; clear hK59 K59
                        refine code_cond_d rfl (fun h28 => ?_) (fun h28 => ?_)
                        · skip
                          (try simp only [Decidable.not_not] at h28); (try have hN : 0 ≤ d ∧ d ≤ 9 := h28); (try (have hO : ordK l l.length = true := h28; have hE := ord_endL hO))
                          refine code_seq (fun K60 hK60 => ?_)
                          refine code_region ?_
                          refine list_cons rfl (op_q (q_assign rfl (by decide)) ?_)
                          refine list_nil ?_
                          refine hK60 _ ?_; clear hK60 K60
                          refine code_ret ?_
                          refine then_r ?_; clear hK58 K58
                          refine ends_ret (cs := []) rfl rfl rfl rfl trivial ?_
                          first | rfl | (rw [decide_eq_true hE.2.2.2.2.2.2.2.2]; done)
                        (try simp only [Decidable.not_not] at h28); (try have hN : 0 ≤ d ∧ d ≤ 9 := h28); (try (have hO : ordK l l.length = true := h28; have hE := ord_endL hO))
                        refine code_skip ?_
                        refine hK58 _ ?_; clear hK58 K58
                        refine code_seq (fun K61 hK61 => ?_)
                        refine code_region ?_
                        refine list_cons rfl (op_q (q_move rfl (by decide)) ?_)
                        refine list_cons rfl (op_call _ (impl_OrderCost _ _ (by omega)) rfl rfl (by decide) (by decide) (by decide) rfl ?_)
                        rintro _ rfl
                        refine list_cons rfl (op_q (q_move rfl (by decide)) ?_)
                        refine list_cons rfl (op_q (q_extract rfl rfl (by decide)) ?_)
                        refine list_cons rfl (op_q (q_extract rfl rfl (by decide)) ?_)
                        refine list_cons rfl (op_q (q_assign rfl (by decide)) ?_)
                        refine list_cons rfl (op_q (q_assign rfl (by decide)) ?_)
                        refine list_nil ?_
                        refine hK61 _ ?_; clear hK61 K61
                        refine codeT.imp (σ' := [(2, .val (.bool _)), (3, .own 51 3 1 _ _), (6, .val (.bool _)), (9, .own 76 3 1 _ _), (10, .val (.int .i64 _)), (15, .own 107 3 1 _ _), (16, .val (.int .i64 _)), (21, .box 21 33 _), (23, .val (.int .i64 _)), (24, .own 148 3 1 _ _), (25, .val (.int .i64 _)), (26, .val (.bool _)), (39, .val (.int .i64 _)), (40, .val (.bool _))]) ?_ (imp_covers ⟨rfl, rfl, rfl, rfl, rfl, rfl, rfl, rfl, rfl, rfl, rfl, rfl, rfl, rfl, trivial⟩)
                        refine code_seq (fun K62 hK62 => ?_)
                        refine code_region ?_
                        refine list_cons rfl (op_q (q_move rfl (by decide)) ?_)
                        refine list_cons rfl (op_call _ (impl_OrderCost _ _ (by omega)) rfl rfl (by decide) (by decide) (by decide) rfl ?_)
                        rintro _ rfl
                        refine list_cons rfl (op_q (q_move rfl (by decide)) ?_)
                        refine list_cons rfl (op_q (q_extract rfl rfl (by decide)) ?_)
                        refine list_cons rfl (op_q (q_extract rfl rfl (by decide)) ?_)
                        refine list_cons rfl (op_q (q_assign rfl (by decide)) ?_)
                        refine list_cons rfl (op_q (q_assign rfl (by decide)) ?_)
                        refine list_nil ?_
                        refine hK62 _ ?_; clear hK62 K62
                        refine codeT.imp (σ' := [(2, .val (.bool _)), (3, .own 51 3 1 _ _), (6, .val (.bool _)), (9, .own 76 3 1 _ _), (10, .val (.int .i64 _)), (15, .own 107 3 1 _ _), (16, .val (.int .i64 _)), (21, .box 21 33 _), (23, .val (.int .i64 _)), (24, .own 148 3 1 _ _), (25, .val (.int .i64 _)), (26, .val (.bool _)), (39, .val (.int .i64 _)), (40, .val (.bool _)), (41, .val (.int .i64 _)), (42, .val (.bool _))]) ?_ (imp_covers ⟨rfl, rfl, rfl, rfl, rfl, rfl, rfl, rfl, rfl, rfl, rfl, rfl, rfl, rfl, rfl, rfl, trivial⟩)
                        refine code_seq (fun K63 hK63 => ?_)
                        refine code_region ?_
                        refine list_cons rfl (op_q (q_move rfl (by decide)) ?_)
                        refine list_cons rfl (op_call _ (impl_OrderCost _ _ (by omega)) rfl rfl (by decide) (by decide) (by decide) rfl ?_)
                        rintro _ rfl
                        refine list_cons rfl (op_q (q_move rfl (by decide)) ?_)
                        refine list_cons rfl (op_q (q_extract rfl rfl (by decide)) ?_)
                        refine list_cons rfl (op_q (q_extract rfl rfl (by decide)) ?_)
                        refine list_cons rfl (op_q (q_assign rfl (by decide)) ?_)
                        refine list_cons rfl (op_q (q_assign rfl (by decide)) ?_)
                        refine list_nil ?_
                        refine hK63 _ ?_; clear hK63 K63
                        refine codeT.imp (σ' := [(2, .val (.bool _)), (3, .own 51 3 1 _ _), (6, .val (.bool _)), (9, .own 76 3 1 _ _), (10, .val (.int .i64 _)), (15, .own 107 3 1 _ _), (16, .val (.int .i64 _)), (21, .box 21 33 _), (23, .val (.int .i64 _)), (24, .own 148 3 1 _ _), (25, .val (.int .i64 _)), (26, .val (.bool _)), (39, .val (.int .i64 _)), (40, .val (.bool _)), (41, .val (.int .i64 _)), (42, .val (.bool _)), (43, .val (.int .i64 _)), (44, .val (.bool _))]) ?_ (imp_covers ⟨rfl, rfl, rfl, rfl, rfl, rfl, rfl, rfl, rfl, rfl, rfl, rfl, rfl, rfl, rfl, rfl, rfl, rfl, trivial⟩)
                        refine code_seq (fun K64 hK64 => ?_)
                        refine code_region ?_
                        refine list_cons rfl (op_q (q_move rfl (by decide)) ?_)
                        refine list_cons rfl (op_call _ (impl_OrderCost _ _ (by omega)) rfl rfl (by decide) (by decide) (by decide) rfl ?_)
                        rintro _ rfl
                        refine list_cons rfl (op_q (q_move rfl (by decide)) ?_)
                        refine list_cons rfl (op_q (q_extract rfl rfl (by decide)) ?_)
                        refine list_cons rfl (op_q (q_extract rfl rfl (by decide)) ?_)
                        refine list_cons rfl (op_q (q_assign rfl (by decide)) ?_)
                        refine list_cons rfl (op_q (q_assign rfl (by decide)) ?_)
                        refine list_nil ?_
                        refine hK64 _ ?_; clear hK64 K64
                        refine codeT.imp (σ' := [(2, .val (.bool _)), (3, .own 51 3 1 _ _), (6, .val (.bool _)), (9, .own 76 3 1 _ _), (10, .val (.int .i64 _)), (15, .own 107 3 1 _ _), (16, .val (.int .i64 _)), (21, .box 21 33 _), (23, .val (.int .i64 _)), (24, .own 148 3 1 _ _), (25, .val (.int .i64 _)), (26, .val (.bool _)), (39, .val (.int .i64 _)), (40, .val (.bool _)), (41, .val (.int .i64 _)), (42, .val (.bool _)), (43, .val (.int .i64 _)), (44, .val (.bool _)), (45, .val (.int .i64 _)), (46, .val (.bool _))]) ?_ (imp_covers ⟨rfl, rfl, rfl, rfl, rfl, rfl, rfl, rfl, rfl, rfl, rfl, rfl, rfl, rfl, rfl, rfl, rfl, rfl, rfl, rfl, trivial⟩)
                        refine code_seq (fun K65 hK65 => ?_)
                        refine code_region ?_
                        refine list_cons rfl (op_q (q_move rfl (by decide)) ?_)
                        refine list_cons rfl (op_q (q_move rfl (by decide)) ?_)
                        refine list_guard_d rfl rfl rfl rfl (by decide) rfl (by decide) (fun h29 => ?_) (fun h29 => ?_)
                        · simp only [Bool.false_eq_true, if_true, if_false, Decidable.not_not] at h29
                          (try simp only [Decidable.not_not] at h29); (try have hN : 0 ≤ d ∧ d ≤ 9 := h29); (try (have hO : ordK l l.length = true := h29; have hE := ord_endL hO))
                          refine id (op_q (q_move rfl (by decide)) ?_)
                          refine list_cons rfl (op_q (q_pick rfl rfl (by decide)) ?_)
                          refine list_cons rfl (op_q (q_move rfl (by decide)) ?_)
                          refine list_guard_d rfl rfl rfl rfl (by decide) rfl (by decide) (fun h30 => ?_) (fun h30 => ?_)
                          · simp only [Bool.false_eq_true, if_true, if_false, Decidable.not_not] at h30
                            (try simp only [Decidable.not_not] at h30); (try have hN : 0 ≤ d ∧ d ≤ 9 := h30); (try (have hO : ordK l l.length = true := h30; have hE := ord_endL hO))
                            refine id (op_q (q_move rfl (by decide)) ?_)
                            refine list_cons rfl (op_q (q_pick rfl rfl (by decide)) ?_)
                            refine list_cons rfl (op_q (q_move rfl (by decide)) ?_)
                            refine list_guard_d rfl rfl rfl rfl (by decide) rfl (by decide) (fun h31 => ?_) (fun h31 => ?_)
                            · simp only [Bool.false_eq_true, if_true, if_false, Decidable.not_not] at h31
                              (try simp only [Decidable.not_not] at h31); (try have hN : 0 ≤ d ∧ d ≤ 9 := h31); (try (have hO : ordK l l.length = true := h31; have hE := ord_endL hO))
                              refine id (op_q (q_move rfl (by decide)) ?_)
                              refine list_cons rfl (op_q (q_pick rfl rfl (by decide)) ?_)
                              refine list_cons rfl (op_q (q_move rfl (by decide)) ?_)
                              refine list_guard_d rfl rfl rfl rfl (by decide) rfl (by decide) (fun h32 => ?_) (fun h32 => ?_)
                              · simp only [Bool.false_eq_true, if_true, if_false, Decidable.not_not] at h32
                                (try simp only [Decidable.not_not] at h32); (try have hN : 0 ≤ d ∧ d ≤ 9 := h32); (try (have hO : ordK l l.length = true := h32; have hE := ord_endL hO))
                                refine id (op_q (q_move rfl (by decide)) ?_)
                                refine list_guard_y rfl rfl rfl rfl (by decide) rfl ?_
                                refine id (op_q (q_move rfl (by decide)) ?_)
                                refine list_guard_y rfl rfl rfl rfl (by decide) rfl ?_
                                refine id (op_q (q_eq rfl rfl (by decide)) ?_)
                                refine list_cons rfl (op_q (q_pick rfl rfl (by decide)) ?_)
                                refine list_cons rfl (op_q (q_move rfl (by decide)) ?_)
                                refine list_guard_d rfl rfl rfl rfl (by decide) rfl (by decide) (fun h33 => ?_) (fun h33 => ?_)
                                · simp only [Bool.false_eq_true, if_true, if_false, Decidable.not_not] at h33
                                  (try simp only [Decidable.not_not] at h33); (try have hN : 0 ≤ d ∧ d ≤ 9 := h33); (try (have hO : ordK l l.length = true := h33; have hE := ord_endL hO))
                                  refine id (op_q (q_move rfl (by decide)) ?_)
                                  refine list_guard_y rfl rfl rfl rfl (by decide) rfl ?_
                                  refine id (op_q (q_move rfl (by decide)) ?_)
                                  refine list_guard_y rfl rfl rfl rfl (by decide) rfl ?_
                                  refine id (op_q (q_eq rfl rfl (by decide)) ?_)
                                  refine list_cons rfl (op_q (q_pick rfl rfl (by decide)) ?_)
                                  refine list_cons rfl (op_q (q_move rfl (by decide)) ?_)
                                  refine list_guard_d rfl rfl rfl rfl (by decide) rfl (by decide) (fun h34 => ?_) (fun h34 => ?_)
                                  · simp only [Bool.false_eq_true, if_true, if_false, Decidable.not_not] at h34
                                    (try simp only [Decidable.not_not] at h34); (try have hN : 0 ≤ d ∧ d ≤ 9 := h34); (try (have hO : ordK l l.length = true := h34; have hE := ord_endL hO))
                                    refine id (op_q (q_move rfl (by decide)) ?_)
                                    refine list_guard_y rfl rfl rfl rfl (by decide) rfl ?_
                                    refine id (op_q (q_move rfl (by decide)) ?_)
                                    refine list_guard_y rfl rfl rfl rfl (by decide) rfl ?_
                                    refine id (op_q (q_le rfl rfl (by decide)) ?_)
                                    refine list_cons rfl (op_q (q_pick rfl rfl (by decide)) ?_)
                                    refine list_cons rfl (op_q (q_move rfl (by decide)) ?_)
                                    refine list_guard_d rfl rfl rfl rfl (by decide) rfl (by decide) (fun h35 => ?_) (fun h35 => ?_)
                                    · simp only [Bool.false_eq_true, if_true, if_false, Decidable.not_not] at h35
                                      (try simp only [Decidable.not_not] at h35); (try have hN : 0 ≤ d ∧ d ≤ 9 := h35); (try (have hO : ordK l l.length = true := h35; have hE := ord_endL hO))
                                      refine id (op_q (q_move rfl (by decide)) ?_)
                                      refine list_guard_y rfl rfl rfl rfl (by decide) rfl ?_
                                      refine id (op_q (q_move rfl (by decide)) ?_)
                                      refine list_guard_y rfl rfl rfl rfl (by decide) rfl ?_
                                      refine id (op_q (q_le rfl rfl (by decide)) ?_)
                                      refine list_cons rfl (op_q (q_pick rfl rfl (by decide)) ?_)
                                      refine list_cons rfl (op_q (q_move rfl (by decide)) ?_)
                                      refine list_guard_d rfl rfl rfl rfl (by decide) rfl (by decide) (fun h36 => ?_) (fun h36 => ?_)
                                      · simp only [Bool.false_eq_true, if_true, if_false, Decidable.not_not] at h36
                                        (try simp only [Decidable.not_not] at h36); (try have hN : 0 ≤ d ∧ d ≤ 9 := h36); (try (have hO : ordK l l.length = true := h36; have hE := ord_endL hO))
                                        refine id (op_q (q_move rfl (by decide)) ?_)
                                        refine list_guard_y rfl rfl rfl rfl (by decide) rfl ?_
                                        refine id (op_q (q_move rfl (by decide)) ?_)
                                        refine list_guard_y rfl rfl rfl rfl (by decide) rfl ?_
                                        refine id (op_q (q_ge rfl rfl (by decide)) ?_)
                                        refine list_cons rfl (op_q (q_pick rfl rfl (by decide)) ?_)
                                        refine list_cons rfl (op_q (q_move rfl (by decide)) ?_)
                                        refine list_guard_d rfl rfl rfl rfl (by decide) rfl (by decide) (fun h37 => ?_) (fun h37 => ?_)
                                        · simp only [Bool.false_eq_true, if_true, if_false, Decidable.not_not] at h37
                                          (try simp only [Decidable.not_not] at h37); (try have hN : 0 ≤ d ∧ d ≤ 9 := h37); (try (have hO : ordK l l.length = true := h37; have hE := ord_endL hO))
                                          refine id (op_q (q_move rfl (by decide)) ?_)
                                          refine list_guard_y rfl rfl rfl rfl (by decide) rfl ?_
                                          refine id (op_q (q_len_sl Tryd.underlying24 rfl rfl (by decide)) ?_)
                                          refine list_guard_y rfl rfl rfl rfl (by decide) rfl ?_
                                          refine id (op_q (q_move rfl (by decide)) ?_)
                                          refine list_guard_y rfl rfl rfl rfl (by decide) rfl ?_
                                          refine id (op_q (q_len_sl Tryd.underlying24 rfl rfl (by decide)) ?_)
                                          refine list_guard_y rfl rfl rfl rfl (by decide) rfl ?_
                                          refine id (op_q (q_eq rfl rfl (by decide)) ?_)
                                          refine list_cons rfl (op_q (q_pick rfl rfl (by decide)) ?_)
                                          refine list_cons rfl (op_q (q_move rfl (by decide)) ?_)
                                          refine list_guard_d rfl rfl rfl rfl (by decide) rfl (by decide) (fun h38 => ?_) (fun h38 => ?_)
                                          · simp only [Bool.false_eq_true, if_true, if_false, Decidable.not_not] at h38
                                            (try simp only [Decidable.not_not] at h38); (try have hN : 0 ≤ d ∧ d ≤ 9 := h38); (try (have hO : ordK l l.length = true := h38; have hE := ord_endL hO))
                                            refine id (op_q (q_move rfl (by decide)) ?_)
                                            refine list_guard_y rfl rfl rfl rfl (by decide) rfl ?_
                                            refine id (op_q (q_len_sl Tryd.underlying24 rfl rfl (by decide)) ?_)
                                            refine list_guard_y rfl rfl rfl rfl (by decide) rfl ?_
                                            refine id (op_q (q_move rfl (by decide)) ?_)
                                            refine list_guard_y rfl rfl rfl rfl (by decide) rfl ?_
                                            refine id (op_q (q_len_sl Tryd.underlying24 rfl rfl (by decide)) ?_)
                                            refine list_guard_y rfl rfl rfl rfl (by decide) rfl ?_
                                            refine id (op_q (q_eq rfl rfl (by decide)) ?_)
                                            refine list_cons rfl (op_q (q_pick rfl rfl (by decide)) ?_)
                                            refine list_cons rfl (op_q (q_assign rfl (by decide)) ?_)
                                            refine list_nil ?_
                                            refine hK65 _ ?_; clear hK65 K65
                                            refine codeT.imp (σ' := [(2, .val (.bool _)), (3, .own 51 3 1 _ _), (6, .val (.bool _)), (9, .own 76 3 1 _ _), (10, .val (.int .i64 _)), (15, .own 107 3 1 _ _), (16, .val (.int .i64 _)), (21, .box 21 33 _), (23, .val (.int .i64 _)), (24, .own 148 3 1 _ _), (25, .val (.int .i64 _)), (26, .val (.bool _)), (39, .val (.int .i64 _)), (40, .val (.bool _)), (41, .val (.int .i64 _)), (42, .val (.bool _)), (43, .val (.int .i64 _)), (44, .val (.bool _)), (45, .val (.int .i64 _)), (46, .val (.bool _))]) ?_ (imp_covers ⟨rfl, rfl, rfl, rfl, rfl, rfl, rfl, rfl, rfl, rfl, rfl, rfl, rfl, rfl, rfl, rfl, rfl, rfl, rfl, rfl, trivial⟩)
                                            refine code_ret ?_
                                            refine ends_ret (cs := []) rfl rfl rfl rfl trivial ?_
                                            first | rfl | (rw [decide_eq_true hE.2.2.2.2.2.2.2.2]; done)
                                          simp only [Bool.false_eq_true, if_true, if_false, Decidable.not_not] at h38
                                          (try simp only [Decidable.not_not] at h38); (try have hN : 0 ≤ d ∧ d ≤ 9 := h38); (try (have hO : ordK l l.length = true := h38; have hE := ord_endL hO))
                                          exfalso
                                          first | exact h38 hE.2.2.2.2.2.2.2.1
                                        simp only [Bool.false_eq_true, if_true, if_false, Decidable.not_not] at h37
                                        (try simp only [Decidable.not_not] at h37); (try have hN : 0 ≤ d ∧ d ≤ 9 := h37); (try (have hO : ordK l l.length = true := h37; have hE := ord_endL hO))
                                        exfalso
                                        first | exact h37 hE.2.2.2.2.2.2.1
                                      simp only [Bool.false_eq_true, if_true, if_false, Decidable.not_not] at h36
                                      (try simp only [Decidable.not_not] at h36); (try have hN : 0 ≤ d ∧ d ≤ 9 := h36); (try (have hO : ordK l l.length = true := h36; have hE := ord_endL hO))
                                      exfalso
                                      first | exact h36 hE.2.2.2.2.2.1
                                    simp only [Bool.false_eq_true, if_true, if_false, Decidable.not_not] at h35
                                    (try simp only [Decidable.not_not] at h35); (try have hN : 0 ≤ d ∧ d ≤ 9 := h35); (try (have hO : ordK l l.length = true := h35; have hE := ord_endL hO))
                                    exfalso
                                    first | exact h35 hE.2.2.2.2.1
                                  simp only [Bool.false_eq_true, if_true, if_false, Decidable.not_not] at h34
                                  (try simp only [Decidable.not_not] at h34); (try have hN : 0 ≤ d ∧ d ≤ 9 := h34); (try (have hO : ordK l l.length = true := h34; have hE := ord_endL hO))
                                  exfalso
                                  first | exact h34 hE.2.2.2.1
                                simp only [Bool.false_eq_true, if_true, if_false, Decidable.not_not] at h33
                                (try simp only [Decidable.not_not] at h33); (try have hN : 0 ≤ d ∧ d ≤ 9 := h33); (try (have hO : ordK l l.length = true := h33; have hE := ord_endL hO))
                                exfalso
                                first | exact h33 hE.2.2.1
                              simp only [Bool.false_eq_true, if_true, if_false, Decidable.not_not] at h32
                              (try simp only [Decidable.not_not] at h32); (try have hN : 0 ≤ d ∧ d ≤ 9 := h32); (try (have hO : ordK l l.length = true := h32; have hE := ord_endL hO))
                              exfalso
                              first | exact h32 hO
                            simp only [Bool.false_eq_true, if_true, if_false, Decidable.not_not] at h31
                            (try simp only [Decidable.not_not] at h31); (try have hN : 0 ≤ d ∧ d ≤ 9 := h31); (try (have hO : ordK l l.length = true := h31; have hE := ord_endL hO))
                            exfalso
                            first | exact h31 hO
                          simp only [Bool.false_eq_true, if_true, if_false, Decidable.not_not] at h30
                          (try simp only [Decidable.not_not] at h30); (try have hN : 0 ≤ d ∧ d ≤ 9 := h30); (try (have hO : ordK l l.length = true := h30; have hE := ord_endL hO))
                          exfalso
                          first | exact h30 hE.2.1
                        simp only [Bool.false_eq_true, if_true, if_false, Decidable.not_not] at h29
                        (try simp only [Decidable.not_not] at h29); (try have hN : 0 ≤ d ∧ d ≤ 9 := h29); (try (have hO : ordK l l.length = true := h29; have hE := ord_endL hO))
                        exfalso
                        first | exact h29 hE.1
                  simp only [Bool.false_eq_true, if_true, if_false, Decidable.not_not] at h15
                  (try simp only [Decidable.not_not] at h15); (try have hN : 0 ≤ d ∧ d ≤ 9 := h15); (try (have hO : ordK l l.length = true := h15; have hE := ord_endL hO))
                  exfalso
                  first | exact absurd rfl h15 | exact h15 ⟨rfl, rfl, trivial⟩ | exact h15 trivial | (simp at h15; done)
                simp only [Bool.false_eq_true, if_true, if_false, Decidable.not_not] at h14
                (try simp only [Decidable.not_not] at h14); (try have hN : 0 ≤ d ∧ d ≤ 9 := h14); (try (have hO : ordK l l.length = true := h14; have hE := ord_endL hO))
                exfalso
                first | exact absurd rfl h14 | exact h14 ⟨rfl, rfl, trivial⟩ | exact h14 trivial | (simp at h14; done)
              simp only [Bool.false_eq_true, if_true, if_false, Decidable.not_not] at h10
              (try simp only [Decidable.not_not] at h10); (try have hN : 0 ≤ d ∧ d ≤ 9 := h10); (try (have hO : ordK l l.length = true := h10; have hE := ord_endL hO))
              exfalso
              first | exact absurd rfl h10 | exact h10 ⟨rfl, rfl, trivial⟩ | exact h10 trivial | (simp at h10; done)
            simp only [Bool.false_eq_true, if_true, if_false, Decidable.not_not] at h9
            (try simp only [Decidable.not_not] at h9); (try have hN : 0 ≤ d ∧ d ≤ 9 := h9); (try (have hO : ordK l l.length = true := h9; have hE := ord_endL hO))
            exfalso
            first | exact absurd rfl h9 | exact h9 ⟨rfl, rfl, trivial⟩ | exact h9 trivial | (simp at h9; done)
          simp only [Bool.false_eq_true, if_true, if_false, Decidable.not_not] at h8
          (try simp only [Decidable.not_not] at h8); (try have hN : 0 ≤ d ∧ d ≤ 9 := h8); (try (have hO : ordK l l.length = true := h8; have hE := ord_endL hO))
          exfalso
          first | exact absurd rfl h8 | exact h8 ⟨rfl, rfl, trivial⟩ | exact h8 trivial | (simp at h8; done)
        simp only [Bool.false_eq_true, if_true, if_false, Decidable.not_not] at h6
        (try simp only [Decidable.not_not] at h6); (try have hN : 0 ≤ d ∧ d ≤ 9 := h6); (try (have hO : ordK l l.length = true := h6; have hE := ord_endL hO))
        exfalso
        first | exact absurd rfl h6 | exact h6 ⟨rfl, rfl, trivial⟩ | exact h6 trivial | (simp at h6; done)
      simp only [Bool.false_eq_true, if_true, if_false, Decidable.not_not] at h5
      (try simp only [Decidable.not_not] at h5); (try have hN : 0 ≤ d ∧ d ≤ 9 := h5); (try (have hO : ordK l l.length = true := h5; have hE := ord_endL hO))
      exfalso
      first | exact absurd rfl h5 | exact h5 ⟨rfl, rfl, trivial⟩ | exact h5 trivial | (simp at h5; done)
    simp only [Bool.false_eq_true, if_true, if_false, Decidable.not_not] at h4
    (try simp only [Decidable.not_not] at h4); (try have hN : 0 ≤ d ∧ d ≤ 9 := h4); (try (have hO : ordK l l.length = true := h4; have hE := ord_endL hO))
    exfalso
    first | exact absurd rfl h4 | exact h4 ⟨rfl, rfl, trivial⟩ | exact h4 trivial | (simp at h4; done)
  simp only [Bool.false_eq_true, if_true, if_false, Decidable.not_not] at h2
  (try simp only [Decidable.not_not] at h2); (try have hN : 0 ≤ d ∧ d ≤ 9 := h2); (try (have hO : ordK l l.length = true := h2; have hE := ord_endL hO))
  exfalso
  first | exact absurd rfl h2 | exact h2 ⟨rfl, rfl, trivial⟩ | exact h2 trivial | (simp at h2; done)
end Go.Proofs.YtppocfcopnaebaaDoor
