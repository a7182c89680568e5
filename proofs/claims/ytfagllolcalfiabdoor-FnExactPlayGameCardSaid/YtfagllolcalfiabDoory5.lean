/- Contracts of functions, walked over the pure layer; each says for which arguments. -/
import Derived.Test.YtfagllolcalfiabDoory5Ty
import Derived.Shelf.Spec.SlicesGrow
import Derived.Lib.AppendIntMem
import Derived.Test.YtfagllolcalfiabDoorTf
import Derived.Test.YtfagllolcalfiabDoory1
import Derived.Test.YtfagllolcalfiabDoorShelf
import Derived.Test.YtfagllolcalfiabDoory2
import Derived.Test.YtfagllolcalfiabDoory3
import Derived.Test.YtfagllolcalfiabDoorPwMp
import Derived.Test.YtfagllolcalfiabDoory4
import Derived.Test.YtfagllolcalfiabDoorPwCg
import Derived.Test.YtfagllolcalfiabDoorPwBr
namespace Go.Proofs.YtfagllolcalfiabDoor
open Go.RowKit y5Ty
set_option linter.unusedVariables false
set_option linter.unusedSimpArgs false
noncomputable def chs (e r : List Int) : List (Int × Int) := mvR e r true r.length ++ mvR e r false r.length
noncomputable def gmR (e : List Int) : Nat → List Int → List (Int × Int)
  | 0, _ => []
  | n + 1, r => match chs e r with
    | [] => []
    | m :: _ => m :: gmR e n (bhR r m)
def msR (r : List Int) : Nat := (r.map fun c => (127 - c).toNat).sum
theorem ms_set : ∀ (r : List Int) (i : Nat) (v : Int), i < r.length → r.getD i 0 < v → v ≤ 127 → msR (r.set i v) < msR r
  | [], i, v, h, _, _ => by simp at h
  | c :: t, 0, v, _, h1, h2 => by
    have h1 : c < v := h1
    show (127 - v).toNat + _ < (127 - c).toNat + _
    omega
  | c :: t, i + 1, v, h, h1, h2 => by
    have ih := ms_set t i v (by simpa using h) h1 h2
    show (127 - c).toNat + msR (t.set i v) < (127 - c).toNat + msR t
    omega
theorem ms_le : ∀ (r : List Int), (∀ x ∈ r, 0 ≤ x ∧ x ≤ 127) → msR r ≤ 127 * r.length
  | [], _ => Nat.zero_le _
  | c :: t, h => by
    have ih := ms_le t fun x hx => h x (List.mem_cons_of_mem _ hx)
    have hc := h c List.mem_cons_self
    show (127 - c).toNat + msR t ≤ 127 * (t.length + 1)
    omega
theorem wro_ms {r l : List Int} (h : WroP r l) : msR r ≤ 762 := by
  have := ms_le r h.2.1.2
  have := h.2.1.1
  omega
theorem gm_step {r l : List Int} {m : Int × Int} (hW : WroP r l) (h : m ∈ chs (dcd l) r) : WroP (bhR r m) l ∧ msR (bhR r m) < msR r ∧ 0 ≤ m.1 ∧ m.1 < r.length ∧ 0 ≤ m.2 ∧ m.2 ≤ 6 := by
  have hx : ∃ i j, i < r.length ∧ j < 7 ∧ mvP (dcd l) r false i j ∧ m = ((i : Int), (j : Int)) := by
    rcases List.mem_append.1 h with h | h
    · obtain ⟨i, j, h1, h2, h3, h4⟩ := mvR_mem.1 h
      exact ⟨i, j, h1, h2, ⟨h3.1, fun k => by cases k⟩, h4⟩
    · exact mvR_mem.1 h
  obtain ⟨i, j, h1, h2, h3, rfl⟩ := hx
  have he := gcE_yes hW.1
  have hon := wro_on hW
  rw [he] at hon
  have hb := bh_cell (dcd_cells l) hon h1 h2 h3.1
  have hlen := bhR_len r ((i : Int), (j : Int))
  have hr6 := hW.2.1.1
  refine ⟨⟨hW.1, ⟨by omega, fun x hx => ?_⟩, fun k hk => (hb k hk).2⟩, ?_, by show (0 : Int) ≤ (i : Int); omega, by show (i : Int) < _; omega, by show (0 : Int) ≤ (j : Int); omega, by show (j : Int) ≤ 6; omega⟩
  · obtain ⟨k, hk, rfl⟩ := List.mem_iff_getElem.1 hx
    have := (hb k hk).1
    rwa [List.getD_eq_getElem?_getD, List.getElem?_eq_getElem hk] at this
  · have hci := (hon i h1).1
    have hm := (mv_on hci h2).1 h3.1
    have h127 := hm.1.1
    refine ms_set r i _ h1 ?_ ?_
    · have h5 : ((r.getD i 0).toNat).testBit j = false := by
        cases h6 : ((r.getD i 0).toNat).testBit j with
        | false => rfl
        | true => exact absurd ((bitN_test _ _).trans h6) hm.2
      have h6 := up_gt h5
      show _ < ((upN (r.getD i 0).toNat j : Nat) : Int)
      omega
    · exact h127.2
theorem ch_nil {e r : List Int} (h1 : (mvR e r true r.length).length = 0) (h2 : (mvR e r false r.length).length = 0) : chs e r = [] := by
  unfold chs
  rw [List.eq_nil_of_length_eq_zero h1, List.eq_nil_of_length_eq_zero h2]; rfl
theorem getD_cons {A : List (Int × Int)} (h : A.length ≠ 0) : ∃ t, A = A.getD 0 (0, 0) :: t := by
  cases A with
  | nil => exact absurd rfl h
  | cons a t => exact ⟨t, rfl⟩
theorem ch_left {e r : List Int} (h : (mvR e r true r.length).length ≠ 0) : ∃ t, chs e r = (mvR e r true r.length).getD 0 (0, 0) :: t := by
  obtain ⟨t, ht⟩ := getD_cons h
  refine ⟨t ++ mvR e r false r.length, ?_⟩
  unfold chs
  conv => lhs; rw [ht]
  rfl
theorem ch_right {e r : List Int} (h1 : (mvR e r true r.length).length = 0) (h : (mvR e r false r.length).length ≠ 0) : ∃ t, chs e r = (mvR e r false r.length).getD 0 (0, 0) :: t := by
  obtain ⟨t, ht⟩ := getD_cons h
  refine ⟨t, ?_⟩
  unfold chs
  rw [List.eq_nil_of_length_eq_zero h1, List.nil_append]; exact ht
theorem gm_cons {e r : List Int} {m : Int × Int} {t : List (Int × Int)} (n : Nat) (h : chs e r = m :: t) : gmR e (n + 1) r = m :: gmR e n (bhR r m) := by
  show (match chs e r with | [] => [] | m :: _ => m :: gmR e n (bhR r m)) = _
  rw [h]
theorem gm_nil {e r : List Int} (h : chs e r = []) : ∀ n, gmR e n r = []
  | 0 => rfl
  | n + 1 => by
    show (match chs e r with | [] => [] | m :: _ => m :: gmR e n (bhR r m)) = _
    rw [h]
def GmP (r l R : List Int) (M : List (Int × Int)) : Prop := WroP R l ∧ ∃ n, msR R ≤ n ∧ M ++ gmR (dcd l) n R = gmR (dcd l) (msR r) r ∧ M.length + n = msR r
theorem gm_start {r l : List Int} (h : WroP r l) : GmP r l r [] := ⟨h, msR r, Nat.le_refl _, rfl, by simp⟩
theorem gm_next {r l R : List Int} {M : List (Int × Int)} (h : GmP r l R M) {m : Int × Int} (hm : ∃ t, chs (dcd l) R = m :: t) : GmP r l (bhR R m) (M ++ [m]) ∧ M.length < msR r := by
  obtain ⟨hW, n, h1, h2, h3⟩ := h
  obtain ⟨t, ht⟩ := hm
  obtain ⟨s1, s2, _⟩ := gm_step hW (m := m) (by rw [ht]; exact List.mem_cons_self)
  obtain ⟨k, rfl⟩ : ∃ k, n = k + 1 := ⟨n - 1, by omega⟩
  refine ⟨⟨s1, k, by omega, ?_, by rw [List.length_append]; simp; omega⟩, by omega⟩
  rw [← h2, gm_cons k ht, List.append_assoc]; rfl
theorem gm_end {r l R : List Int} {M : List (Int × Int)} (h : GmP r l R M) (hm : chs (dcd l) R = []) : M = gmR (dcd l) (msR r) r := by
  obtain ⟨_, n, _, h2, _⟩ := h
  rw [gm_nil hm, List.append_nil] at h2; exact h2
theorem gm_len {r l R : List Int} {M : List (Int × Int)} (hr : WroP r l) (h : GmP r l R M) : M.length ≤ 762 := by
  obtain ⟨_, n, _, _, h3⟩ := h
  have := wro_ms hr
  omega
noncomputable def gmW (r l : List Int) : List (Int × Int) := if WroP r l then gmR (dcd l) (msR r) r else []
theorem gmR_len (e : List Int) : ∀ n r, (gmR e n r).length ≤ n
  | 0, _ => Nat.le_refl _
  | n + 1, r => by
    show (match chs e r with | [] => [] | m :: _ => m :: gmR e n (bhR r m)).length ≤ _
    split
    · exact Nat.zero_le _
    · have := gmR_len e n
      rw [List.length_cons]; exact Nat.succ_le_succ (this _)
theorem gmW_len (r l : List Int) : (gmW r l).length ≤ 762 := by
  unfold gmW
  split
  · rename_i h
    have h1 := gmR_len (dcd l) (msR r) r
    have h2 := wro_ms h
    omega
  · simp
theorem gm_put {r : List Int} {m : Int × Int} (h : 0 ≤ m.1 ∧ m.1 < r.length) {o : Nat} (ho : o = m.1.toNat * 1) {v : Int} (hv : v = ((upN (r.getD m.1.toNat 0).toNat m.2.toNat : Nat) : Int)) : putAt (r.map (PV.int .i64)) o [PV.int .i64 v] = (bhR r m).map (PV.int .i64) := by
  subst ho; subst hv
  rw [put_map1 (PV.int .i64) r (by omega)]; rfl
theorem gmM {r l R : List Int} {M : List (Int × Int)} (h : GmP r l R M) {m : Int × Int} (hm : ∃ t, chs (dcd l) R = m :: t) : (0 ≤ m.1 ∧ m.1 < R.length) ∧ (0 ≤ m.2 ∧ m.2 ≤ 6) ∧ (0 ≤ R.getD m.1.toNat 0 ∧ R.getD m.1.toNat 0 ≤ 127) ∧ M.length < msR r ∧ p2 m.2.toNat ≤ 64 := by
  obtain ⟨t, ht⟩ := hm
  obtain ⟨_, _, s3, s4, s5, s6⟩ := gm_step h.1 (m := m) (by rw [ht]; exact List.mem_cons_self)
  exact ⟨⟨s3, s4⟩, ⟨s5, s6⟩, h.1.2.1.at (by omega), (gm_next h ⟨t, ht⟩).2, (Nat.pow_le_pow_right (n := 2) (by omega) (show m.2.toNat ≤ 6 by omega) : 2 ^ m.2.toNat ≤ 2 ^ 6)⟩
set_option maxRecDepth 4000 in
theorem spec_l1OwnG (l : List Int) (hl : l.length ≤ 1000) : PCalls Tryd.prog 24 [.sl l.length (l.map (.int .i64))] (· = [.own 0 3 1 (l).length ((l).map (.int .i64))]) := by
  refine pcalls_of_code (n := 6) az Tryd.func24 (by kernel_rfl) rfl rfl (Nat.le_of_ble_eq_true rfl) (by intro t u h; simp [Tryd.f24] at h) ?_
  refine code_seq (fun K1 hK1 => ?_)
  refine code_region ?_
  refine list_cons rfl (op_q (q_assign rfl (by decide)) ?_)
  refine list_nil ?_
  refine hK1 _ ?_; clear hK1 K1
  refine code_seq (fun K2 hK2 => ?_)
  refine code_region ?_
  refine list_cons rfl (op_buildSlice sl_22 (parts := []) rfl rfl rfl (by decide) (by decide) (by decide) rfl ?_)
  refine list_cons rfl (op_q (q_move rfl (by decide)) ?_)
  refine list_cons rfl (op_append_gen sl_22 (l := 3) (.inl rfl) rfl rfl (l2 := none) (.inl ⟨rfl, (by first | rfl | exact flat_map _ (fun _ => rfl) _)⟩) (by first | rfl | simp | omega) (by omega) (by decide) (by decide) (by decide) ?_)
  refine list_cons rfl (op_q (q_assign rfl (by decide)) ?_)
  refine list_nil ?_
  refine hK2 _ ?_; clear hK2 K2
  refine codeT.imp (σ' := [(0, _), (2, _)]) ?_ (imp_covers ⟨rfl, rfl, trivial⟩)
  refine code_ret ?_
  refine ends_ret (cs := []) rfl rfl rfl rfl trivial ?_
  first | rfl | (rw [show zeros [PV.int IntKind.i64 0] 0 = [] from rfl, List.nil_append, Nat.zero_add]; done) | (rw [show zeros [PV.int IntKind.i64 0] l.length = zeros [PV.int IntKind.i64 0] l.length from rfl]; done)
set_option maxRecDepth 8000 in
set_option maxHeartbeats 4000000 in
theorem spec_PlayGame (r l : List Int) (hr : r.length ≤ 4611686018427387904) (hl : l.length ≤ 4611686018427387904) : PCalls Tryd.prog 11 [.sl r.length (r.map (.int .i64)), .sl l.length (l.map (.int .i64))] (· = [.own 0 40 2 (gmW r l).length (fl (gmW r l)), .val (.int .i64 (if WroP r l then ((gmW r l).length : Int) % 2 else 0)), .val (.bool (decide (WroP r l)))]) := by
  refine pcalls_of_code (n := 64) az Tryd.func11 (by kernel_rfl) rfl rfl (Nat.le_of_ble_eq_true rfl) (by intro t u h; simp [Tryd.f11] at h) ?_
  refine code_seq (fun K1 hK1 => ?_)
  refine code_region ?_
  refine list_cons rfl (op_q (q_assign rfl (by decide)) ?_)
  refine list_cons rfl (op_q (q_assign rfl (by decide)) ?_)
  refine list_cons rfl (op_q (q_assign rfl (by decide)) ?_)
  refine list_nil ?_
  refine hK1 _ ?_; clear hK1 K1
  refine code_seq (fun K2 hK2 => ?_)
  refine code_region ?_
  refine list_cons rfl (op_buildSlice sl_29 (parts := []) rfl rfl rfl (by decide) (by decide) (by decide) rfl ?_)
  refine list_cons rfl (op_q (q_assign rfl (by decide)) ?_)
  refine list_nil ?_
  refine hK2 _ ?_; clear hK2 K2
  refine code_seq (fun K3 hK3 => ?_)
  refine code_seq (fun K4 hK4 => ?_)
  refine code_region ?_
  refine list_cons rfl (op_q (q_move rfl (by decide)) ?_)
  refine list_cons rfl (op_q (q_move rfl (by decide)) ?_)
  refine list_cons rfl (op_call _ (spec_l11Row _ _ (by omega) (by omega)) rfl rfl (by decide) (by decide) (by decide) rfl ?_)
  rintro _ rfl
  refine list_cons rfl (op_q (by first | exact q_notd rfl (by decide) | exact q_not rfl (by decide)) ?_)
  refine list_nil ?_
  refine hK4 _ ?_; clear hK4 K4
  refine codeT.imp (σ' := [(0, _), (1, _), (4, _), (5, _), (6, _), (7, _), (15, _)]) ?_ (imp_covers ⟨rfl, rfl, rfl, rfl, rfl, rfl, rfl, trivial⟩)
  refine code_cond_d rfl (fun h1 => ?_) (fun h1 => ?_)
  · skip
    (try simp only [Decidable.not_not] at h1); (try have hW : WroP r l := h1); (try have hmA := gmM hG (ch_left (e := dcd l) (r := R) (by omega))); (try have hmB := gmM hG (ch_right (e := dcd l) (r := R) (by omega) (by omega)))
    refine code_seq (fun K5 hK5 => ?_)
    refine code_region ?_
    refine list_cons rfl (op_q (q_move rfl (by decide)) ?_)
    refine list_cons rfl (op_q (q_assign rfl (by decide)) ?_)
    refine list_cons rfl (op_q (q_assign rfl (by decide)) ?_)
    refine list_cons rfl (op_q (q_assign rfl (by decide)) ?_)
    refine list_nil ?_
    refine hK5 _ ?_; clear hK5 K5
    refine code_ret ?_
    refine then_r ?_; clear hK3 K3
    refine ends_ret (cs := []) rfl rfl rfl rfl trivial ?_
    first
      | (have e : ¬ WroP r l := by assumption
         have e2 : gmW r l = [] := if_neg e
         rw [e2, if_neg e, decide_eq_false e]; rfl)
      | (have e2 : gmW r l = M := (if_pos hW).trans (gm_end hG (ch_nil (by omega) (by omega))).symm
         rw [e2, if_pos hW, decide_eq_true hW]; done)
  (try simp only [Decidable.not_not] at h1); (try have hW : WroP r l := h1); (try have hmA := gmM hG (ch_left (e := dcd l) (r := R) (by omega))); (try have hmB := gmM hG (ch_right (e := dcd l) (r := R) (by omega) (by omega)))
  refine code_skip ?_
  refine hK3 _ ?_; clear hK3 K3
  refine code_seq (fun K6 hK6 => ?_)
  refine code_region ?_
  refine list_cons rfl (op_q (q_move rfl (by decide)) ?_)
  refine list_cons rfl (op_call _ (spec_l11All l hW.1) rfl rfl (by decide) (by decide) (by decide) rfl ?_)
  rintro _ rfl
  refine list_cons rfl (op_q (q_move rfl (by decide)) ?_)
  refine list_cons rfl (op_call _ (spec_l1OwnG _ (by have := (show WroP _ _ by assumption).2.1.1; omega)) rfl rfl (by decide) (by decide) (by decide) rfl ?_)
  rintro _ rfl
  refine list_cons rfl (op_q (q_assign rfl (by decide)) ?_)
  refine list_cons rfl (op_q (q_assign rfl (by decide)) ?_)
  refine list_nil ?_
  refine hK6 _ ?_; clear hK6 K6
  refine codeT.imp (σ' := [(0, _), (1, _), (4, _), (5, _), (6, _), (7, _), (8, _), (9, _)]) ?_ (imp_covers ⟨rfl, rfl, rfl, rfl, rfl, rfl, rfl, rfl, trivial⟩)
  refine code_block ?_
  refine code_loop (X := PV × Int × Bool × Nat × List PV × Nat × List PV) (fun x => [(0, .par 0 (.sl r.length (r.map (.int .i64)))), (1, .par 1 (.sl l.length (l.map (.int .i64)))), (4, .val x.1), (5, .val (.int .i64 x.2.1)), (6, .val (.bool x.2.2.1)), (7, .own 11 40 2 x.2.2.2.1 x.2.2.2.2.1), (8, .own 18 54 5 128 (allC (dcd l))), (9, .own 20 3 1 x.2.2.2.2.2.1 x.2.2.2.2.2.2)]) (fun x => WroP r l ∧ ∃ R M, GmP r l R M ∧ x.2.2.2.1 = M.length ∧ x.2.2.2.2.1 = fl M ∧ x.2.2.2.2.2.1 = R.length ∧ x.2.2.2.2.2.2 = R.map (.int .i64)) (fun x => (msR r + 1 - x.2.2.2.1)) (_, _, _, _, _, _, _) (imp_covers ⟨rfl, rfl, rfl, rfl, rfl, rfl, rfl, rfl, trivial⟩) ?_ ?_
  · (try dsimp only)
    exact ⟨hW, r, [], gm_start hW, rfl, rfl, rfl, rfl⟩
  · intro x hI
    obtain ⟨t4_p, t5, t6, out_n, out_c, now_n, now_c⟩ := x
    replace hI : WroP r l ∧ ∃ R M, GmP r l R M ∧ out_n = M.length ∧ out_c = fl M ∧ now_n = R.length ∧ now_c = R.map (.int .i64) := hI
    show codeT _ _ _ [(0, .par 0 (.sl r.length (r.map (.int .i64)))), (1, .par 1 (.sl l.length (l.map (.int .i64)))), (4, .val t4_p), (5, .val (.int .i64 t5)), (6, .val (.bool t6)), (7, .own 11 40 2 out_n out_c), (8, .own 18 54 5 128 (allC (dcd l))), (9, .own 20 3 1 now_n now_c)] _
    obtain ⟨hW, R, M, hG, rfl, rfl, rfl, rfl⟩ := hI
    have hM := gm_len hW hG
    have hR6 := hG.1.2.1.1
    have hA := mvR_len (dcd l) R true R.length
    have hB := mvR_len (dcd l) R false R.length
    have hfA := fl_len (mvR (dcd l) R true R.length)
    have hfB := fl_len (mvR (dcd l) R false R.length)
    refine code_block ?_
    refine code_seq (fun K7 hK7 => ?_)
    refine code_region ?_
    refine list_cons rfl (op_q (q_move rfl (by decide)) ?_)
    refine list_cons rfl (op_q (q_move rfl (by decide)) ?_)
    refine list_cons rfl (op_q (q_move rfl (by decide)) ?_)
    refine list_cons rfl (op_call _ (spec_l11MovesT R l hG.1) rfl rfl (by decide) (by decide) (by decide) rfl ?_)
    rintro _ rfl
    refine list_cons rfl (op_q (q_assign rfl (by decide)) ?_)
    refine list_nil ?_
    refine hK7 _ ?_; clear hK7 K7
    refine codeT.imp (σ' := [(0, _), (1, _), (4, _), (5, _), (6, _), (7, _), (8, _), (9, _), (10, _)]) ?_ (imp_covers ⟨rfl, rfl, rfl, rfl, rfl, rfl, rfl, rfl, rfl, trivial⟩)
    refine code_seq (fun K8 hK8 => ?_)
    refine code_seq (fun K9 hK9 => ?_)
    refine code_region ?_
    refine list_cons rfl (op_q (q_move rfl (by decide)) ?_)
    refine list_cons rfl (op_q (q_len_sl Tryd.underlying29 rfl rfl (by decide)) ?_)
    refine list_cons rfl (op_q (q_eq rfl rfl (by decide)) ?_)
    refine list_nil ?_
    refine hK9 _ ?_; clear hK9 K9
    refine code_cond_d rfl (fun h2 => ?_) (fun h2 => ?_)
    · skip
      (try simp only [Decidable.not_not] at h2); (try have hW : WroP r l := h2); (try have hmA := gmM hG (ch_left (e := dcd l) (r := R) (by omega))); (try have hmB := gmM hG (ch_right (e := dcd l) (r := R) (by omega) (by omega)))
      refine code_region ?_
      refine list_cons rfl (op_q (q_move rfl (by decide)) ?_)
      refine list_cons rfl (op_q (q_move rfl (by decide)) ?_)
      refine list_cons rfl (op_q (q_move rfl (by decide)) ?_)
      refine list_cons rfl (op_call _ (spec_l11MovesF R l hG.1) rfl rfl (by decide) (by decide) (by decide) rfl ?_)
      rintro _ rfl
      refine list_cons rfl (op_q (q_assign rfl (by decide)) ?_)
      refine list_nil ?_
      refine hK8 _ ?_; clear hK8 K8
      refine codeT.imp (σ' := [(0, _), (1, _), (4, _), (5, _), (6, _), (7, _), (8, _), (9, _), (10, _)]) ?_ (imp_covers ⟨rfl, rfl, rfl, rfl, rfl, rfl, rfl, rfl, rfl, trivial⟩)
      refine code_seq (fun K10 hK10 => ?_)
      refine code_seq (fun K11 hK11 => ?_)
      refine code_region ?_
      refine list_cons rfl (op_q (q_move rfl (by decide)) ?_)
      refine list_cons rfl (op_q (q_len_sl Tryd.underlying29 rfl rfl (by decide)) ?_)
      refine list_cons rfl (op_q (q_eq rfl rfl (by decide)) ?_)
      refine list_nil ?_
      refine hK11 _ ?_; clear hK11 K11
      refine code_cond_d rfl (fun h3 => ?_) (fun h3 => ?_)
      · skip
        (try simp only [Decidable.not_not] at h3); (try have hW : WroP r l := h3); (try have hmA := gmM hG (ch_left (e := dcd l) (r := R) (by omega))); (try have hmB := gmM hG (ch_right (e := dcd l) (r := R) (by omega) (by omega)))
        refine code_seq (fun K12 hK12 => ?_)
        refine code_region ?_
        refine list_cons rfl (op_q (q_move rfl (by decide)) ?_)
        refine list_cons rfl (op_q (q_move rfl (by decide)) ?_)
        refine list_cons rfl (op_q (q_len_sl Tryd.underlying29 rfl rfl (by decide)) ?_)
        refine list_cons rfl (op_q (by first | exact q_remI rfl rfl (by decide) (by omega) (by omega) | exact q_rem rfl rfl (by omega) (by decide)) ?_)
        refine list_cons rfl (op_q (q_assign rfl (by decide)) ?_)
        refine list_cons rfl (op_q (q_assign rfl (by decide)) ?_)
        refine list_cons rfl (op_q (q_assign rfl (by decide)) ?_)
        refine list_nil ?_
        refine hK12 _ ?_; clear hK12 K12
        refine codeT.imp (σ' := [(0, _), (1, _), (4, _), (5, _), (6, _), (7, _), (8, _), (9, _), (10, _)]) ?_ (imp_covers ⟨rfl, rfl, rfl, rfl, rfl, rfl, rfl, rfl, rfl, trivial⟩)
        refine code_ret ?_
        refine then_r ?_; clear hK10 K10
        refine blk_r ?_
        refine then_r ?_
        refine blk_r ?_
        refine ends_ret (cs := []) rfl rfl rfl rfl trivial ?_
        first
          | (have e : ¬ WroP r l := by assumption
             have e2 : gmW r l = [] := if_neg e
             rw [e2, if_neg e, decide_eq_false e]; rfl)
          | (have e2 : gmW r l = M := (if_pos hW).trans (gm_end hG (ch_nil (by omega) (by omega))).symm
             rw [e2, if_pos hW, decide_eq_true hW]; done)
      (try simp only [Decidable.not_not] at h3); (try have hW : WroP r l := h3); (try have hmA := gmM hG (ch_left (e := dcd l) (r := R) (by omega))); (try have hmB := gmM hG (ch_right (e := dcd l) (r := R) (by omega) (by omega)))
      refine code_skip ?_
      refine hK10 _ ?_; clear hK10 K10
      refine code_seq (fun K13 hK13 => ?_)
      refine code_region ?_
      refine list_cons rfl (op_q (q_move rfl (by decide)) ?_)
      refine list_cons rfl (op_q (q_move rfl (by decide)) ?_)
      refine list_cons rfl (op_q (q_indexAddr_own sl_29 rfl rfl (by omega) (by omega) (by decide)) ?_)
      refine list_cons rfl (op_q (q_cast (q_load_agg agg_40 10 (.inl rfl) rfl rfl (by first | rfl | omega | exact fl_get0 (mvR (dcd l) R true R.length) 0 (by omega) | exact fl_get1 (mvR (dcd l) R true R.length) 0 (by omega) | exact fl_get0 (mvR (dcd l) R false R.length) 0 (by omega) | exact fl_get1 (mvR (dcd l) R false R.length) 0 (by omega) | exact get_map1 _ 0 _ (by omega)) (by first | rfl | exact flat_part (fl_flat _) _ _) (by decide)) (congrArg (fun z => SV.val (PV.agg z)) (by first | exact fl_at (mvR (dcd l) R true R.length) 0 (by omega) | exact fl_at (mvR (dcd l) R false R.length) 0 (by omega)))) ?_)
      refine list_cons rfl (op_buildSlice sl_29 (parts := [(0, .tmp 42)]) rfl rfl rfl (by decide) (by decide) (by decide) rfl ?_)
      refine list_cons rfl (op_append_gen sl_29 (l := 11) (.inl rfl) rfl rfl (l2 := none) (.inl ⟨rfl, (by first | rfl | exact flat_map _ (fun _ => rfl) _)⟩) (by first | rfl | (simp; done) | (simp; omega)) (by omega) (by decide) (by decide) (by decide) ?_)
      refine list_cons rfl (op_q (q_assign rfl (by decide)) ?_)
      refine list_nil ?_
      refine hK13 _ ?_; clear hK13 K13
      refine codeT.imp (σ' := [(0, _), (1, _), (4, _), (5, _), (6, _), (7, _), (8, _), (9, _), (10, _)]) ?_ (imp_covers ⟨rfl, rfl, rfl, rfl, rfl, rfl, rfl, rfl, rfl, trivial⟩)
      refine any_start fun ob1_0 => ?_
      refine any_op (rd := [9]) ob1_0 rfl rfl rfl (anyT_quiet [(9, _)] ⟨rfl, trivial⟩ rfl (q_move rfl (by decide))) (fun ob1_1 => ?_)
      simp only [List.cons_append, List.nil_append] at ob1_1
      refine any_op (rd := [10]) ob1_1 rfl rfl rfl (anyT_quiet [(10, _)] ⟨rfl, trivial⟩ rfl (q_move rfl (by decide))) (fun ob1_2 => ?_)
      simp only [List.cons_append, List.nil_append] at ob1_2
      refine any_op (rd := [46]) ob1_2 rfl rfl rfl (anyT_quiet [(46, _)] ⟨rfl, trivial⟩ rfl (q_indexAddr_own sl_29 rfl rfl (by omega) (by omega) (by decide))) (fun ob1_3 => ?_)
      simp only [List.cons_append, List.nil_append] at ob1_3
      refine any_op (rd := [47]) ob1_3 rfl rfl rfl (anyT_quiet [(47, _)] ⟨rfl, trivial⟩ rfl (q_indexAddr_arr arr_40 rfl rfl rfl (by omega) (by omega) (by decide))) (fun ob1_4 => ?_)
      simp only [List.cons_append, List.nil_append] at ob1_4
      refine any_op (rd := [48, 10]) ob1_4 rfl rfl rfl (anyT_quiet [(48, _), (10, _)] ⟨rfl, rfl, trivial⟩ rfl (q_load one_3 10 rfl rfl rfl (by first | rfl | omega | exact fl_get0 (mvR (dcd l) R true R.length) 0 (by omega) | exact fl_get1 (mvR (dcd l) R true R.length) 0 (by omega) | exact fl_get0 (mvR (dcd l) R false R.length) 0 (by omega) | exact fl_get1 (mvR (dcd l) R false R.length) 0 (by omega) | exact get_map1 _ 0 _ (by omega)) (by decide))) (fun ob1_5 => ?_)
      simp only [List.cons_append, List.nil_append] at ob1_5
      refine any_op (rd := [9]) ob1_5 rfl rfl rfl (anyT_quiet [(9, _)] ⟨rfl, trivial⟩ rfl (q_move rfl (by decide))) (fun ob1_6 => ?_)
      simp only [List.cons_append, List.nil_append] at ob1_6
      refine any_op (rd := [10]) ob1_6 rfl rfl rfl (anyT_quiet [(10, _)] ⟨rfl, trivial⟩ rfl (q_move rfl (by decide))) (fun ob1_7 => ?_)
      simp only [List.cons_append, List.nil_append] at ob1_7
      refine any_op (rd := [51]) ob1_7 rfl rfl rfl (anyT_quiet [(51, _)] ⟨rfl, trivial⟩ rfl (q_indexAddr_own sl_29 rfl rfl (by omega) (by omega) (by decide))) (fun ob1_8 => ?_)
      simp only [List.cons_append, List.nil_append] at ob1_8
      refine any_op (rd := [52]) ob1_8 rfl rfl rfl (anyT_quiet [(52, _)] ⟨rfl, trivial⟩ rfl (q_indexAddr_arr arr_40 rfl rfl rfl (by omega) (by omega) (by decide))) (fun ob1_9 => ?_)
      simp only [List.cons_append, List.nil_append] at ob1_9
      refine any_op (rd := [53, 10]) ob1_9 rfl rfl rfl (anyT_quiet [(53, _), (10, _)] ⟨rfl, rfl, trivial⟩ rfl (q_load one_3 10 rfl rfl rfl (by first | rfl | omega | exact fl_get0 (mvR (dcd l) R true R.length) 0 (by omega) | exact fl_get1 (mvR (dcd l) R true R.length) 0 (by omega) | exact fl_get0 (mvR (dcd l) R false R.length) 0 (by omega) | exact fl_get1 (mvR (dcd l) R false R.length) 0 (by omega) | exact get_map1 _ 0 _ (by omega)) (by decide))) (fun ob1_10 => ?_)
      simp only [List.cons_append, List.nil_append] at ob1_10
      refine any_op (rd := [50, 54]) ob1_10 rfl rfl rfl (anyT_quiet [(50, _), (54, _)] ⟨rfl, rfl, trivial⟩ rfl (q_indexAddr_own sl_22 rfl rfl (by omega) (by omega) (by decide))) (fun ob1_11 => ?_)
      simp only [List.cons_append, List.nil_append] at ob1_11
      refine any_op (rd := [55, 9]) ob1_11 rfl rfl rfl (anyT_quiet [(55, _), (9, _)] ⟨rfl, rfl, trivial⟩ rfl (q_load one_3 9 rfl rfl rfl (by first | rfl | omega | exact fl_get0 (mvR (dcd l) R true R.length) 0 (by omega) | exact fl_get1 (mvR (dcd l) R true R.length) 0 (by omega) | exact fl_get0 (mvR (dcd l) R false R.length) 0 (by omega) | exact fl_get1 (mvR (dcd l) R false R.length) 0 (by omega) | exact get_map1 _ 0 _ (by omega)) (by decide))) (fun ob1_12 => ?_)
      simp only [List.cons_append, List.nil_append] at ob1_12
      refine any_op (rd := [10]) ob1_12 rfl rfl rfl (anyT_quiet [(10, _)] ⟨rfl, trivial⟩ rfl (q_move rfl (by decide))) (fun ob1_13 => ?_)
      simp only [List.cons_append, List.nil_append] at ob1_13
      refine any_op (rd := [57]) ob1_13 rfl rfl rfl (anyT_quiet [(57, _)] ⟨rfl, trivial⟩ rfl (q_indexAddr_own sl_29 rfl rfl (by omega) (by omega) (by decide))) (fun ob1_14 => ?_)
      simp only [List.cons_append, List.nil_append] at ob1_14
      refine any_op (rd := [58]) ob1_14 rfl rfl rfl (anyT_quiet [(58, _)] ⟨rfl, trivial⟩ rfl (q_indexAddr_arr arr_40 rfl rfl rfl (by omega) (by omega) (by decide))) (fun ob1_15 => ?_)
      simp only [List.cons_append, List.nil_append] at ob1_15
      refine any_op (rd := [59, 10]) ob1_15 rfl rfl rfl (anyT_quiet [(59, _), (10, _)] ⟨rfl, rfl, trivial⟩ rfl (q_load one_3 10 rfl rfl rfl (by first | rfl | omega | exact fl_get0 (mvR (dcd l) R true R.length) 0 (by omega) | exact fl_get1 (mvR (dcd l) R true R.length) 0 (by omega) | exact fl_get0 (mvR (dcd l) R false R.length) 0 (by omega) | exact fl_get1 (mvR (dcd l) R false R.length) 0 (by omega) | exact get_map1 _ 0 _ (by omega)) (by decide))) (fun ob1_16 => ?_)
      simp only [List.cons_append, List.nil_append] at ob1_16
      refine any_op (rd := [60]) ob1_16 rfl rfl rfl (anyT_quiet [(60, _)] ⟨rfl, trivial⟩ rfl (by first | exact q_shl1 rfl rfl (by decide) (by omega) (by omega) | exact q_shlI rfl rfl (by decide) (by omega) (by omega) (by omega) | exact q_shl rfl rfl (by omega) (by decide))) (fun ob1_17 => ?_)
      simp only [List.cons_append, List.nil_append] at ob1_17
      refine any_op (rd := [56, 61]) ob1_17 rfl rfl rfl (anyT_quiet [(56, _), (61, _)] ⟨rfl, rfl, trivial⟩ rfl (by first | exact q_orI rfl rfl (by decide) (by omega) (by omega) (by omega) (by omega) | exact q_ib rfl rfl rfl (by decide))) (fun ob1_18 => ?_)
      simp only [List.cons_append, List.nil_append] at ob1_18
      refine any_end [[], [], [1], [1, 2], [1, 2, 3], [], [], [6], [6, 7], [6, 7, 8], [5, 6, 7, 8, 9], [5, 6, 7, 8, 9, 10], [], [12], [12, 13], [12, 13, 14], [12, 13, 14, 15], [5, 6, 7, 8, 9, 10, 11, 12, 13, 14, 15, 16], [0, 1, 2, 3, 4, 5, 6, 7, 8, 9, 10, 11, 12, 13, 14, 15, 16, 17], [0, 1, 2, 3, 4, 5, 6, 7, 8, 9, 10, 11, 12, 13, 14, 15, 16, 17, 18]] ob1_18 (by kernel_rfl) (Nat.le_of_ble_eq_true rfl) (by decide) (by decide) (by kernel_rfl) (by kernel_rfl) (by kernel_rfl) (by kernel_rfl) (by kernel_rfl) ?_
      clear ob1_0 ob1_1 ob1_2 ob1_3 ob1_4 ob1_5 ob1_6 ob1_7 ob1_8 ob1_9 ob1_10 ob1_11 ob1_12 ob1_13 ob1_14 ob1_15 ob1_16 ob1_17 ob1_18
      refine listT.imp (σ' := [(0, _), (1, _), (4, _), (5, _), (6, _), (7, _), (8, _), (9, _), (10, _), (45, _), (46, _), (47, _), (48, _), (49, _), (50, _), (51, _), (52, _), (53, _), (54, _), (55, _), (56, _), (57, _), (58, _), (59, _), (60, _), (61, _), (62, _)]) ?_ (imp_covers ⟨rfl, rfl, rfl, rfl, rfl, rfl, rfl, rfl, rfl, rfl, rfl, rfl, rfl, rfl, rfl, rfl, rfl, rfl, rfl, rfl, rfl, rfl, rfl, rfl, rfl, rfl, rfl, trivial⟩)
      refine list_cons rfl (op_q (q_indexAddr_own sl_22 rfl rfl (by omega) (by omega) (by decide)) ?_)
      refine list_cons rfl (op_store (one_3).2 9 [9, 45, 50] (by intro t ht; simp only [List.mem_cons, List.not_mem_nil, or_false] at ht; rcases ht with rfl | rfl | rfl <;> rfl) (.inl rfl) rfl rfl rfl rfl rfl rfl (by first | decide | omega | (rw [List.length_map]; omega)) (by decide) rfl ?_)
      refine list_nil ?_
      refine blk_n ?_
      refine then_n ⟨(_, _, _, _, _, _, _), imp_covers ⟨rfl, rfl, rfl, rfl, rfl, rfl, rfl, rfl, trivial⟩, ?_, ?_⟩
      · (try dsimp only)
        first
        | (have hm := ch_left (e := dcd l) (r := R) (by omega)
           exact ⟨hW, bhR R ((mvR (dcd l) R true R.length).getD 0 (0, 0)), M ++ [(mvR (dcd l) R true R.length).getD 0 (0, 0)], (gm_next hG hm).1, by simp, fl_snocM M _ _, (bhR_len _ _).symm, gm_put (gmM hG hm).1 rfl rfl⟩)
        | (have hm := ch_right (e := dcd l) (r := R) (by omega) (by omega)
           exact ⟨hW, bhR R ((mvR (dcd l) R false R.length).getD 0 (0, 0)), M ++ [(mvR (dcd l) R false R.length).getD 0 (0, 0)], (gm_next hG hm).1, by simp, fl_snocM M _ _, (bhR_len _ _).symm, gm_put (gmM hG hm).1 rfl rfl⟩)
      · (try dsimp only); omega
    (try simp only [Decidable.not_not] at h2); (try have hW : WroP r l := h2); (try have hmA := gmM hG (ch_left (e := dcd l) (r := R) (by omega))); (try have hmB := gmM hG (ch_right (e := dcd l) (r := R) (by omega) (by omega)))
    refine code_skip ?_
    refine hK8 _ ?_; clear hK8 K8
    refine codeT.imp (σ' := [(0, _), (1, _), (4, _), (5, _), (6, _), (7, _), (8, _), (9, _), (10, _)]) ?_ (imp_covers ⟨rfl, rfl, rfl, rfl, rfl, rfl, rfl, rfl, rfl, trivial⟩)
    refine code_seq (fun K14 hK14 => ?_)
    refine code_seq (fun K15 hK15 => ?_)
    refine code_region ?_
    refine list_cons rfl (op_q (q_move rfl (by decide)) ?_)
    refine list_cons rfl (op_q (q_len_sl Tryd.underlying29 rfl rfl (by decide)) ?_)
    refine list_cons rfl (op_q (q_eq rfl rfl (by decide)) ?_)
    refine list_nil ?_
    refine hK15 _ ?_; clear hK15 K15
    refine code_cond_d rfl (fun h4 => ?_) (fun h4 => ?_)
    · skip
      (try simp only [Decidable.not_not] at h4); (try have hW : WroP r l := h4); (try have hmA := gmM hG (ch_left (e := dcd l) (r := R) (by omega))); (try have hmB := gmM hG (ch_right (e := dcd l) (r := R) (by omega) (by omega)))
      refine code_seq (fun K16 hK16 => ?_)
      refine code_region ?_
      refine list_cons rfl (op_q (q_move rfl (by decide)) ?_)
      refine list_cons rfl (op_q (q_move rfl (by decide)) ?_)
      refine list_cons rfl (op_q (q_len_sl Tryd.underlying29 rfl rfl (by decide)) ?_)
      refine list_cons rfl (op_q (by first | exact q_remI rfl rfl (by decide) (by omega) (by omega) | exact q_rem rfl rfl (by omega) (by decide)) ?_)
      refine list_cons rfl (op_q (q_assign rfl (by decide)) ?_)
      refine list_cons rfl (op_q (q_assign rfl (by decide)) ?_)
      refine list_cons rfl (op_q (q_assign rfl (by decide)) ?_)
      refine list_nil ?_
      refine hK16 _ ?_; clear hK16 K16
      refine codeT.imp (σ' := [(0, _), (1, _), (4, _), (5, _), (6, _), (7, _), (8, _), (9, _), (10, _)]) ?_ (imp_covers ⟨rfl, rfl, rfl, rfl, rfl, rfl, rfl, rfl, rfl, trivial⟩)
      refine code_ret ?_
      refine then_r ?_; clear hK14 K14
      refine blk_r ?_
      refine then_r ?_
      refine blk_r ?_
      refine ends_ret (cs := []) rfl rfl rfl rfl trivial ?_
      first
        | (have e : ¬ WroP r l := by assumption
           have e2 : gmW r l = [] := if_neg e
           rw [e2, if_neg e, decide_eq_false e]; rfl)
        | (have e2 : gmW r l = M := (if_pos hW).trans (gm_end hG (ch_nil (by omega) (by omega))).symm
           rw [e2, if_pos hW, decide_eq_true hW]; done)
    (try simp only [Decidable.not_not] at h4); (try have hW : WroP r l := h4); (try have hmA := gmM hG (ch_left (e := dcd l) (r := R) (by omega))); (try have hmB := gmM hG (ch_right (e := dcd l) (r := R) (by omega) (by omega)))
    refine code_skip ?_
    refine hK14 _ ?_; clear hK14 K14
    refine code_seq (fun K17 hK17 => ?_)
    refine code_region ?_
    refine list_cons rfl (op_q (q_move rfl (by decide)) ?_)
    refine list_cons rfl (op_q (q_move rfl (by decide)) ?_)
    refine list_cons rfl (op_q (q_indexAddr_own sl_29 rfl rfl (by omega) (by omega) (by decide)) ?_)
    refine list_cons rfl (op_q (q_cast (q_load_agg agg_40 10 (.inl rfl) rfl rfl (by first | rfl | omega | exact fl_get0 (mvR (dcd l) R true R.length) 0 (by omega) | exact fl_get1 (mvR (dcd l) R true R.length) 0 (by omega) | exact fl_get0 (mvR (dcd l) R false R.length) 0 (by omega) | exact fl_get1 (mvR (dcd l) R false R.length) 0 (by omega) | exact get_map1 _ 0 _ (by omega)) (by first | rfl | exact flat_part (fl_flat _) _ _) (by decide)) (congrArg (fun z => SV.val (PV.agg z)) (by first | exact fl_at (mvR (dcd l) R true R.length) 0 (by omega) | exact fl_at (mvR (dcd l) R false R.length) 0 (by omega)))) ?_)
    refine list_cons rfl (op_buildSlice sl_29 (parts := [(0, .tmp 42)]) rfl rfl rfl (by decide) (by decide) (by decide) rfl ?_)
    refine list_cons rfl (op_append_gen sl_29 (l := 11) (.inl rfl) rfl rfl (l2 := none) (.inl ⟨rfl, (by first | rfl | exact flat_map _ (fun _ => rfl) _)⟩) (by first | rfl | (simp; done) | (simp; omega)) (by omega) (by decide) (by decide) (by decide) ?_)
    refine list_cons rfl (op_q (q_assign rfl (by decide)) ?_)
    refine list_nil ?_
    refine hK17 _ ?_; clear hK17 K17
    refine codeT.imp (σ' := [(0, _), (1, _), (4, _), (5, _), (6, _), (7, _), (8, _), (9, _), (10, _)]) ?_ (imp_covers ⟨rfl, rfl, rfl, rfl, rfl, rfl, rfl, rfl, rfl, trivial⟩)
    refine any_start fun ob2_0 => ?_
    refine any_op (rd := [9]) ob2_0 rfl rfl rfl (anyT_quiet [(9, _)] ⟨rfl, trivial⟩ rfl (q_move rfl (by decide))) (fun ob2_1 => ?_)
    simp only [List.cons_append, List.nil_append] at ob2_1
    refine any_op (rd := [10]) ob2_1 rfl rfl rfl (anyT_quiet [(10, _)] ⟨rfl, trivial⟩ rfl (q_move rfl (by decide))) (fun ob2_2 => ?_)
    simp only [List.cons_append, List.nil_append] at ob2_2
    refine any_op (rd := [46]) ob2_2 rfl rfl rfl (anyT_quiet [(46, _)] ⟨rfl, trivial⟩ rfl (q_indexAddr_own sl_29 rfl rfl (by omega) (by omega) (by decide))) (fun ob2_3 => ?_)
    simp only [List.cons_append, List.nil_append] at ob2_3
    refine any_op (rd := [47]) ob2_3 rfl rfl rfl (anyT_quiet [(47, _)] ⟨rfl, trivial⟩ rfl (q_indexAddr_arr arr_40 rfl rfl rfl (by omega) (by omega) (by decide))) (fun ob2_4 => ?_)
    simp only [List.cons_append, List.nil_append] at ob2_4
    refine any_op (rd := [48, 10]) ob2_4 rfl rfl rfl (anyT_quiet [(48, _), (10, _)] ⟨rfl, rfl, trivial⟩ rfl (q_load one_3 10 rfl rfl rfl (by first | rfl | omega | exact fl_get0 (mvR (dcd l) R true R.length) 0 (by omega) | exact fl_get1 (mvR (dcd l) R true R.length) 0 (by omega) | exact fl_get0 (mvR (dcd l) R false R.length) 0 (by omega) | exact fl_get1 (mvR (dcd l) R false R.length) 0 (by omega) | exact get_map1 _ 0 _ (by omega)) (by decide))) (fun ob2_5 => ?_)
    simp only [List.cons_append, List.nil_append] at ob2_5
    refine any_op (rd := [9]) ob2_5 rfl rfl rfl (anyT_quiet [(9, _)] ⟨rfl, trivial⟩ rfl (q_move rfl (by decide))) (fun ob2_6 => ?_)
    simp only [List.cons_append, List.nil_append] at ob2_6
    refine any_op (rd := [10]) ob2_6 rfl rfl rfl (anyT_quiet [(10, _)] ⟨rfl, trivial⟩ rfl (q_move rfl (by decide))) (fun ob2_7 => ?_)
    simp only [List.cons_append, List.nil_append] at ob2_7
    refine any_op (rd := [51]) ob2_7 rfl rfl rfl (anyT_quiet [(51, _)] ⟨rfl, trivial⟩ rfl (q_indexAddr_own sl_29 rfl rfl (by omega) (by omega) (by decide))) (fun ob2_8 => ?_)
    simp only [List.cons_append, List.nil_append] at ob2_8
    refine any_op (rd := [52]) ob2_8 rfl rfl rfl (anyT_quiet [(52, _)] ⟨rfl, trivial⟩ rfl (q_indexAddr_arr arr_40 rfl rfl rfl (by omega) (by omega) (by decide))) (fun ob2_9 => ?_)
    simp only [List.cons_append, List.nil_append] at ob2_9
    refine any_op (rd := [53, 10]) ob2_9 rfl rfl rfl (anyT_quiet [(53, _), (10, _)] ⟨rfl, rfl, trivial⟩ rfl (q_load one_3 10 rfl rfl rfl (by first | rfl | omega | exact fl_get0 (mvR (dcd l) R true R.length) 0 (by omega) | exact fl_get1 (mvR (dcd l) R true R.length) 0 (by omega) | exact fl_get0 (mvR (dcd l) R false R.length) 0 (by omega) | exact fl_get1 (mvR (dcd l) R false R.length) 0 (by omega) | exact get_map1 _ 0 _ (by omega)) (by decide))) (fun ob2_10 => ?_)
    simp only [List.cons_append, List.nil_append] at ob2_10
    refine any_op (rd := [50, 54]) ob2_10 rfl rfl rfl (anyT_quiet [(50, _), (54, _)] ⟨rfl, rfl, trivial⟩ rfl (q_indexAddr_own sl_22 rfl rfl (by omega) (by omega) (by decide))) (fun ob2_11 => ?_)
    simp only [List.cons_append, List.nil_append] at ob2_11
    refine any_op (rd := [55, 9]) ob2_11 rfl rfl rfl (anyT_quiet [(55, _), (9, _)] ⟨rfl, rfl, trivial⟩ rfl (q_load one_3 9 rfl rfl rfl (by first | rfl | omega | exact fl_get0 (mvR (dcd l) R true R.length) 0 (by omega) | exact fl_get1 (mvR (dcd l) R true R.length) 0 (by omega) | exact fl_get0 (mvR (dcd l) R false R.length) 0 (by omega) | exact fl_get1 (mvR (dcd l) R false R.length) 0 (by omega) | exact get_map1 _ 0 _ (by omega)) (by decide))) (fun ob2_12 => ?_)
    simp only [List.cons_append, List.nil_append] at ob2_12
    refine any_op (rd := [10]) ob2_12 rfl rfl rfl (anyT_quiet [(10, _)] ⟨rfl, trivial⟩ rfl (q_move rfl (by decide))) (fun ob2_13 => ?_)
    simp only [List.cons_append, List.nil_append] at ob2_13
    refine any_op (rd := [57]) ob2_13 rfl rfl rfl (anyT_quiet [(57, _)] ⟨rfl, trivial⟩ rfl (q_indexAddr_own sl_29 rfl rfl (by omega) (by omega) (by decide))) (fun ob2_14 => ?_)
    simp only [List.cons_append, List.nil_append] at ob2_14
    refine any_op (rd := [58]) ob2_14 rfl rfl rfl (anyT_quiet [(58, _)] ⟨rfl, trivial⟩ rfl (q_indexAddr_arr arr_40 rfl rfl rfl (by omega) (by omega) (by decide))) (fun ob2_15 => ?_)
    simp only [List.cons_append, List.nil_append] at ob2_15
    refine any_op (rd := [59, 10]) ob2_15 rfl rfl rfl (anyT_quiet [(59, _), (10, _)] ⟨rfl, rfl, trivial⟩ rfl (q_load one_3 10 rfl rfl rfl (by first | rfl | omega | exact fl_get0 (mvR (dcd l) R true R.length) 0 (by omega) | exact fl_get1 (mvR (dcd l) R true R.length) 0 (by omega) | exact fl_get0 (mvR (dcd l) R false R.length) 0 (by omega) | exact fl_get1 (mvR (dcd l) R false R.length) 0 (by omega) | exact get_map1 _ 0 _ (by omega)) (by decide))) (fun ob2_16 => ?_)
    simp only [List.cons_append, List.nil_append] at ob2_16
    refine any_op (rd := [60]) ob2_16 rfl rfl rfl (anyT_quiet [(60, _)] ⟨rfl, trivial⟩ rfl (by first | exact q_shl1 rfl rfl (by decide) (by omega) (by omega) | exact q_shlI rfl rfl (by decide) (by omega) (by omega) (by omega) | exact q_shl rfl rfl (by omega) (by decide))) (fun ob2_17 => ?_)
    simp only [List.cons_append, List.nil_append] at ob2_17
    refine any_op (rd := [56, 61]) ob2_17 rfl rfl rfl (anyT_quiet [(56, _), (61, _)] ⟨rfl, rfl, trivial⟩ rfl (by first | exact q_orI rfl rfl (by decide) (by omega) (by omega) (by omega) (by omega) | exact q_ib rfl rfl rfl (by decide))) (fun ob2_18 => ?_)
    simp only [List.cons_append, List.nil_append] at ob2_18
    refine any_end [[], [], [1], [1, 2], [1, 2, 3], [], [], [6], [6, 7], [6, 7, 8], [5, 6, 7, 8, 9], [5, 6, 7, 8, 9, 10], [], [12], [12, 13], [12, 13, 14], [12, 13, 14, 15], [5, 6, 7, 8, 9, 10, 11, 12, 13, 14, 15, 16], [0, 1, 2, 3, 4, 5, 6, 7, 8, 9, 10, 11, 12, 13, 14, 15, 16, 17], [0, 1, 2, 3, 4, 5, 6, 7, 8, 9, 10, 11, 12, 13, 14, 15, 16, 17, 18]] ob2_18 (by kernel_rfl) (Nat.le_of_ble_eq_true rfl) (by decide) (by decide) (by kernel_rfl) (by kernel_rfl) (by kernel_rfl) (by kernel_rfl) (by kernel_rfl) ?_
    clear ob2_0 ob2_1 ob2_2 ob2_3 ob2_4 ob2_5 ob2_6 ob2_7 ob2_8 ob2_9 ob2_10 ob2_11 ob2_12 ob2_13 ob2_14 ob2_15 ob2_16 ob2_17 ob2_18
    refine listT.imp (σ' := [(0, _), (1, _), (4, _), (5, _), (6, _), (7, _), (8, _), (9, _), (10, _), (45, _), (46, _), (47, _), (48, _), (49, _), (50, _), (51, _), (52, _), (53, _), (54, _), (55, _), (56, _), (57, _), (58, _), (59, _), (60, _), (61, _), (62, _)]) ?_ (imp_covers ⟨rfl, rfl, rfl, rfl, rfl, rfl, rfl, rfl, rfl, rfl, rfl, rfl, rfl, rfl, rfl, rfl, rfl, rfl, rfl, rfl, rfl, rfl, rfl, rfl, rfl, rfl, rfl, trivial⟩)
    refine list_cons rfl (op_q (q_indexAddr_own sl_22 rfl rfl (by omega) (by omega) (by decide)) ?_)
    refine list_cons rfl (op_store (one_3).2 9 [9, 45, 50] (by intro t ht; simp only [List.mem_cons, List.not_mem_nil, or_false] at ht; rcases ht with rfl | rfl | rfl <;> rfl) (.inl rfl) rfl rfl rfl rfl rfl rfl (by first | decide | omega | (rw [List.length_map]; omega)) (by decide) rfl ?_)
    refine list_nil ?_
    refine blk_n ?_
    refine then_n ⟨(_, _, _, _, _, _, _), imp_covers ⟨rfl, rfl, rfl, rfl, rfl, rfl, rfl, rfl, trivial⟩, ?_, ?_⟩
    · (try dsimp only)
      first
      | (have hm := ch_left (e := dcd l) (r := R) (by omega)
         exact ⟨hW, bhR R ((mvR (dcd l) R true R.length).getD 0 (0, 0)), M ++ [(mvR (dcd l) R true R.length).getD 0 (0, 0)], (gm_next hG hm).1, by simp, fl_snocM M _ _, (bhR_len _ _).symm, gm_put (gmM hG hm).1 rfl rfl⟩)
      | (have hm := ch_right (e := dcd l) (r := R) (by omega) (by omega)
         exact ⟨hW, bhR R ((mvR (dcd l) R false R.length).getD 0 (0, 0)), M ++ [(mvR (dcd l) R false R.length).getD 0 (0, 0)], (gm_next hG hm).1, by simp, fl_snocM M _ _, (bhR_len _ _).symm, gm_put (gmM hG hm).1 rfl rfl⟩)
    · (try dsimp only); omega
theorem flatP_take {L : List (List (Int × Int))} {k : Nat} (h : k < L.length) : (L.take (k + 1)).flatten = (L.take k).flatten ++ L.getD k [] := by
  rw [List.take_add_one, List.getElem?_eq_getElem h, List.flatten_append, List.getD_eq_getElem?_getD, List.getElem?_eq_getElem h]; simp
theorem flatP_le (L : List (List (Int × Int))) (k : Nat) : (L.take k).flatten.length ≤ L.flatten.length := by
  have h := congrArg (fun z => z.flatten.length) (List.take_append_drop k L)
  simp only [List.flatten_append, List.length_append] at h
  omega
theorem fl_app (a b : List (Int × Int)) : fl (a ++ b) = fl a ++ fl b := by simp [fl]
theorem gmE {r l R : List Int} {M : List (Int × Int)} (h : GmP r l R M) (hne : chs (gcE l) R ≠ []) : (∃ t, chs (dcd l) R = (chs (gcE l) R).getD 0 (0, 0) :: t) := by
  rw [gcE_yes h.1.1] at hne ⊢
  cases hc : chs (dcd l) R with
  | nil => exact absurd hc hne
  | cons a t => exact ⟨t, rfl⟩
theorem gmE_nil {r l R : List Int} {M : List (Int × Int)} (h : GmP r l R M) (hne : chs (gcE l) R = []) : chs (dcd l) R = [] := by
  rw [gcE_yes h.1.1] at hne; exact hne
def gr_ren : Go.Shelf.Ren := ⟨fun | 4 => 66 | n => n, fun | 0 => 0 | 3 => 3 | 4 => 4 | 9 => 9 | 20 => 20 | 22 => 29 | 25 => 40 | n => n, fun | n => n⟩
open Go.Shelf in
theorem gr_lay : Go.Proofs.Lays8.n4 Tryd.prog gr_ren := { mixed := by kernel_rfl, f4 := ⟨"slices.Grow[[][2]int,[2]int]", rfl, Tryd.func66.trans (congrArg some (by kernel_rfl))⟩, t0 := Tryd.underlying0, a0 := Tryd.isAgg0, z0 := Tryd.sizeOf0, v0 := Tryd.zeroValue0, t3 := Tryd.underlying3, a3 := Tryd.isAgg3, z3 := Tryd.sizeOf3, v3 := Tryd.zeroValue3, t4 := Tryd.underlying4, a4 := Tryd.isAgg4, z4 := Tryd.sizeOf4, v4 := Tryd.zeroValue4, t9 := Tryd.underlying9, a9 := Tryd.isAgg9, z9 := Tryd.sizeOf9, v9 := Tryd.zeroValue9, t20 := Tryd.underlying20, a20 := Tryd.isAgg20, z20 := Tryd.sizeOf20, v20 := Tryd.zeroValue20, t22 := Tryd.underlying29, a22 := Tryd.isAgg29, z22 := Tryd.sizeOf29, v22 := Tryd.zeroValue29 }
theorem below_da (w : World) (o : Obj) : Below w.heap.size w (w.drew.alloc o) := ⟨rfl, rfl, rfl, by
  have e : (w.drew.alloc o).heap = w.heap.push o := rfl
  rw [e]; simp, fun k hk => by
  have e : (w.drew.alloc o).heap = w.heap.push o := rfl
  rw [e, Array.getElem?_push, if_neg (by omega)]⟩
theorem grow_nilP (n : Nat) (h : n ≤ 1000000) : PCalls Tryd.prog 66 [.cst 0, .int .i64 (n : Int)] (· = [.own 0 40 2 0 []]) := by
  refine pcalls_own (enters_of Tryd.func66 (by kernel_rfl) rfl) fun w vs ha => ?_
  obtain ⟨v0, r0, rfl, ha0, ha⟩ := repArgs_cons ha
  obtain ⟨v1, r1, rfl, ha1, ha⟩ := repArgs_cons ha
  obtain rfl := repArgs_nil ha
  simp only [Rep] at ha0 ha1
  subst ha0; subst ha1
  by_cases h0 : n = 0
  · subst h0
    refine (Any8.slices_Grow_room gr_lay none 0 0 0 w (by decide) (by decide) (by decide) (by decide)).mono fun e w' ⟨he, hw⟩ => ⟨_, [], [], 40, 2, 0, [], [], he, hw ▸ Below.refl _ _, rfl, World.ownsRow_nil _ _ _ _, rfl, rfl⟩
  · obtain ⟨_, i, z, h2, h3, h4, h5, h6, _, _, h9⟩ := sl_29
    refine (Any8.slices_Grow_grow gr_lay i z h2 h3 (by omega) none 0 0 n [] w (by decide) (by omega) (by rw [h5]; omega) (by omega) (by simp) (fun _ => rfl) (fun a h => by cases h)).mono fun e w' ⟨he, hw⟩ => ⟨_, [], [], 40, 2, 0, [], [], he, hw ▸ below_da w _, rfl, ?_, rfl, rfl⟩
    subst hw
    have hge := grownCap_ge w (0 + n) 0 40
    have hle := grownCap_le_maxLen w (0 + n) 0 40 (by simp only [maxLen]; omega)
    unfold World.ownsRow
    refine ⟨rfl, Or.inr ⟨w.heap.size, grownCap w (0 + n) 0 40, Builtin.zeroCells z.cells (0 + n - 0) ++ Builtin.zeroCells z.cells (grownCap w (0 + n) 0 40 - (0 + n)), rfl, Nat.le_refl _, ?_, Nat.zero_le _, hle, ?_, rfl⟩⟩
    · have : ∀ o, (w.drew.alloc o).heap = w.heap.push o := fun _ => rfl
      rw [this]
      refine Array.getElem?_push_size.trans ?_
      rw [Array.empty_append]; rfl
    · show _ = grownCap w (0 + n) 0 40 * 2
      simp only [Nat.zero_add] at hge
      simp [Builtin.zeroCells, h6]; omega
set_option maxRecDepth 4000 in
theorem concatP_c (L : List (List (Int × Int))) (hL : L.length ≤ 1000) (hT : L.flatten.length ≤ 100000) : PCalls Tryd.prog 43 [.sl L.length (L.map fun r => .sl r.length (fl r))] (· = [.own 0 40 2 L.flatten.length (fl L.flatten)]) := by
  refine pcalls_of_code (n := 36) az Tryd.func43 (by kernel_rfl) rfl rfl (Nat.le_of_ble_eq_true rfl) (by intro t u h; simp [Tryd.f43] at h) ?_
  refine code_seq (fun K1 hK1 => ?_)
  refine code_region ?_
  refine list_cons rfl (op_q (q_assign rfl (by decide)) ?_)
  refine list_nil ?_
  refine hK1 _ ?_; clear hK1 K1
  refine codeT.imp (σ' := [(0, _), (2, _)]) ?_ (imp_covers ⟨rfl, rfl, trivial⟩)
  refine code_seq (fun K2 hK2 => ?_)
  refine code_region ?_
  refine list_cons rfl (op_q (q_assign rfl (by decide)) ?_)
  refine list_nil ?_
  refine hK2 _ ?_; clear hK2 K2
  refine code_seq (fun K3 hK3 => ?_)
  refine code_seq (fun K4 hK4 => ?_)
  refine code_region ?_
  refine list_cons rfl (op_q (q_move rfl (by decide)) ?_)
  refine list_cons rfl (op_q (q_len_sl Tryd.underlying79 rfl rfl (by decide)) ?_)
  refine list_cons rfl (op_q (q_move rfl (by decide)) ?_)
  refine list_nil ?_
  refine hK4 _ ?_; clear hK4 K4
  refine code_block ?_
  refine code_loop (X := PV × Int × Int) (fun x => [(0, .par 0 (.sl L.length (L.map fun r => .sl r.length (fl r)))), (2, .val x.1), (3, .val (.int .i64 x.2.1)), (9, .par 0 (.sl L.length (L.map fun r => .sl r.length (fl r)))), (10, .val (.int .i64 L.length)), (11, .val (.int .i64 x.2.2))]) (fun x => 0 ≤ x.2.2 ∧ x.2.2 ≤ L.length ∧ x.2.1 = (((L.take x.2.2.toNat).flatten.length : Nat) : Int)) (fun x => (L.length - x.2.2).toNat) (_, _, _) (imp_covers ⟨rfl, rfl, rfl, rfl, rfl, rfl, trivial⟩) ?_ ?_
  · (try dsimp only)
    exact ⟨by omega, by omega, rfl⟩
  · intro x hI
    obtain ⟨t2_p, size, t11⟩ := x
    replace hI : 0 ≤ t11 ∧ t11 ≤ L.length ∧ size = (((L.take t11.toNat).flatten.length : Nat) : Int) := hI
    show codeT _ _ _ [(0, .par 0 (.sl L.length (L.map fun r => .sl r.length (fl r)))), (2, .val t2_p), (3, .val (.int .i64 size)), (9, .par 0 (.sl L.length (L.map fun r => .sl r.length (fl r)))), (10, .val (.int .i64 L.length)), (11, .val (.int .i64 t11))] _
    obtain ⟨i1, i2, rfl⟩ := hI
    have hft := flatP_le L t11.toNat
    have hfs := fun e : t11 < L.length => flatP_take (L := L) (k := t11.toNat) (by omega)
    have hfl := flatP_le L (t11.toNat + 1)
    have hfn : t11 < L.length → (L.take (t11.toNat + 1)).flatten.length = (L.take t11.toNat).flatten.length + (L.getD t11.toNat []).length := fun e => by rw [hfs e, List.length_append]
    refine code_seq (fun K5 hK5 => ?_)
    refine code_region ?_
    refine list_cons rfl (op_q (q_lt rfl rfl (by decide)) ?_)
    refine list_nil ?_
    refine hK5 _ ?_; clear hK5 K5
    refine code_seq (fun K6 hK6 => ?_)
    refine code_cond_d rfl (fun h1 => ?_) (fun h1 => ?_)
    · skip
      (try simp only [Decidable.not_not] at h1)
      refine code_skip ?_
      refine hK6 _ ?_; clear hK6 K6
      refine code_seq (fun K7 hK7 => ?_)
      refine code_block ?_
      refine code_seq (fun K8 hK8 => ?_)
      refine code_region ?_
      refine list_cons rfl (op_q (q_indexAddr_rd sl_79 rfl (.inl ⟨_, rfl, rfl⟩) rfl (by omega) (by omega) (by decide)) ?_)
      refine list_cons rfl (op_q (q_load_rd one_29 rfl (.inl ⟨_, (by first | exact congrArg (SV.rpar _) (drop_map1 (fun r : List (Int × Int) => PV.sl r.length (fl r)) [] _ (by omega))), rfl⟩) (by decide)) ?_)
      refine list_cons rfl (op_q (q_assign rfl (by decide)) ?_)
      refine list_nil ?_
      refine hK8 _ ?_; clear hK8 K8
      refine code_seq (fun K9 hK9 => ?_)
      refine code_region ?_
      refine list_cons rfl (op_q (q_move rfl (by decide)) ?_)
      refine list_cons rfl (op_q (q_move rfl (by decide)) ?_)
      refine list_cons rfl (op_q (q_len_sl Tryd.underlying29 rfl rfl (by decide)) ?_)
      refine list_cons rfl (op_q (by first | exact q_addI rfl rfl (by decide) (by omega) (by omega) | exact q_ib rfl rfl rfl (by decide)) ?_)
      refine list_cons rfl (op_q (q_assign rfl (by decide)) ?_)
      refine list_nil ?_
      refine hK9 _ ?_; clear hK9 K9
      refine codeT.imp (σ' := [(0, _), (2, _), (3, _), (5, _), (9, _), (10, _), (11, _)]) ?_ (imp_covers ⟨rfl, rfl, rfl, rfl, rfl, rfl, rfl, trivial⟩)
      refine code_seq (fun K10 hK10 => ?_)
      refine code_region ?_
      refine list_cons rfl (op_q (q_move rfl (by decide)) ?_)
      refine list_cons rfl (op_q (q_lt rfl rfl (by decide)) ?_)
      refine list_nil ?_
      refine hK10 _ ?_; clear hK10 K10
      refine code_cond_d rfl (fun h2 => ?_) (fun h2 => ?_)
      · skip
        (try simp only [Decidable.not_not] at h2)
        exfalso
        omega
      (try simp only [Decidable.not_not] at h2)
      refine code_skip ?_
      refine blk_n ?_
      refine hK7 _ ?_; clear hK7 K7
      refine code_region ?_
      refine list_cons rfl (op_q (by first | exact q_addI rfl rfl (by decide) (by omega) (by omega) | exact q_ib rfl rfl rfl (by decide)) ?_)
      refine list_cons rfl (op_q (q_move rfl (by decide)) ?_)
      refine list_nil ?_
      refine then_n ⟨(_, _, _), imp_covers ⟨rfl, rfl, rfl, rfl, rfl, rfl, trivial⟩, ?_, ?_⟩
      · (try dsimp only)
        exact ⟨by omega, by omega, by rw [show (t11 + 1).toNat = t11.toNat + 1 by omega, hfn (by omega)]; omega⟩
      · (try dsimp only); omega
    (try simp only [Decidable.not_not] at h1)
    refine code_exit ?_
    refine then_x ?_; clear hK6 K6
    refine then_x ?_
    refine blk_hit ?_
    refine hK3 _ ?_; clear hK3 K3
    refine code_seq (fun K11 hK11 => ?_)
    refine code_region ?_
    refine list_cons rfl (op_q (q_move rfl (by decide)) ?_)
    refine list_cons rfl (op_callN (ss := [.val (.cst 0), _]) (grow_nilP _ (by omega)) (pvsN_c (pvsN_x rfl rfl pvsN_nil)) (by decide) (by decide) (by decide) rfl ?_)
    rintro _ _ rfl
    refine list_cons rfl (op_q (q_assign rfl (by decide)) ?_)
    refine list_nil ?_
    refine hK11 _ ?_; clear hK11 K11
    refine codeT.imp (σ' := [(0, _), (2, _), (3, _), (6, _), (9, _), (10, _), (11, _)]) ?_ (imp_covers ⟨rfl, rfl, rfl, rfl, rfl, rfl, rfl, trivial⟩)
    refine code_seq (fun K12 hK12 => ?_)
    refine code_seq (fun K13 hK13 => ?_)
    refine code_region ?_
    refine list_cons rfl (op_q (q_move rfl (by decide)) ?_)
    refine list_cons rfl (op_q (q_len_sl Tryd.underlying79 rfl rfl (by decide)) ?_)
    refine list_cons rfl (op_q (q_move rfl (by decide)) ?_)
    refine list_nil ?_
    refine hK13 _ ?_; clear hK13 K13
    refine code_block ?_
    refine code_loop (X := PV × Int × Nat × List PV × PV × Int × Int × Int) (fun x => [(0, .par 0 (.sl L.length (L.map fun r => .sl r.length (fl r)))), (2, .val x.1), (3, .val (.int .i64 x.2.1)), (6, .own 24 40 2 x.2.2.1 x.2.2.2.1), (9, .par 0 x.2.2.2.2.1), (10, .val (.int .i64 x.2.2.2.2.2.1)), (11, .val (.int .i64 x.2.2.2.2.2.2.1)), (25, .par 0 (.sl L.length (L.map fun r => .sl r.length (fl r)))), (26, .val (.int .i64 L.length)), (27, .val (.int .i64 x.2.2.2.2.2.2.2))]) (fun x => 0 ≤ x.2.2.2.2.2.2.2 ∧ x.2.2.2.2.2.2.2 ≤ L.length ∧ x.2.2.1 = (L.take x.2.2.2.2.2.2.2.toNat).flatten.length ∧ x.2.2.2.1 = fl (L.take x.2.2.2.2.2.2.2.toNat).flatten) (fun x => (L.length - x.2.2.2.2.2.2.2).toNat) (_, _, _, _, _, _, _, _) (imp_covers ⟨rfl, rfl, rfl, rfl, rfl, rfl, rfl, rfl, rfl, rfl, trivial⟩) ?_ ?_
    · (try dsimp only)
      exact ⟨by omega, by omega, rfl, rfl⟩
    · intro x hI
      obtain ⟨t2_p, size, newslice_n, newslice_c, t9_p, t10, t11, t27⟩ := x
      replace hI : 0 ≤ t27 ∧ t27 ≤ L.length ∧ newslice_n = (L.take t27.toNat).flatten.length ∧ newslice_c = fl (L.take t27.toNat).flatten := hI
      show codeT _ _ _ [(0, .par 0 (.sl L.length (L.map fun r => .sl r.length (fl r)))), (2, .val t2_p), (3, .val (.int .i64 size)), (6, .own 24 40 2 newslice_n newslice_c), (9, .par 0 t9_p), (10, .val (.int .i64 t10)), (11, .val (.int .i64 t11)), (25, .par 0 (.sl L.length (L.map fun r => .sl r.length (fl r)))), (26, .val (.int .i64 L.length)), (27, .val (.int .i64 t27))] _
      obtain ⟨i3, i4, rfl, rfl⟩ := hI
      have hft := flatP_le L t27.toNat
      have hfs := fun e : t27 < L.length => flatP_take (L := L) (k := t27.toNat) (by omega)
      have hfl := flatP_le L (t27.toNat + 1)
      have hfn : t27 < L.length → (L.take (t27.toNat + 1)).flatten.length = (L.take t27.toNat).flatten.length + (L.getD t27.toNat []).length := fun e => by rw [hfs e, List.length_append]
      refine code_seq (fun K14 hK14 => ?_)
      refine code_region ?_
      refine list_cons rfl (op_q (q_lt rfl rfl (by decide)) ?_)
      refine list_nil ?_
      refine hK14 _ ?_; clear hK14 K14
      refine code_seq (fun K15 hK15 => ?_)
      refine code_cond_d rfl (fun h3 => ?_) (fun h3 => ?_)
      · skip
        (try simp only [Decidable.not_not] at h3)
        refine code_skip ?_
        refine hK15 _ ?_; clear hK15 K15
        refine code_seq (fun K16 hK16 => ?_)
        refine code_block ?_
        refine code_seq (fun K17 hK17 => ?_)
        refine code_region ?_
        refine list_cons rfl (op_q (q_indexAddr_rd sl_79 rfl (.inl ⟨_, rfl, rfl⟩) rfl (by omega) (by omega) (by decide)) ?_)
        refine list_cons rfl (op_q (q_load_rd one_29 rfl (.inl ⟨_, (by first | exact congrArg (SV.rpar _) (drop_map1 (fun r : List (Int × Int) => PV.sl r.length (fl r)) [] _ (by omega))), rfl⟩) (by decide)) ?_)
        refine list_cons rfl (op_q (q_assign rfl (by decide)) ?_)
        refine list_nil ?_
        refine hK17 _ ?_; clear hK17 K17
        refine code_region ?_
        refine list_cons rfl (op_q (q_move rfl (by decide)) ?_)
        refine list_cons rfl (op_q (q_move rfl (by decide)) ?_)
        refine list_cons rfl (op_append_gen sl_29 (l := 24) (.inl rfl) rfl rfl (l2 := none) (.inl ⟨rfl, (by first | exact fl_flat _)⟩) (by first | exact fl_len _ | (rw [fl_len]; done)) (by omega) (by decide) (by decide) (by decide) ?_)
        refine list_cons rfl (op_q (q_assign rfl (by decide)) ?_)
        refine list_nil ?_
        refine blk_n ?_
        refine hK16 _ ?_; clear hK16 K16
        refine codeT.imp (σ' := [(0, _), (2, _), (3, _), (6, _), (8, _), (9, _), (10, _), (11, _), (25, _), (26, _), (27, _)]) ?_ (imp_covers ⟨rfl, rfl, rfl, rfl, rfl, rfl, rfl, rfl, rfl, rfl, rfl, trivial⟩)
        refine code_region ?_
        refine list_cons rfl (op_q (by first | exact q_addI rfl rfl (by decide) (by omega) (by omega) | exact q_ib rfl rfl rfl (by decide)) ?_)
        refine list_cons rfl (op_q (q_move rfl (by decide)) ?_)
        refine list_nil ?_
        refine then_n ⟨(_, _, _, _, _, _, _, _), imp_covers ⟨rfl, rfl, rfl, rfl, rfl, rfl, rfl, rfl, rfl, rfl, trivial⟩, ?_, ?_⟩
        · (try dsimp only)
          exact ⟨by omega, by omega, by rw [show (t27 + 1).toNat = t27.toNat + 1 by omega, hfn (by omega)], by rw [show (t27 + 1).toNat = t27.toNat + 1 by omega, hfs (by omega), fl_app]⟩
        · (try dsimp only); omega
      (try simp only [Decidable.not_not] at h3)
      refine code_exit ?_
      refine then_x ?_; clear hK15 K15
      refine then_x ?_
      refine blk_hit ?_
      refine hK12 _ ?_; clear hK12 K12
      refine code_seq (fun K18 hK18 => ?_)
      refine code_region ?_
      refine list_cons rfl (op_q (q_move rfl (by decide)) ?_)
      refine list_cons rfl (op_q (q_assign rfl (by decide)) ?_)
      refine list_nil ?_
      refine hK18 _ ?_; clear hK18 K18
      refine code_ret ?_
      refine ends_ret (cs := []) rfl rfl rfl rfl trivial ?_
      rw [show t27.toNat = L.length by omega, List.take_length]
theorem concatP2 (a b : List (Int × Int)) (na nb : Nat) (ca cb : List PV) (h1 : na = a.length) (h2 : ca = fl a) (h3 : nb = b.length) (h4 : cb = fl b) (ha : a.length ≤ 100) (hb : b.length ≤ 100) : PCalls Tryd.prog 43 [.sl 2 [.sl na ca, .sl nb cb]] (· = [.own 0 40 2 (a ++ b).length (fl (a ++ b))]) := by
  subst h1; subst h2; subst h3; subst h4
  have e : [a, b].flatten = a ++ b := by simp
  have := concatP_c [a, b] (by show 2 ≤ _; omega) (by rw [e]; simp; omega)
  rw [e] at this
  exact this
set_option maxRecDepth 8000 in
set_option maxHeartbeats 4000000 in
theorem impl_moveAt (r l : List Int) (hW : WroP r l) : PCalls Tryd.prog 26 [.sl r.length (r.map (.int .i64)), .mp (flatE (tE (gcE l) (VN (gcE l)) 128))] (· = [.val (.agg [.int .i64 ((chs (gcE l) r).getD 0 (0, 0)).1, .int .i64 ((chs (gcE l) r).getD 0 (0, 0)).2]), .val (.bool (decide (chs (gcE l) r ≠ [])))]) := by
  refine pcalls_of_code (n := 22) az Tryd.func26 (by kernel_rfl) rfl rfl (Nat.le_of_ble_eq_true rfl) (by intro t u h; simp [Tryd.f26] at h; obtain ⟨_, rfl⟩ := h <;> first | exact resTy_agg agg_40 (by decide)) ?_
  have hr6 := hW.2.1.1
  have hA := mvR_len (gcE l) r true r.length
  have hB := mvR_len (gcE l) r false r.length
  refine code_seq (fun K1 hK1 => ?_)
  refine code_region ?_
  refine list_cons rfl (op_alloc zt_40 (by decide) (by decide) rfl ?_)
  refine list_cons rfl (op_q (q_assign rfl (by decide)) ?_)
  refine list_nil ?_
  refine hK1 _ ?_; clear hK1 K1
  refine code_seq (fun K2 hK2 => ?_)
  refine code_region ?_
  refine list_cons rfl (op_q (q_move rfl (by decide)) ?_)
  refine list_cons rfl (op_q (q_move rfl (by decide)) ?_)
  refine list_cons rfl (op_callM (impl_winningAt r l hW) (.tmp 0) 0 [] [.tmp 7, .tmp 8] _ rfl rfl (by intro y hy; cases hy) (by decide) (by decide) (by decide) rfl (by intro h; cases h) ?_)
  rintro _ _ rfl
  refine list_cons rfl (op_q (q_move rfl (by decide)) ?_)
  refine list_cons rfl (op_q (q_move rfl (by decide)) ?_)
  refine list_cons rfl (op_call _ (impl_movesAt r (gcE l) (gcE_cells l) hr6 (wro_on hW)) rfl rfl (by decide) (by decide) (by decide) rfl ?_)
  rintro _ rfl
  refine listT.imp ?_ (imp_reb (q := 9) (l := 12) (by decide) (by decide) (by decide))
  refine list_cons rfl (op_buildSliceB sl_79 (l := 12) (parts := [(0, .tmp 9), (1, .tmp 12)]) rfl rfl rfl (by decide) (by decide) (by decide) ?_)
  refine list_cons rfl (op_call _ (concatP2 (mvR (gcE l) r true r.length) (mvR (gcE l) r false r.length) _ _ _ _ rfl rfl rfl rfl (by omega) (by omega)) rfl rfl (by decide) (by decide) (by decide) rfl ?_)
  rintro _ rfl; have hfc := fl_len (mvR (gcE l) r true r.length ++ mvR (gcE l) r false r.length)
  refine list_cons rfl (op_q (q_assign rfl (by decide)) ?_)
  refine list_nil ?_
  refine hK2 _ ?_; clear hK2 K2
  refine codeT.imp (σ' := [(0, _), (1, _), (4, _), (5, _), (6, _)]) ?_ (imp_covers ⟨rfl, rfl, rfl, rfl, rfl, trivial⟩)
  refine code_seq (fun K3 hK3 => ?_)
  refine code_seq (fun K4 hK4 => ?_)
  refine code_region ?_
  refine list_cons rfl (op_q (q_move rfl (by decide)) ?_)
  refine list_cons rfl (op_q (q_len_sl Tryd.underlying29 rfl rfl (by decide)) ?_)
  refine list_cons rfl (op_q (q_eq rfl rfl (by decide)) ?_)
  refine list_nil ?_
  refine hK4 _ ?_; clear hK4 K4
  refine code_cond_d rfl (fun h1 => ?_) (fun h1 => ?_)
  · skip
    (try simp only [Decidable.not_not] at h1)
    refine code_seq (fun K5 hK5 => ?_)
    refine code_region ?_
    refine list_cons rfl (op_q (q_build bt_40 (parts := []) rfl rfl (by decide)) ?_)
    refine list_cons rfl (op_store (agg_40).2 4 [4] (by intro t ht; simp only [List.mem_cons, List.not_mem_nil, or_false] at ht; subst ht; rfl) (.inr ⟨rfl, _, rfl⟩) rfl rfl rfl rfl (by first | rfl | exact flat_part (flat_map _ (fun _ => rfl) _) _ _ | exact flat_map _ (fun _ => rfl) _) (by first | rfl | (simp [PV.cells]; done)) (by first | decide | omega | exact Nat.le_refl _ | (simp; done) | (simp; omega)) (by decide) rfl ?_)
    refine list_cons rfl (op_q (q_assign rfl (by decide)) ?_)
    refine list_nil ?_
    refine hK5 _ ?_; clear hK5 K5
    refine codeT.imp (σ' := [(0, _), (1, _), (4, _), (5, _), (6, _)]) ?_ (imp_covers ⟨rfl, rfl, rfl, rfl, rfl, trivial⟩)
    refine code_ret ?_
    refine then_r ?_; clear hK3 K3
    refine ends_ret (cs := []) rfl rfl rfl rfl trivial ?_
    first
      | (have e : chs (gcE l) r = [] := List.eq_nil_of_length_eq_zero (by unfold chs; omega)
         rw [e]; rfl)
      | (have e : chs (gcE l) r ≠ [] := fun z => absurd (show ((mvR (gcE l) r true r.length ++ mvR (gcE l) r false r.length).length : Int) = 0 from congrArg (fun y : List (Int × Int) => (y.length : Int)) z) (by assumption)
         rw [decide_eq_true e]; rfl)
  (try simp only [Decidable.not_not] at h1)
  refine code_skip ?_
  refine hK3 _ ?_; clear hK3 K3
  refine code_seq (fun K6 hK6 => ?_)
  refine code_region ?_
  refine list_cons rfl (op_q (q_move rfl (by decide)) ?_)
  refine list_cons rfl (op_q (q_indexAddr_own sl_29 rfl rfl (by omega) (by omega) (by decide)) ?_)
  refine list_cons rfl (op_q (q_cast (q_load_agg agg_40 6 (.inl rfl) rfl rfl (by first | decide | omega | exact Nat.le_refl _ | (simp; done) | (simp; omega)) (by first | rfl | exact flat_part (fl_flat _) _ _) (by decide)) (congrArg (fun z => SV.val (PV.agg z)) (fl_at (mvR (gcE l) r true r.length ++ mvR (gcE l) r false r.length) 0 (by omega)))) ?_)
  refine list_cons rfl (op_store (agg_40).2 4 [4] (by intro t ht; simp only [List.mem_cons, List.not_mem_nil, or_false] at ht; subst ht; rfl) (.inr ⟨rfl, _, rfl⟩) rfl rfl rfl rfl (by first | rfl | exact flat_part (flat_map _ (fun _ => rfl) _) _ _ | exact flat_map _ (fun _ => rfl) _) (by first | rfl | (simp [PV.cells]; done)) (by first | decide | omega | exact Nat.le_refl _ | (simp; done) | (simp; omega)) (by decide) rfl ?_)
  refine list_cons rfl (op_q (q_assign rfl (by decide)) ?_)
  refine list_nil ?_
  refine hK6 _ ?_; clear hK6 K6
  refine codeT.imp (σ' := [(0, _), (1, _), (4, _), (5, _), (6, _)]) ?_ (imp_covers ⟨rfl, rfl, rfl, rfl, rfl, trivial⟩)
  refine code_ret ?_
  refine ends_ret (cs := []) rfl rfl rfl rfl trivial ?_
  first
    | (have e : chs (gcE l) r = [] := List.eq_nil_of_length_eq_zero (by unfold chs; omega)
       rw [e]; rfl)
    | (have e : chs (gcE l) r ≠ [] := fun z => absurd (show ((mvR (gcE l) r true r.length ++ mvR (gcE l) r false r.length).length : Int) = 0 from congrArg (fun y : List (Int × Int) => (y.length : Int)) z) (by assumption)
       rw [decide_eq_true e]; rfl)
set_option maxRecDepth 8000 in
set_option maxHeartbeats 4000000 in
theorem impl_PlayGame (r l : List Int) (hr : r.length ≤ 4611686018427387904) (hl : l.length ≤ 4611686018427387904) : PCalls Tryd.prog 12 [.sl r.length (r.map (.int .i64)), .sl l.length (l.map (.int .i64))] (· = [.own 0 40 2 (gmW r l).length (fl (gmW r l)), .val (.int .i64 (if WroP r l then ((gmW r l).length : Int) % 2 else 0)), .val (.bool (decide (WroP r l)))]) := by
  refine pcalls_of_code (n := 42) az Tryd.func12 (by kernel_rfl) rfl rfl (Nat.le_of_ble_eq_true rfl) (by intro t u h; simp [Tryd.f12] at h) ?_
  refine code_seq (fun K1 hK1 => ?_)
  refine code_region ?_
  refine list_cons rfl (op_q (q_assign rfl (by decide)) ?_)
  refine list_cons rfl (op_q (q_assign rfl (by decide)) ?_)
  refine list_cons rfl (op_q (q_assign rfl (by decide)) ?_)
  refine list_nil ?_
  refine hK1 _ ?_; clear hK1 K1
  refine code_scope_goto (X := PV × Int × Bool × Bool × Nat × List PV × Nat × List PV × List PV × Bool) 0 (fun x => [(0, .par 0 (.sl r.length (r.map (.int .i64)))), (1, .par 1 (.sl l.length (l.map (.int .i64)))), (4, .val x.1), (5, .val (.int .i64 x.2.1)), (6, .val (.bool x.2.2.1)), (7, .bor 516 (.mp (flatE (tE (gcE l) (VN (gcE l)) 128)))), (8, .val (.bool x.2.2.2.1)), (9, .own 533 3 1 x.2.2.2.2.1 x.2.2.2.2.2.1), (10, .own 523 40 2 x.2.2.2.2.2.2.1 x.2.2.2.2.2.2.2.1), (11, .box 511 40 x.2.2.2.2.2.2.2.2.1), (12, .val (.bool x.2.2.2.2.2.2.2.2.2))]) (fun x => WroP r l ∧ ∃ R M, GmP r l R M ∧ x.2.2.2.2.1 = R.length ∧ x.2.2.2.2.2.1 = R.map (.int .i64) ∧ x.2.2.2.2.2.2.1 = M.length ∧ x.2.2.2.2.2.2.2.1 = fl M) (fun x => (msR r + 1 - x.2.2.2.2.2.2.1)) rfl rfl rfl ?_ ?_
  · skip
    refine code_seq (fun K2 hK2 => ?_)
    refine code_region ?_
    refine list_cons rfl (op_q (q_move rfl (by decide)) ?_)
    refine list_cons rfl (op_q (q_move rfl (by decide)) ?_)
    by_cases h1 : WroP r l
    · skip
      refine list_cons rfl (op_call _ (impl_numbersForY r l (by omega) (by omega) h1) rfl rfl (by decide) (by decide) (by decide) rfl ?_)
      rintro _ rfl
      refine listT.imp ?_ imp_unfrz
      refine list_cons rfl (op_q (q_move rfl (by decide)) ?_)
      refine list_cons rfl (op_q (q_extract rfl rfl (by decide)) ?_)
      refine list_cons rfl (op_q (q_extract rfl rfl (by decide)) ?_)
      refine list_cons rfl (op_q (q_assign rfl (by decide)) ?_)
      refine list_cons rfl (op_q (q_assign rfl (by decide)) ?_)
      refine list_nil ?_
      refine hK2 _ ?_; clear hK2 K2
      refine codeT.imp (σ' := [(0, .par 0 _), (1, .par 1 _), (4, .val _), (5, .val (.int .i64 _)), (6, .val (.bool _)), (7, .bor 16 _), (8, .val (.bool _))]) ?_ (imp_covers ⟨rfl, rfl, rfl, rfl, rfl, rfl, rfl, trivial⟩)
      refine code_seq (fun K3 hK3 => ?_)
      refine code_seq (fun K4 hK4 => ?_)
      refine code_region ?_
      refine list_cons rfl (op_q (q_move rfl (by decide)) ?_)
      refine list_cons rfl (op_q (by first | exact q_notd rfl (by decide) | exact q_not rfl (by decide)) ?_)
      refine list_nil ?_
      refine hK4 _ ?_; clear hK4 K4
      refine code_cond_f rfl ?_
      refine code_skip ?_
      refine hK3 _ ?_; clear hK3 K3
      refine code_seq (fun K5 hK5 => ?_)
      refine code_region ?_
      refine list_cons rfl (op_q (q_move rfl (by decide)) ?_)
      refine list_cons rfl (op_buildSlice sl_29 (parts := []) rfl rfl rfl (by decide) (by decide) (by decide) rfl ?_)
      refine list_cons rfl (op_q (q_assign rfl (by decide)) ?_)
      refine list_cons rfl (op_q (q_assign rfl (by decide)) ?_)
      refine list_nil ?_
      refine hK5 _ ?_; clear hK5 K5
      refine code_seq (fun K6 hK6 => ?_)
      refine code_label ?_
      refine hK6 _ ?_; clear hK6 K6
      refine code_seq (fun K7 hK7 => ?_)
      refine code_seq (fun K8 hK8 => ?_)
      refine code_region ?_
      refine list_cons rfl (op_q (q_move rfl (by decide)) ?_)
      refine list_cons rfl (op_q (q_move rfl (by decide)) ?_)
      refine list_cons rfl (op_call _ (impl_moveAt _ l (by first | exact hG.1 | assumption)) rfl rfl (by decide) (by decide) (by decide) rfl ?_)
      rintro _ rfl
      refine list_cons rfl (op_q (q_move rfl (by decide)) ?_)
      refine list_cons rfl (op_q (q_extract rfl rfl (by decide)) ?_)
      refine list_cons rfl (op_q (q_extract rfl rfl (by decide)) ?_)
      refine list_cons rfl (op_alloc zt_40 (by decide) (by decide) rfl ?_)
      refine list_cons rfl (op_store (agg_40).2 11 [11] (by intro t ht; simp only [List.mem_cons, List.not_mem_nil, or_false] at ht; subst ht; rfl) (.inr ⟨rfl, _, rfl⟩) rfl rfl rfl rfl (by first | rfl | exact flat_part (flat_map _ (fun _ => rfl) _) _ _ | exact flat_map _ (fun _ => rfl) _) (by first | rfl | (simp [PV.cells]; done)) (by first | decide | omega | exact Nat.le_refl _ | (simp; done) | (simp; omega)) (by decide) rfl ?_)
      refine list_cons rfl (op_q (q_assign rfl (by decide)) ?_)
      refine list_nil ?_
      refine hK8 _ ?_; clear hK8 K8
      refine codeT.imp (σ' := [(0, .par 0 _), (1, .par 1 _), (4, .val _), (5, .val (.int .i64 _)), (6, .val (.bool _)), (7, .bor 16 _), (8, .val (.bool _)), (9, .par 0 _), (10, .own 23 40 2 _ _), (11, .box 11 40 _), (12, .val (.bool _))]) ?_ (imp_covers ⟨rfl, rfl, rfl, rfl, rfl, rfl, rfl, rfl, rfl, rfl, rfl, trivial⟩)
      refine code_seq (fun K9 hK9 => ?_)
      refine code_region ?_
      refine list_cons rfl (op_q (q_move rfl (by decide)) ?_)
      refine list_nil ?_
      refine hK9 _ ?_; clear hK9 K9
      refine code_cond_d rfl (fun h2 => ?_) (fun h2 => ?_)
      · skip
        (try have hm := gmM hG (gmE hG h2)); (try have hm := gmM (gm_start (show WroP r l by assumption)) (gmE (gm_start (show WroP r l by assumption)) h2))
        refine code_seq (fun K10 hK10 => ?_)
        refine any_start fun ob3_0 => ?_
        refine any_op (rd := [9]) ob3_0 rfl rfl rfl (anyT_quiet [(9, _)] ⟨rfl, trivial⟩ rfl (q_move rfl (by decide))) (fun ob3_1 => ?_)
        refine any_op (rd := [11]) ob3_1 rfl rfl rfl (anyT_quiet [(11, _)] ⟨rfl, trivial⟩ rfl (q_load_agg agg_40 11 (.inr ⟨rfl, _, rfl⟩) rfl rfl (by first | decide | omega | exact Nat.le_refl _ | (simp; done) | (simp; omega)) (by first | rfl | exact flat_part (flat_map _ (fun _ => rfl) _) _ _) (by decide))) (fun ob3_2 => ?_)
        refine any_op (rd := [31, 32]) ob3_2 rfl rfl rfl (fun σ hag hfr => by have e31 : σ.at 31 = some _ := (hag 31 (by decide)).trans rfl; have e32 : σ.at 32 = some _ := (hag 32 (by decide)).trans rfl; exact op_call _ (impl_behindE _ _ _ _ rfl (show WroP _ l by first | exact hG.1 | assumption).2.1.1 (fun j hj => (show WroP _ l by first | exact hG.1 | assumption).2.1.at hj) (by omega) (by omega)) (evs_cons e31 (evs_cons e32 evs_nil)) rfl (by decide) (by decide) (by decide) hfr (fun rs hR => by subst hR; rfl)) (fun ob3_3 => ?_)
        refine any_op (rd := [10]) ob3_3 rfl rfl rfl (anyT_quiet [(10, _)] ⟨rfl, trivial⟩ rfl (q_move rfl (by decide))) (fun ob3_4 => ?_)
        refine any_op (rd := [11]) ob3_4 rfl rfl rfl (anyT_quiet [(11, _)] ⟨rfl, trivial⟩ rfl (q_load_agg agg_40 11 (.inr ⟨rfl, _, rfl⟩) rfl rfl (by first | decide | omega | exact Nat.le_refl _ | (simp; done) | (simp; omega)) (by first | rfl | exact flat_part (flat_map _ (fun _ => rfl) _) _ _) (by decide))) (fun ob3_5 => ?_)
        refine any_op (rd := [35]) ob3_5 rfl rfl rfl (fun σ hag hfr => by have e35 : σ.at 35 = some _ := (hag 35 (by decide)).trans rfl; exact op_buildSlice sl_29 (parts := [(0, .tmp 35)]) (evp_cons (by first | rfl | assumption) rfl rfl evp_nil) rfl rfl (by decide) (by decide) (by decide) (fr1000 hfr (by decide)) rfl) (fun ob3_6 => ?_)
        refine any_end [[], [], [0, 1], [], [], [4], [0, 1, 2, 3, 4, 5], [0, 1, 2, 3, 4, 5, 6], [0, 1, 2, 3, 4, 5, 6, 7]] ob3_6 (by kernel_rfl) (Nat.le_of_ble_eq_true rfl) (by decide) (by decide) (by kernel_rfl) (by kernel_rfl) (by kernel_rfl) (by kernel_rfl) (by kernel_rfl) ?_
        clear ob3_0 ob3_1 ob3_2 ob3_3 ob3_4 ob3_5 ob3_6
        refine listT.imp (σ' := [(0, _), (1, _), (4, _), (5, _), (6, _), (7, _), (8, _), (9, _), (10, _), (11, _), (12, _), (30, _), (31, _), (32, _), (33, _), (34, _), (35, _), (36, _)]) ?_ (imp_covers ⟨rfl, rfl, rfl, rfl, rfl, rfl, rfl, rfl, rfl, rfl, rfl, rfl, rfl, rfl, rfl, rfl, rfl, rfl, trivial⟩)
        refine list_cons rfl (op_append_gen sl_29 (l := 23) (.inl rfl) rfl rfl (l2 := none) (.inl ⟨rfl, (by first | rfl | exact flat_map _ (fun _ => rfl) _)⟩) (by first | rfl | simp | omega) (by omega) (by decide) (by decide) (by decide) ?_)
        refine list_cons rfl (op_q (q_assign rfl (by decide)) ?_)
        refine list_cons rfl (op_q (q_assign rfl (by decide)) ?_)
        refine list_nil ?_
        refine hK10 _ ?_; clear hK10 K10
        refine codeT.imp (σ' := [(0, .par 0 _), (1, .par 1 _), (4, .val _), (5, .val (.int .i64 _)), (6, .val (.bool _)), (7, .bor 16 _), (8, .val (.bool _)), (9, .own 33 3 1 _ _), (10, .own 23 40 2 _ _), (11, .box 11 40 _), (12, .val (.bool _))]) ?_ (imp_covers ⟨rfl, rfl, rfl, rfl, rfl, rfl, rfl, rfl, rfl, rfl, rfl, trivial⟩)
        refine code_goto ?_
        refine then_g ?_; clear hK7 K7
        refine jp_g ⟨(_, _, _, _, _, _, _, _, _, _), (imp_covers (σ' := [(0, _), (1, _), (4, _), (5, _), (6, _), (7, _), (8, _), (9, _), (10, _), (11, _), (12, _)]) ⟨rfl, rfl, rfl, rfl, rfl, rfl, rfl, rfl, rfl, rfl, rfl, trivial⟩).trans ((imp_ren 16 516 (by decide) (by decide) rfl).trans ((imp_ren 33 533 (by decide) (by decide) rfl).trans ((imp_ren 23 523 (by decide) (by decide) rfl).trans ((imp_ren 11 511 (by decide) (by decide) rfl).trans (imp_covers ⟨rfl, rfl, rfl, rfl, rfl, rfl, rfl, rfl, rfl, rfl, rfl, trivial⟩))))), ?_⟩
        · (try dsimp only)
          (first
            | (have hW : WroP r l := by assumption
               have hg := gmE (gm_start hW) (by assumption)
               exact ⟨hW, bhR r ((chs (gcE l) r).getD 0 (0, 0)), [(chs (gcE l) r).getD 0 (0, 0)], (gm_next (gm_start hW) hg).1, rfl, rfl, rfl, rfl⟩))
      (try have hm := gmM hG (gmE hG h2)); (try have hm := gmM (gm_start (show WroP r l by assumption)) (gmE (gm_start (show WroP r l by assumption)) h2))
      refine code_skip ?_
      refine hK7 _ ?_; clear hK7 K7
      refine code_seq (fun K11 hK11 => ?_)
      refine code_region ?_
      refine list_cons rfl (op_q (q_move rfl (by decide)) ?_)
      refine list_cons rfl (op_q (q_move rfl (by decide)) ?_)
      refine list_cons rfl (op_q (q_len_sl Tryd.underlying29 rfl rfl (by decide)) ?_)
      refine list_cons rfl (op_q (by first | exact q_remI rfl rfl (by decide) (by omega) (by omega) | exact q_rem rfl rfl (by omega) (by decide)) ?_)
      refine list_cons rfl (op_q (q_assign rfl (by decide)) ?_)
      refine list_cons rfl (op_q (q_assign rfl (by decide)) ?_)
      refine list_cons rfl (op_q (q_assign rfl (by decide)) ?_)
      refine list_nil ?_
      refine hK11 _ ?_; clear hK11 K11
      refine code_ret ?_
      refine jp_r ?_
      refine ends_ret (cs := []) rfl rfl rfl rfl trivial ?_
      first
        | (have e : ¬ WroP r l := by assumption
           have e2 : gmW r l = [] := if_neg e
           rw [e2, if_neg e, decide_eq_false e]; rfl)
        | (have hc : ¬ chs (gcE l) R ≠ [] := by assumption
           have e2 : gmW r l = M := (if_pos hW).trans (gm_end hG (gmE_nil hG (Decidable.not_not.1 hc))).symm
           rw [e2, if_pos hW, decide_eq_true hW]; done)
        | (have hc : ¬ chs (gcE l) r ≠ [] := by assumption
           have hW : WroP r l := by assumption
           have e2 : gmW r l = [] := (if_pos hW).trans (gm_end (gm_start hW) (gmE_nil (gm_start hW) (Decidable.not_not.1 hc))).symm
           rw [e2, if_pos hW, decide_eq_true hW]; rfl)
    · skip
      refine list_cons rfl (op_call _ (impl_numbersForN r l (by omega) (by omega) h1) rfl rfl (by decide) (by decide) (by decide) rfl ?_)
      rintro _ rfl
      refine list_cons rfl (op_q (q_move rfl (by decide)) ?_)
      refine list_cons rfl (op_q (q_extract rfl rfl (by decide)) ?_)
      refine list_cons rfl (op_q (q_extract rfl rfl (by decide)) ?_)
      refine list_cons rfl (op_q (q_assign rfl (by decide)) ?_)
      refine list_cons rfl (op_q (q_assign rfl (by decide)) ?_)
      refine list_nil ?_
      refine hK2 _ ?_; clear hK2 K2
      refine codeT.imp (σ' := [(0, .par 0 _), (1, .par 1 _), (4, .val _), (5, .val (.int .i64 _)), (6, .val (.bool _)), (7, .val _), (8, .val (.bool _))]) ?_ (imp_covers ⟨rfl, rfl, rfl, rfl, rfl, rfl, rfl, trivial⟩)
      refine code_seq (fun K12 hK12 => ?_)
      refine code_seq (fun K13 hK13 => ?_)
      refine code_region ?_
      refine list_cons rfl (op_q (q_move rfl (by decide)) ?_)
      refine list_cons rfl (op_q (by first | exact q_notd rfl (by decide) | exact q_not rfl (by decide)) ?_)
      refine list_nil ?_
      refine hK13 _ ?_; clear hK13 K13
      refine code_cond_t rfl ?_
      refine code_seq (fun K14 hK14 => ?_)
      refine code_region ?_
      refine list_cons rfl (op_buildSlice sl_29 (parts := []) rfl rfl rfl (by decide) (by decide) (by decide) rfl ?_)
      refine list_cons rfl (op_q (q_assign rfl (by decide)) ?_)
      refine list_cons rfl (op_q (q_assign rfl (by decide)) ?_)
      refine list_cons rfl (op_q (q_assign rfl (by decide)) ?_)
      refine list_nil ?_
      refine hK14 _ ?_; clear hK14 K14
      refine code_ret ?_
      refine then_r ?_; clear hK12 K12
      refine jp_r ?_
      refine ends_ret (cs := []) rfl rfl rfl rfl trivial ?_
      first
        | (have e : ¬ WroP r l := by assumption
           have e2 : gmW r l = [] := if_neg e
           rw [e2, if_neg e, decide_eq_false e]; rfl)
        | (have hc : ¬ chs (gcE l) R ≠ [] := by assumption
           have e2 : gmW r l = M := (if_pos hW).trans (gm_end hG (gmE_nil hG (Decidable.not_not.1 hc))).symm
           rw [e2, if_pos hW, decide_eq_true hW]; done)
        | (have hc : ¬ chs (gcE l) r ≠ [] := by assumption
           have hW : WroP r l := by assumption
           have e2 : gmW r l = [] := (if_pos hW).trans (gm_end (gm_start hW) (gmE_nil (gm_start hW) (Decidable.not_not.1 hc))).symm
           rw [e2, if_pos hW, decide_eq_true hW]; rfl)
  · intro x hI
    obtain ⟨t4_p, t5, t6, ok, row_n, row_c, moves_n, moves_c, move_c, found⟩ := x
    replace hI : WroP r l ∧ ∃ R M, GmP r l R M ∧ row_n = R.length ∧ row_c = R.map (.int .i64) ∧ moves_n = M.length ∧ moves_c = fl M := hI
    show codeT _ _ _ [(0, .par 0 (.sl r.length (r.map (.int .i64)))), (1, .par 1 (.sl l.length (l.map (.int .i64)))), (4, .val t4_p), (5, .val (.int .i64 t5)), (6, .val (.bool t6)), (7, .bor 516 (.mp (flatE (tE (gcE l) (VN (gcE l)) 128)))), (8, .val (.bool ok)), (9, .own 533 3 1 row_n row_c), (10, .own 523 40 2 moves_n moves_c), (11, .box 511 40 move_c), (12, .val (.bool found))] _
    obtain ⟨hW, R, M, hG, rfl, rfl, rfl, rfl⟩ := hI
    have hM := gm_len hW hG
    have hR6 := hG.1.2.1.1
    refine code_seq (fun K15 hK15 => ?_)
    refine code_skip ?_
    refine hK15 _ ?_; clear hK15 K15
    refine code_seq (fun K16 hK16 => ?_)
    refine code_seq (fun K17 hK17 => ?_)
    refine code_region ?_
    refine list_cons rfl (op_q (q_move rfl (by decide)) ?_)
    refine list_cons rfl (op_q (q_move rfl (by decide)) ?_)
    refine list_cons rfl (op_call _ (impl_moveAt _ l (by first | exact hG.1 | assumption)) rfl rfl (by decide) (by decide) (by decide) rfl ?_)
    rintro _ rfl
    refine list_cons rfl (op_q (q_move rfl (by decide)) ?_)
    refine list_cons rfl (op_q (q_extract rfl rfl (by decide)) ?_)
    refine list_cons rfl (op_q (q_extract rfl rfl (by decide)) ?_)
    refine list_cons rfl (op_alloc zt_40 (by decide) (by decide) rfl ?_)
    refine list_cons rfl (op_store (agg_40).2 11 [11] (by intro t ht; simp only [List.mem_cons, List.not_mem_nil, or_false] at ht; subst ht; rfl) (.inr ⟨rfl, _, rfl⟩) rfl rfl rfl rfl (by first | rfl | exact flat_part (flat_map _ (fun _ => rfl) _) _ _ | exact flat_map _ (fun _ => rfl) _) (by first | rfl | (simp [PV.cells]; done)) (by first | decide | omega | exact Nat.le_refl _ | (simp; done) | (simp; omega)) (by decide) rfl ?_)
    refine list_cons rfl (op_q (q_assign rfl (by decide)) ?_)
    refine list_nil ?_
    refine hK17 _ ?_; clear hK17 K17
    refine codeT.imp (σ' := [(0, .par 0 _), (1, .par 1 _), (4, .val _), (5, .val (.int .i64 _)), (6, .val (.bool _)), (7, .bor 516 _), (8, .val (.bool _)), (9, .own 533 3 1 _ _), (10, .own 523 40 2 _ _), (11, .box 11 40 _), (12, .val (.bool _))]) ?_ (imp_covers ⟨rfl, rfl, rfl, rfl, rfl, rfl, rfl, rfl, rfl, rfl, rfl, trivial⟩)
    refine code_seq (fun K18 hK18 => ?_)
    refine code_region ?_
    refine list_cons rfl (op_q (q_move rfl (by decide)) ?_)
    refine list_nil ?_
    refine hK18 _ ?_; clear hK18 K18
    refine code_cond_d rfl (fun h3 => ?_) (fun h3 => ?_)
    · skip
      (try have hm := gmM hG (gmE hG h3)); (try have hm := gmM (gm_start (show WroP r l by assumption)) (gmE (gm_start (show WroP r l by assumption)) h3))
      refine code_seq (fun K19 hK19 => ?_)
      refine any_start fun ob4_0 => ?_
      refine any_op (rd := [9]) ob4_0 rfl rfl rfl (anyT_quiet [(9, _)] ⟨rfl, trivial⟩ rfl (q_move rfl (by decide))) (fun ob4_1 => ?_)
      refine any_op (rd := [11]) ob4_1 rfl rfl rfl (anyT_quiet [(11, _)] ⟨rfl, trivial⟩ rfl (q_load_agg agg_40 11 (.inr ⟨rfl, _, rfl⟩) rfl rfl (by first | decide | omega | exact Nat.le_refl _ | (simp; done) | (simp; omega)) (by first | rfl | exact flat_part (flat_map _ (fun _ => rfl) _) _ _) (by decide))) (fun ob4_2 => ?_)
      refine any_op (rd := [31, 32]) ob4_2 rfl rfl rfl (fun σ hag hfr => by have e31 : σ.at 31 = some _ := (hag 31 (by decide)).trans rfl; have e32 : σ.at 32 = some _ := (hag 32 (by decide)).trans rfl; exact op_call _ (impl_behindE _ _ _ _ rfl (show WroP _ l by first | exact hG.1 | assumption).2.1.1 (fun j hj => (show WroP _ l by first | exact hG.1 | assumption).2.1.at hj) (by omega) (by omega)) (evs_cons e31 (evs_cons e32 evs_nil)) rfl (by decide) (by decide) (by decide) hfr (fun rs hR => by subst hR; rfl)) (fun ob4_3 => ?_)
      refine any_op (rd := [10]) ob4_3 rfl rfl rfl (anyT_quiet [(10, _)] ⟨rfl, trivial⟩ rfl (q_move rfl (by decide))) (fun ob4_4 => ?_)
      refine any_op (rd := [11]) ob4_4 rfl rfl rfl (anyT_quiet [(11, _)] ⟨rfl, trivial⟩ rfl (q_load_agg agg_40 11 (.inr ⟨rfl, _, rfl⟩) rfl rfl (by first | decide | omega | exact Nat.le_refl _ | (simp; done) | (simp; omega)) (by first | rfl | exact flat_part (flat_map _ (fun _ => rfl) _) _ _) (by decide))) (fun ob4_5 => ?_)
      refine any_op (rd := [35]) ob4_5 rfl rfl rfl (fun σ hag hfr => by have e35 : σ.at 35 = some _ := (hag 35 (by decide)).trans rfl; exact op_buildSlice sl_29 (parts := [(0, .tmp 35)]) (evp_cons (by first | rfl | assumption) rfl rfl evp_nil) rfl rfl (by decide) (by decide) (by decide) (fr1000 hfr (by decide)) rfl) (fun ob4_6 => ?_)
      refine any_end [[], [], [0, 1], [], [], [4], [0, 1, 2, 3, 4, 5], [0, 1, 2, 3, 4, 5, 6], [0, 1, 2, 3, 4, 5, 6, 7]] ob4_6 (by kernel_rfl) (Nat.le_of_ble_eq_true rfl) (by decide) (by decide) (by kernel_rfl) (by kernel_rfl) (by kernel_rfl) (by kernel_rfl) (by kernel_rfl) ?_
      clear ob4_0 ob4_1 ob4_2 ob4_3 ob4_4 ob4_5 ob4_6
      refine listT.imp (σ' := [(0, _), (1, _), (4, _), (5, _), (6, _), (7, _), (8, _), (9, _), (10, _), (11, _), (12, _), (30, _), (31, _), (32, _), (33, _), (34, _), (35, _), (36, _)]) ?_ (imp_covers ⟨rfl, rfl, rfl, rfl, rfl, rfl, rfl, rfl, rfl, rfl, rfl, rfl, rfl, rfl, rfl, rfl, rfl, rfl, trivial⟩)
      refine list_cons rfl (op_append_gen sl_29 (l := 523) (.inl rfl) rfl rfl (l2 := none) (.inl ⟨rfl, (by first | rfl | exact flat_map _ (fun _ => rfl) _)⟩) (by first | rfl | simp | omega) (by omega) (by decide) (by decide) (by decide) ?_)
      refine list_cons rfl (op_q (q_assign rfl (by decide)) ?_)
      refine list_cons rfl (op_q (q_assign rfl (by decide)) ?_)
      refine list_nil ?_
      refine hK19 _ ?_; clear hK19 K19
      refine codeT.imp (σ' := [(0, .par 0 _), (1, .par 1 _), (4, .val _), (5, .val (.int .i64 _)), (6, .val (.bool _)), (7, .bor 516 _), (8, .val (.bool _)), (9, .own 33 3 1 _ _), (10, .own 523 40 2 _ _), (11, .box 11 40 _), (12, .val (.bool _))]) ?_ (imp_covers ⟨rfl, rfl, rfl, rfl, rfl, rfl, rfl, rfl, rfl, rfl, rfl, trivial⟩)
      refine code_goto ?_
      refine then_g ?_; clear hK16 K16
      refine jp_g ⟨(_, _, _, _, _, _, _, _, _, _), (imp_covers (σ' := [(0, _), (1, _), (4, _), (5, _), (6, _), (7, _), (8, _), (9, _), (10, _), (11, _), (12, _)]) ⟨rfl, rfl, rfl, rfl, rfl, rfl, rfl, rfl, rfl, rfl, rfl, trivial⟩).trans ((imp_ren 33 533 (by decide) (by decide) rfl).trans ((imp_ren 11 511 (by decide) (by decide) rfl).trans (imp_covers ⟨rfl, rfl, rfl, rfl, rfl, rfl, rfl, rfl, rfl, rfl, rfl, trivial⟩))), ?_, ?_⟩
      · (try dsimp only)
        (first
          | (have hg := gmE hG (by assumption)
             exact ⟨hW, bhR R ((chs (gcE l) R).getD 0 (0, 0)), M ++ [(chs (gcE l) R).getD 0 (0, 0)], (gm_next hG hg).1, rfl, rfl, by simp, fl_snocM M _ _⟩))
      · (try dsimp only); omega
    (try have hm := gmM hG (gmE hG h3)); (try have hm := gmM (gm_start (show WroP r l by assumption)) (gmE (gm_start (show WroP r l by assumption)) h3))
    refine code_skip ?_
    refine hK16 _ ?_; clear hK16 K16
    refine code_seq (fun K20 hK20 => ?_)
    refine code_region ?_
    refine list_cons rfl (op_q (q_move rfl (by decide)) ?_)
    refine list_cons rfl (op_q (q_move rfl (by decide)) ?_)
    refine list_cons rfl (op_q (q_len_sl Tryd.underlying29 rfl rfl (by decide)) ?_)
    refine list_cons rfl (op_q (by first | exact q_remI rfl rfl (by decide) (by omega) (by omega) | exact q_rem rfl rfl (by omega) (by decide)) ?_)
    refine list_cons rfl (op_q (q_assign rfl (by decide)) ?_)
    refine list_cons rfl (op_q (q_assign rfl (by decide)) ?_)
    refine list_cons rfl (op_q (q_assign rfl (by decide)) ?_)
    refine list_nil ?_
    refine hK20 _ ?_; clear hK20 K20
    refine code_ret ?_
    refine jp_r ?_
    refine ends_ret (cs := []) rfl rfl rfl rfl trivial ?_
    first
      | (have e : ¬ WroP r l := by assumption
         have e2 : gmW r l = [] := if_neg e
         rw [e2, if_neg e, decide_eq_false e]; rfl)
      | (have hc : ¬ chs (gcE l) R ≠ [] := by assumption
         have e2 : gmW r l = M := (if_pos hW).trans (gm_end hG (gmE_nil hG (Decidable.not_not.1 hc))).symm
         rw [e2, if_pos hW, decide_eq_true hW]; done)
      | (have hc : ¬ chs (gcE l) r ≠ [] := by assumption
         have hW : WroP r l := by assumption
         have e2 : gmW r l = [] := (if_pos hW).trans (gm_end (gm_start hW) (gmE_nil (gm_start hW) (Decidable.not_not.1 hc))).symm
         rw [e2, if_pos hW, decide_eq_true hW]; rfl)
theorem get2 (x y : Int) {i : Int} (h0 : 0 ≤ i) (h1 : i < 2) : ([PV.int .i64 x, PV.int .i64 y] : List PV)[i.toNat * 1]? = some (.int .i64 (if i = 0 then x else y)) := by
  rcases (show i = 0 ∨ i = 1 by omega) with rfl | rfl <;> rfl
theorem fl_dropj (gs : List (Int × Int)) (k : Nat) {j : Int} (h : k < gs.length) (h0 : 0 ≤ j) (h1 : j < 2) : ((fl gs).drop (k * 2)).drop (j.toNat * 1) = PV.int .i64 (if j = 0 then (gs.getD k (0, 0)).1 else (gs.getD k (0, 0)).2) :: ((fl gs).drop (k * 2)).drop (j.toNat * 1 + 1) := by
  rw [fl_drop0 gs k h]
  rcases (show j = 0 ∨ j = 1 by omega) with rfl | rfl <;> rfl
def mk2 (l : List (Int × Int)) (k : Int) (i : Nat) (j : Int) : List PV := if j = 0 then fl (markF i k ++ l.drop i) else if j = 1 then putAt (fl (markF i k ++ l.drop i)) (i * 2 + 0) [PV.int .i64 (k + 2 * i)] else fl (markF (i + 1) k ++ l.drop (i + 1))
theorem mk2_len (l : List (Int × Int)) (k : Int) {i : Nat} (h : i < l.length) (j : Int) : (mk2 l k i j).length = l.length * 2 := by
  have e1 : (markF i k ++ l.drop i).length = l.length := by simp [markF]; omega
  have e2 : (markF (i + 1) k ++ l.drop (i + 1)).length = l.length := by simp [markF]; omega
  unfold mk2
  split
  · rw [fl_len, e1]
  · split
    · have := fl_len (markF i k ++ l.drop i)
      rw [e1] at this
      simp [putAt, this]; omega
    · rw [fl_len, e2]
theorem mk2_put (l : List (Int × Int)) (k : Int) {i : Nat} (h : i < l.length) {j : Int} (h0 : 0 ≤ j) (h1 : j < 2) : putAt (mk2 l k i j) (i * 2 + j.toNat * 1) [PV.int .i64 (k + 2 * i + j)] = mk2 l k i (j + 1) := by
  rcases (show j = 0 ∨ j = 1 by omega) with rfl | rfl
  · rw [show k + 2 * (i : Int) + 0 = k + 2 * i by omega]; rfl
  · exact markF_put l k (i := (i : Int)) (by omega) (by omega) h
set_option maxRecDepth 4000 in
theorem eqIntA2_c (va vb vc vd : Int) : PCalls Tryd.prog 28 [.agg [.int .i64 va, .int .i64 vb], .agg [.int .i64 vc, .int .i64 vd]] (· = [.val (.bool (decide (va = vc ∧ vb = vd)))]) := by
  refine pcalls_of_code (n := 17) az Tryd.func28 (by kernel_rfl) rfl rfl (Nat.le_of_ble_eq_true rfl) (by intro t u h; simp [Tryd.f28] at h) ?_
  refine code_seq (fun K1 hK1 => ?_)
  refine code_region ?_
  refine list_cons rfl (op_box rfl (.inl ⟨rfl, rfl⟩) (by decide) (by decide) rfl ?_)
  refine list_cons rfl (op_box rfl (.inl ⟨rfl, rfl⟩) (by decide) (by decide) rfl ?_)
  refine list_cons rfl (op_q (q_assign rfl (by decide)) ?_)
  refine list_nil ?_
  refine hK1 _ ?_; clear hK1 K1
  refine code_seq (fun K2 hK2 => ?_)
  refine code_seq (fun K3 hK3 => ?_)
  refine code_region ?_
  refine list_cons rfl (op_q (q_assign rfl (by decide)) ?_)
  refine list_nil ?_
  refine hK3 _ ?_; clear hK3 K3
  refine code_block ?_
  refine code_loop (X := Bool × Int) (fun x => [(0, .val (.agg [.int .i64 va, .int .i64 vb])), (1, .val (.agg [.int .i64 vc, .int .i64 vd])), (2, .box 2 40 [.int .i64 va, .int .i64 vb]), (3, .box 3 40 [.int .i64 vc, .int .i64 vd]), (4, .val (.bool x.1)), (5, .val (.int .i64 x.2))]) (fun x => 0 ≤ x.2 ∧ x.2 ≤ 2 ∧ (0 < x.2 → va = vc) ∧ (1 < x.2 → vb = vd)) (fun x => (2 - x.2).toNat) (_, _) (imp_covers ⟨rfl, rfl, rfl, rfl, rfl, rfl, trivial⟩) ?_ ?_
  · (try dsimp only)
    exact ⟨by omega, by omega, fun h => by omega, fun h => by omega⟩
  · intro x hI
    obtain ⟨t4, i⟩ := x
    replace hI : 0 ≤ i ∧ i ≤ 2 ∧ (0 < i → va = vc) ∧ (1 < i → vb = vd) := hI
    show codeT _ _ _ [(0, .val (.agg [.int .i64 va, .int .i64 vb])), (1, .val (.agg [.int .i64 vc, .int .i64 vd])), (2, .box 2 40 [.int .i64 va, .int .i64 vb]), (3, .box 3 40 [.int .i64 vc, .int .i64 vd]), (4, .val (.bool t4)), (5, .val (.int .i64 i))] _
    obtain ⟨i1, i2, i3, i4⟩ := hI
    refine code_seq (fun K4 hK4 => ?_)
    refine code_seq (fun K5 hK5 => ?_)
    refine code_region ?_
    refine list_cons rfl (op_q (q_move rfl (by decide)) ?_)
    refine list_cons rfl (op_q (q_lt rfl rfl (by decide)) ?_)
    refine list_nil ?_
    refine hK5 _ ?_; clear hK5 K5
    refine code_cond_d rfl (fun h1 => ?_) (fun h1 => ?_)
    · skip
      (try simp only [Decidable.not_not] at h1)
      refine code_skip ?_
      refine hK4 _ ?_; clear hK4 K4
      refine code_seq (fun K6 hK6 => ?_)
      refine code_block ?_
      refine code_seq (fun K7 hK7 => ?_)
      refine code_draw (by kernel_rfl) (by kernel_rfl) ?_
      refine draw_q rfl (q_move rfl (by decide)) ?_
      refine draw_q rfl (q_indexAddr_arr arr_40 rfl rfl rfl (by omega) (by omega) (by decide)) ?_
      refine draw_q rfl (q_load one_3 2 rfl rfl rfl (get2 _ _ (by omega) (by omega)) (by decide)) ?_
      refine draw_q rfl (q_move rfl (by decide)) ?_
      refine draw_q rfl (q_indexAddr_arr arr_40 rfl rfl rfl (by omega) (by omega) (by decide)) ?_
      refine draw_q rfl (q_load one_3 3 rfl rfl rfl (get2 _ _ (by omega) (by omega)) (by decide)) ?_
      refine draw_q rfl (q_ne rfl rfl (by decide)) ?_
      refine draw_nil ?_
      refine hK7 _ ?_; clear hK7 K7
      refine codeT.imp (σ' := [(0, _), (1, _), (2, _), (3, _), (4, _), (5, _), (16, _)]) ?_ (imp_covers ⟨rfl, rfl, rfl, rfl, rfl, rfl, rfl, trivial⟩)
      refine code_cond_d rfl (fun h2 => ?_) (fun h2 => ?_)
      · skip
        (try simp only [Decidable.not_not] at h2)
        refine code_seq (fun K8 hK8 => ?_)
        refine code_region ?_
        refine list_cons rfl (op_q (q_assign rfl (by decide)) ?_)
        refine list_nil ?_
        refine hK8 _ ?_; clear hK8 K8
        refine code_ret ?_
        refine blk_r ?_
        refine then_r ?_; clear hK6 K6
        refine then_r ?_
        refine blk_r ?_
        refine then_r ?_; clear hK2 K2
        refine ends_ret (cs := []) rfl rfl rfl rfl trivial ?_
        first
          | (rw [decide_eq_true ⟨i3 (by omega), i4 (by omega)⟩]; done)
          | (rw [decide_eq_false (fun e => h2 (by rw [e.1, e.2]))])
      (try simp only [Decidable.not_not] at h2)
      refine code_skip ?_
      refine blk_n ?_
      refine hK6 _ ?_; clear hK6 K6
      refine code_region ?_
      refine list_cons rfl (op_q (q_move rfl (by decide)) ?_)
      refine list_cons rfl (op_q (by first | exact q_addI rfl rfl (by decide) (by omega) (by omega) | exact q_ib rfl rfl rfl (by decide)) ?_)
      refine list_cons rfl (op_q (q_assign rfl (by decide)) ?_)
      refine list_nil ?_
      refine then_n ⟨(_, _), imp_covers ⟨rfl, rfl, rfl, rfl, rfl, rfl, trivial⟩, ?_, ?_⟩
      · (try dsimp only)
        refine ⟨by omega, by omega, fun _ => ?_, fun _ => ?_⟩
        · by_cases e : i = 0
          · have hx := h2
            rw [if_pos e, if_pos e] at hx; exact hx
          · exact i3 (by omega)
        · have hx := h2
          rw [if_neg (by omega), if_neg (by omega)] at hx; exact hx
      · (try dsimp only); omega
    (try simp only [Decidable.not_not] at h1)
    refine code_exit ?_
    refine then_x ?_; clear hK4 K4
    refine then_x ?_
    refine blk_hit ?_
    refine hK2 _ ?_; clear hK2 K2
    refine code_seq (fun K9 hK9 => ?_)
    refine code_region ?_
    refine list_cons rfl (op_q (q_assign rfl (by decide)) ?_)
    refine list_nil ?_
    refine hK9 _ ?_; clear hK9 K9
    refine code_ret ?_
    refine ends_ret (cs := []) rfl rfl rfl rfl trivial ?_
    first
      | (rw [decide_eq_true ⟨i3 (by omega), i4 (by omega)⟩]; done)
      | (rw [decide_eq_false (fun e => h1 (by rw [e.1, e.2]))])
theorem eqIntA2E (cs ds : List PV) (x y z w : Int) (h : cs = [.int .i64 x, .int .i64 y]) (k : ds = [.int .i64 z, .int .i64 w]) : PCalls Tryd.prog 28 [.agg cs, .agg ds] (· = [.val (.bool (decide (x = z ∧ y = w)))]) := by subst h; subst k; exact eqIntA2_c x y z w
set_option maxRecDepth 4000 in
theorem eqIntA2S_c (fs gs : List (Int × Int)) (hf : fs.length ≤ 4611686018427387904) : PCalls Tryd.prog 13 [.sl fs.length (fl fs), .sl gs.length (fl gs)] (· = [.val (.bool (decide (fs = gs)))]) := by
  refine pcalls_of_code (n := 27) az Tryd.func13 (by kernel_rfl) rfl rfl (Nat.le_of_ble_eq_true rfl) (by intro t u h; simp [Tryd.f13] at h) ?_
  have hfl := fl_len fs
  have hfla := fl_flat fs
  have hgl := fl_len gs
  have hgla := fl_flat gs
  refine code_seq (fun K1 hK1 => ?_)
  refine code_region ?_
  refine list_cons rfl (op_q (q_assign rfl (by decide)) ?_)
  refine list_nil ?_
  refine hK1 _ ?_; clear hK1 K1
  refine code_seq (fun K2 hK2 => ?_)
  refine code_seq (fun K3 hK3 => ?_)
  refine code_region ?_
  refine list_cons rfl (op_q (q_move rfl (by decide)) ?_)
  refine list_cons rfl (op_q (q_len_sl Tryd.underlying29 rfl rfl (by decide)) ?_)
  refine list_cons rfl (op_q (q_move rfl (by decide)) ?_)
  refine list_cons rfl (op_q (q_len_sl Tryd.underlying29 rfl rfl (by decide)) ?_)
  refine list_cons rfl (op_q (q_ne rfl rfl (by decide)) ?_)
  refine list_nil ?_
  refine hK3 _ ?_; clear hK3 K3
  refine code_cond_d rfl (fun h1 => ?_) (fun h1 => ?_)
  · skip
    (try simp only [Decidable.not_not] at h1)
    refine code_seq (fun K4 hK4 => ?_)
    refine code_region ?_
    refine list_cons rfl (op_q (q_assign rfl (by decide)) ?_)
    refine list_nil ?_
    refine hK4 _ ?_; clear hK4 K4
    refine code_ret ?_
    refine then_r ?_; clear hK2 K2
    refine ends_ret (cs := []) rfl rfl rfl rfl trivial ?_
    rw [decide_eq_false (fun e => h1 (by rw [e]))]
  (try simp only [Decidable.not_not] at h1)
  refine code_skip ?_
  refine hK2 _ ?_; clear hK2 K2
  refine code_seq (fun K5 hK5 => ?_)
  refine code_seq (fun K6 hK6 => ?_)
  refine code_region ?_
  refine list_cons rfl (op_q (q_assign rfl (by decide)) ?_)
  refine list_nil ?_
  refine hK6 _ ?_; clear hK6 K6
  refine code_block ?_
  refine code_loop (X := Bool × Int) (fun x => [(0, .par 0 (.sl fs.length (fl fs))), (1, .par 1 (.sl gs.length (fl gs))), (4, .val (.bool x.1)), (5, .val (.int .i64 x.2))]) (fun x => 0 ≤ x.2 ∧ x.2 ≤ fs.length ∧ ∀ j, j < x.2.toNat → fs.getD j (0, 0) = gs.getD j (0, 0)) (fun x => fs.length - x.2.toNat) (_, _) (imp_covers ⟨rfl, rfl, rfl, rfl, trivial⟩) ?_ ?_
  · (try dsimp only)
    refine ⟨by omega, by omega, fun j hj => by simp at hj⟩
  · intro x hI
    obtain ⟨t4, i⟩ := x
    replace hI : 0 ≤ i ∧ i ≤ fs.length ∧ ∀ j, j < i.toNat → fs.getD j (0, 0) = gs.getD j (0, 0) := hI
    show codeT _ _ _ [(0, .par 0 (.sl fs.length (fl fs))), (1, .par 1 (.sl gs.length (fl gs))), (4, .val (.bool t4)), (5, .val (.int .i64 i))] _
    obtain ⟨i1, i2, i3⟩ := hI
    refine code_seq (fun K7 hK7 => ?_)
    refine code_seq (fun K8 hK8 => ?_)
    refine code_region ?_
    refine list_cons rfl (op_q (q_move rfl (by decide)) ?_)
    refine list_cons rfl (op_q (q_move rfl (by decide)) ?_)
    refine list_cons rfl (op_q (q_len_sl Tryd.underlying29 rfl rfl (by decide)) ?_)
    refine list_cons rfl (op_q (q_lt rfl rfl (by decide)) ?_)
    refine list_nil ?_
    refine hK8 _ ?_; clear hK8 K8
    refine code_cond_d rfl (fun h2 => ?_) (fun h2 => ?_)
    · skip
      (try simp only [Decidable.not_not] at h2)
      refine code_skip ?_
      refine hK7 _ ?_; clear hK7 K7
      refine code_seq (fun K9 hK9 => ?_)
      refine code_block ?_
      refine code_seq (fun K10 hK10 => ?_)
      refine code_draw (by kernel_rfl) (by kernel_rfl) ?_
      refine draw_q rfl (q_move rfl (by decide)) ?_
      refine draw_q rfl (q_move rfl (by decide)) ?_
      refine draw_q rfl (q_indexAddr_rd sl_29 rfl (.inl ⟨_, rfl, rfl⟩) rfl (by omega) (by omega) (by decide)) ?_
      refine draw_q rfl (q_load_rd_agg agg_40 rfl (.inl ⟨_, rfl⟩) (by first | decide | omega | exact Nat.le_refl _ | (simp; done) | (simp; omega)) (by first | rfl | exact flat_part (by assumption) _ _) (by decide)) ?_
      refine draw_q rfl (q_move rfl (by decide)) ?_
      refine draw_q rfl (q_move rfl (by decide)) ?_
      refine draw_q rfl (q_indexAddr_rd sl_29 rfl (.inl ⟨_, rfl, rfl⟩) rfl (by omega) (by omega) (by decide)) ?_
      refine draw_q rfl (q_load_rd_agg agg_40 rfl (.inl ⟨_, rfl⟩) (by first | decide | omega | exact Nat.le_refl _ | (simp; done) | (simp; omega)) (by first | rfl | exact flat_part (by assumption) _ _) (by decide)) ?_
      refine draw_call _ (eqIntA2E _ _ _ _ _ _ (fl_at fs i.toNat (by omega)) (fl_at gs i.toNat (by omega))) rfl rfl rfl (by decide) ?_
      refine draw_q rfl (by first | exact q_notd rfl (by decide) | exact q_not rfl (by decide)) ?_
      refine draw_nil ?_
      refine hK10 _ ?_; clear hK10 K10
      refine codeT.imp (σ' := [(0, _), (1, _), (4, _), (5, _), (26, _)]) ?_ (imp_covers ⟨rfl, rfl, rfl, rfl, rfl, trivial⟩)
      refine code_cond_d rfl (fun h3 => ?_) (fun h3 => ?_)
      · skip
        (try simp only [Decidable.not_not] at h3)
        refine code_seq (fun K11 hK11 => ?_)
        refine code_region ?_
        refine list_cons rfl (op_q (q_assign rfl (by decide)) ?_)
        refine list_nil ?_
        refine hK11 _ ?_; clear hK11 K11
        refine code_ret ?_
        refine blk_r ?_
        refine then_r ?_; clear hK9 K9
        refine then_r ?_
        refine blk_r ?_
        refine then_r ?_; clear hK5 K5
        refine ends_ret (cs := []) rfl rfl rfl rfl trivial ?_
        rw [decide_eq_false (list_ne_ofI (0, 0) i.toNat fun e => h3 ⟨by rw [e], by rw [e]⟩)]
      (try simp only [Decidable.not_not] at h3)
      refine code_skip ?_
      refine blk_n ?_
      refine hK9 _ ?_; clear hK9 K9
      refine code_region ?_
      refine list_cons rfl (op_q (q_move rfl (by decide)) ?_)
      refine list_cons rfl (op_q (by first | exact q_addI rfl rfl (by decide) (by omega) (by omega) | exact q_ib rfl rfl rfl (by decide)) ?_)
      refine list_cons rfl (op_q (q_assign rfl (by decide)) ?_)
      refine list_nil ?_
      refine then_n ⟨(_, _), imp_covers ⟨rfl, rfl, rfl, rfl, trivial⟩, ?_, ?_⟩
      · (try dsimp only)
        refine ⟨by omega, by omega, fun j hj => ?_⟩
        by_cases e : j = i.toNat
        · subst e; exact Prod.ext h3.1 h3.2
        · exact i3 j (by omega)
      · (try dsimp only); omega
    (try simp only [Decidable.not_not] at h2)
    refine code_exit ?_
    refine then_x ?_; clear hK7 K7
    refine then_x ?_
    refine blk_hit ?_
    refine hK5 _ ?_; clear hK5 K5
    refine code_seq (fun K12 hK12 => ?_)
    refine code_region ?_
    refine list_cons rfl (op_q (q_assign rfl (by decide)) ?_)
    refine list_nil ?_
    refine hK12 _ ?_; clear hK12 K12
    refine code_ret ?_
    refine ends_ret (cs := []) rfl rfl rfl rfl trivial ?_
    rw [decide_eq_true (list_eq_ofI (0, 0) fs gs (by omega) fun j hj => i3 j (by omega))]
set_option maxRecDepth 4000 in
theorem heldIntA2S_c (n : Nat) (k : Int) (hl : n ≤ 1048576) (p0 : -1099511627776 ≤ k) (p1 : k ≤ 1099511627776) : PCalls Tryd.prog 15 [.sl n (fl (markF n k)), .int .i64 k] (· = [.val (.int .i64 (k + 2 * n))]) := by
  refine pcalls_of_code (n := 28) az Tryd.func15 (by kernel_rfl) rfl rfl (Nat.le_of_ble_eq_true rfl) (by intro t u h; simp [Tryd.f15] at h) ?_
  have hL := markF_len n k
  have hL2 := fl_len (markF n k)
  have hfla := fl_flat (markF n k)
  refine code_seq (fun K1 hK1 => ?_)
  refine code_region ?_
  refine list_cons rfl (op_q (q_assign rfl (by decide)) ?_)
  refine list_nil ?_
  refine hK1 _ ?_; clear hK1 K1
  refine code_seq (fun K2 hK2 => ?_)
  refine code_seq (fun K3 hK3 => ?_)
  refine code_region ?_
  refine list_cons rfl (op_q (q_assign rfl (by decide)) ?_)
  refine list_nil ?_
  refine hK3 _ ?_; clear hK3 K3
  refine code_block ?_
  refine code_loop (X := Int × Int × Int) (fun x => [(0, .par 0 (.sl n (fl (markF n k)))), (1, .val (.int .i64 x.1)), (4, .val (.int .i64 x.2.1)), (5, .val (.int .i64 x.2.2))]) (fun x => 0 ≤ x.2.2 ∧ x.2.2 ≤ n ∧ x.1 = k + 2 * x.2.2) (fun x => n - x.2.2.toNat) (_, _, _) (imp_covers ⟨rfl, rfl, rfl, rfl, trivial⟩) ?_ ?_
  · (try dsimp only)
    refine ⟨by omega, by omega, by omega⟩
  · intro x hI
    obtain ⟨k_, t4, i⟩ := x
    replace hI : 0 ≤ i ∧ i ≤ n ∧ k_ = k + 2 * i := hI
    show codeT _ _ _ [(0, .par 0 (.sl n (fl (markF n k)))), (1, .val (.int .i64 k_)), (4, .val (.int .i64 t4)), (5, .val (.int .i64 i))] _
    obtain ⟨i1, i2, rfl⟩ := hI
    refine code_seq (fun K4 hK4 => ?_)
    refine code_seq (fun K5 hK5 => ?_)
    refine code_region ?_
    refine list_cons rfl (op_q (q_move rfl (by decide)) ?_)
    refine list_cons rfl (op_q (q_move rfl (by decide)) ?_)
    refine list_cons rfl (op_q (q_len_sl Tryd.underlying29 rfl rfl (by decide)) ?_)
    refine list_cons rfl (op_q (q_lt rfl rfl (by decide)) ?_)
    refine list_nil ?_
    refine hK5 _ ?_; clear hK5 K5
    refine code_cond_d rfl (fun h1 => ?_) (fun h1 => ?_)
    · skip
      (try simp only [Decidable.not_not] at h1)
      refine code_skip ?_
      refine hK4 _ ?_; clear hK4 K4
      refine code_seq (fun K6 hK6 => ?_)
      refine code_block ?_
      refine code_seq (fun K7 hK7 => ?_)
      refine code_region ?_
      refine list_cons rfl (op_q (q_assign rfl (by decide)) ?_)
      refine list_nil ?_
      refine hK7 _ ?_; clear hK7 K7
      refine code_block ?_
      refine code_loop (X := Int × Int × Int) (fun x => [(0, .par 0 (.sl n (fl (markF n k)))), (1, .val (.int .i64 x.1)), (4, .val (.int .i64 x.2.1)), (5, .val (.int .i64 i)), (6, .val (.int .i64 x.2.2))]) (fun x => 0 ≤ x.2.2 ∧ x.2.2 ≤ 2 ∧ x.1 = k + 2 * i + x.2.2) (fun x => (2 - x.2.2).toNat) (_, _, _) (imp_covers ⟨rfl, rfl, rfl, rfl, rfl, trivial⟩) ?_ ?_
      · (try dsimp only)
        refine ⟨by omega, by omega, by omega⟩
      · intro x hI
        obtain ⟨k_, t4, j⟩ := x
        replace hI : 0 ≤ j ∧ j ≤ 2 ∧ k_ = k + 2 * i + j := hI
        show codeT _ _ _ [(0, .par 0 (.sl n (fl (markF n k)))), (1, .val (.int .i64 k_)), (4, .val (.int .i64 t4)), (5, .val (.int .i64 i)), (6, .val (.int .i64 j))] _
        obtain ⟨j1, j2, rfl⟩ := hI
        refine code_seq (fun K8 hK8 => ?_)
        refine code_seq (fun K9 hK9 => ?_)
        refine code_region ?_
        refine list_cons rfl (op_q (q_move rfl (by decide)) ?_)
        refine list_cons rfl (op_q (q_lt rfl rfl (by decide)) ?_)
        refine list_nil ?_
        refine hK9 _ ?_; clear hK9 K9
        refine code_cond_d rfl (fun h2 => ?_) (fun h2 => ?_)
        · skip
          (try simp only [Decidable.not_not] at h2)
          refine code_skip ?_
          refine hK8 _ ?_; clear hK8 K8
          refine code_seq (fun K10 hK10 => ?_)
          refine code_block ?_
          refine code_seq (fun K11 hK11 => ?_)
          refine code_seq (fun K12 hK12 => ?_)
          refine code_region ?_
          refine list_cons rfl (op_q (q_move rfl (by decide)) ?_)
          refine list_cons rfl (op_q (q_move rfl (by decide)) ?_)
          refine list_cons rfl (op_q (q_move rfl (by decide)) ?_)
          refine list_cons rfl (op_q (q_indexAddr_rd sl_29 rfl (.inl ⟨_, rfl, rfl⟩) rfl (by omega) (by omega) (by decide)) ?_)
          refine list_cons rfl (op_q (q_indexAddr_arr arr_40 rfl rfl rfl (by omega) (by omega) (by decide)) ?_)
          refine list_cons rfl (op_q (q_load_rd one_3 rfl (.inl ⟨_, (congrArg (SV.rpar _) (fl_dropj _ _ (by omega) (by omega) (by omega))), rfl⟩) (by decide)) ?_)
          refine list_cons rfl (op_q (q_move rfl (by decide)) ?_)
          refine list_cons rfl (op_q (q_ne rfl rfl (by decide)) ?_)
          refine list_nil ?_
          refine hK12 _ ?_; clear hK12 K12
          refine codeT.imp (σ' := [(0, _), (1, _), (4, _), (5, _), (6, _), (24, _)]) ?_ (imp_covers ⟨rfl, rfl, rfl, rfl, rfl, rfl, trivial⟩)
          refine code_cond_d rfl (fun h3 => ?_) (fun h3 => ?_)
          · skip
            (try simp only [Decidable.not_not] at h3)
            refine code_seq (fun K13 hK13 => ?_)
            refine code_region ?_
            refine list_cons rfl (op_q (q_assign rfl (by decide)) ?_)
            refine list_nil ?_
            refine hK13 _ ?_; clear hK13 K13
            refine code_ret ?_
            refine then_r ?_; clear hK11 K11
            refine blk_r ?_
            refine then_r ?_; clear hK10 K10
            refine then_r ?_
            refine blk_r ?_
            refine blk_r ?_
            refine then_r ?_; clear hK6 K6
            refine then_r ?_
            refine blk_r ?_
            refine then_r ?_; clear hK2 K2
            refine ends_ret (cs := []) rfl rfl rfl rfl trivial ?_
            first
              | (rw [show i = n by omega]; done)
              | (exfalso
                 refine h3 ?_
                 rw [markF_get n k (by omega)]
                 by_cases e : j = 0
                 · rw [if_pos e]; show k + 2 * ((i.toNat : Nat) : Int) = _; omega
                 · rw [if_neg e]; show k + 2 * ((i.toNat : Nat) : Int) + 1 = _; omega)
          (try simp only [Decidable.not_not] at h3)
          refine code_skip ?_
          refine hK11 _ ?_; clear hK11 K11
          refine code_region ?_
          refine list_cons rfl (op_q (q_move rfl (by decide)) ?_)
          refine list_cons rfl (op_q (by first | exact q_addI rfl rfl (by decide) (by omega) (by omega) | exact q_ib rfl rfl rfl (by decide)) ?_)
          refine list_cons rfl (op_q (q_assign rfl (by decide)) ?_)
          refine list_nil ?_
          refine blk_n ?_
          refine hK10 _ ?_; clear hK10 K10
          refine code_region ?_
          refine list_cons rfl (op_q (q_move rfl (by decide)) ?_)
          refine list_cons rfl (op_q (by first | exact q_addI rfl rfl (by decide) (by omega) (by omega) | exact q_ib rfl rfl rfl (by decide)) ?_)
          refine list_cons rfl (op_q (q_assign rfl (by decide)) ?_)
          refine list_nil ?_
          refine then_n ⟨(_, _, _), imp_covers ⟨rfl, rfl, rfl, rfl, rfl, trivial⟩, ?_, ?_⟩
          · (try dsimp only)
            refine ⟨by omega, by omega, by omega⟩
          · (try dsimp only); omega
        (try simp only [Decidable.not_not] at h2)
        refine code_exit ?_
        refine then_x ?_; clear hK8 K8
        refine then_x ?_
        refine blk_hit ?_
        refine blk_n ?_
        refine hK6 _ ?_; clear hK6 K6
        refine code_region ?_
        refine list_cons rfl (op_q (q_move rfl (by decide)) ?_)
        refine list_cons rfl (op_q (by first | exact q_addI rfl rfl (by decide) (by omega) (by omega) | exact q_ib rfl rfl rfl (by decide)) ?_)
        refine list_cons rfl (op_q (q_assign rfl (by decide)) ?_)
        refine list_nil ?_
        refine then_n ⟨(_, _, _), imp_covers ⟨rfl, rfl, rfl, rfl, trivial⟩, ?_, ?_⟩
        · (try dsimp only)
          refine ⟨by omega, by omega, by omega⟩
        · (try dsimp only); omega
    (try simp only [Decidable.not_not] at h1)
    refine code_exit ?_
    refine then_x ?_; clear hK4 K4
    refine then_x ?_
    refine blk_hit ?_
    refine hK2 _ ?_; clear hK2 K2
    refine code_seq (fun K14 hK14 => ?_)
    refine code_region ?_
    refine list_cons rfl (op_q (q_move rfl (by decide)) ?_)
    refine list_cons rfl (op_q (q_assign rfl (by decide)) ?_)
    refine list_nil ?_
    refine hK14 _ ?_; clear hK14 K14
    refine code_ret ?_
    refine ends_ret (cs := []) rfl rfl rfl rfl trivial ?_
    first
      | (rw [show i = n by omega]; done)
      | (exfalso
         refine h1 ?_
         rw [markF_get n k (by omega)]
         by_cases e : j = 0
         · rw [if_pos e]; show k + 2 * ((i.toNat : Nat) : Int) = _; omega
         · rw [if_neg e]; show k + 2 * ((i.toNat : Nat) : Int) + 1 = _; omega)
set_option maxRecDepth 4000 in
theorem markIntA2S_c (fs : List (Int × Int)) (k : Int) (hl : fs.length ≤ 1048576) (p0 : -1099511627776 ≤ k) (p1 : k ≤ 1099511627776) : MCalls Tryd.prog 14 false (some (.own 40 2 fs.length (fl fs))) [.int .i64 k] fun rs cs => rs = [.val (.int .i64 (k + 2 * fs.length))] ∧ cs = fl (markF fs.length k) := by
  refine mcalls_of_code (n := 26) az Tryd.func14 (by kernel_rfl) rfl rfl (Nat.le_of_ble_eq_true rfl) (by intro t u h; simp [Tryd.f14] at h) ?_
  have hfl := fl_len fs
  refine code_seq (fun K1 hK1 => ?_)
  refine code_region ?_
  refine list_cons rfl (op_q (q_assign rfl (by decide)) ?_)
  refine list_nil ?_
  refine hK1 _ ?_; clear hK1 K1
  refine code_seq (fun K2 hK2 => ?_)
  refine code_seq (fun K3 hK3 => ?_)
  refine code_region ?_
  refine list_cons rfl (op_q (q_assign rfl (by decide)) ?_)
  refine list_nil ?_
  refine hK3 _ ?_; clear hK3 K3
  refine code_block ?_
  refine code_loop (X := Nat × List PV × Int × Int × Int) (fun x => [(0, .own 2000 40 2 x.1 x.2.1), (1, .val (.int .i64 x.2.2.1)), (4, .val (.int .i64 x.2.2.2.1)), (5, .val (.int .i64 x.2.2.2.2))]) (fun x => 0 ≤ x.2.2.2.2 ∧ x.2.2.2.2 ≤ fs.length ∧ x.2.2.1 = k + 2 * x.2.2.2.2 ∧ x.1 = fs.length ∧ x.2.1 = fl (markF x.2.2.2.2.toNat k ++ fs.drop x.2.2.2.2.toNat)) (fun x => fs.length - x.2.2.2.2.toNat) (_, _, _, _, _) (imp_covers ⟨rfl, rfl, rfl, rfl, trivial⟩) ?_ ?_
  · (try dsimp only)
    refine ⟨by omega, by omega, by omega, rfl, rfl⟩
  · intro x hI
    obtain ⟨a_n, a_c, k_, t4, i⟩ := x
    replace hI : 0 ≤ i ∧ i ≤ fs.length ∧ k_ = k + 2 * i ∧ a_n = fs.length ∧ a_c = fl (markF i.toNat k ++ fs.drop i.toNat) := hI
    show codeT _ _ _ [(0, .own 2000 40 2 a_n a_c), (1, .val (.int .i64 k_)), (4, .val (.int .i64 t4)), (5, .val (.int .i64 i))] _
    obtain ⟨i1, i2, rfl, rfl, rfl⟩ := hI
    refine code_seq (fun K4 hK4 => ?_)
    refine code_seq (fun K5 hK5 => ?_)
    refine code_region ?_
    refine list_cons rfl (op_q (q_move rfl (by decide)) ?_)
    refine list_cons rfl (op_q (q_move rfl (by decide)) ?_)
    refine list_cons rfl (op_q (q_len_sl Tryd.underlying29 rfl rfl (by decide)) ?_)
    refine list_cons rfl (op_q (q_lt rfl rfl (by decide)) ?_)
    refine list_nil ?_
    refine hK5 _ ?_; clear hK5 K5
    refine code_cond_d rfl (fun h1 => ?_) (fun h1 => ?_)
    · skip
      (try simp only [Decidable.not_not] at h1)
      refine code_skip ?_
      refine hK4 _ ?_; clear hK4 K4
      refine code_seq (fun K6 hK6 => ?_)
      refine code_block ?_
      refine code_seq (fun K7 hK7 => ?_)
      refine code_region ?_
      refine list_cons rfl (op_q (q_assign rfl (by decide)) ?_)
      refine list_nil ?_
      refine hK7 _ ?_; clear hK7 K7
      refine code_block ?_
      refine code_loop (X := Nat × List PV × Int × Int × Int) (fun x => [(0, .own 2000 40 2 x.1 x.2.1), (1, .val (.int .i64 x.2.2.1)), (4, .val (.int .i64 x.2.2.2.1)), (5, .val (.int .i64 i)), (6, .val (.int .i64 x.2.2.2.2))]) (fun x => 0 ≤ x.2.2.2.2 ∧ x.2.2.2.2 ≤ 2 ∧ x.2.2.1 = k + 2 * i + x.2.2.2.2 ∧ x.1 = fs.length ∧ x.2.1 = mk2 fs k i.toNat x.2.2.2.2) (fun x => (2 - x.2.2.2.2).toNat) (_, _, _, _, _) (imp_covers ⟨rfl, rfl, rfl, rfl, rfl, trivial⟩) ?_ ?_
      · (try dsimp only)
        exact ⟨by omega, by omega, by omega, rfl, rfl⟩
      · intro x hI
        obtain ⟨a_n, a_c, k_, t4, j⟩ := x
        replace hI : 0 ≤ j ∧ j ≤ 2 ∧ k_ = k + 2 * i + j ∧ a_n = fs.length ∧ a_c = mk2 fs k i.toNat j := hI
        show codeT _ _ _ [(0, .own 2000 40 2 a_n a_c), (1, .val (.int .i64 k_)), (4, .val (.int .i64 t4)), (5, .val (.int .i64 i)), (6, .val (.int .i64 j))] _
        obtain ⟨j1, j2, rfl, rfl, rfl⟩ := hI
        refine code_seq (fun K8 hK8 => ?_)
        refine code_seq (fun K9 hK9 => ?_)
        refine code_region ?_
        refine list_cons rfl (op_q (q_move rfl (by decide)) ?_)
        refine list_cons rfl (op_q (q_lt rfl rfl (by decide)) ?_)
        refine list_nil ?_
        refine hK9 _ ?_; clear hK9 K9
        refine code_cond_d rfl (fun h2 => ?_) (fun h2 => ?_)
        · skip
          (try simp only [Decidable.not_not] at h2)
          refine code_skip ?_
          refine hK8 _ ?_; clear hK8 K8
          refine code_seq (fun K10 hK10 => ?_)
          refine code_block ?_
          refine code_seq (fun K11 hK11 => ?_)
          refine code_region ?_
          refine list_cons rfl (op_q (q_move rfl (by decide)) ?_)
          refine list_cons rfl (op_q (q_move rfl (by decide)) ?_)
          refine list_cons rfl (op_q (q_move rfl (by decide)) ?_)
          refine list_cons rfl (op_q (q_move rfl (by decide)) ?_)
          refine list_cons rfl (op_q (q_indexAddr_own sl_29 rfl rfl (by omega) (by omega) (by decide)) ?_)
          refine list_cons rfl (op_q (q_indexAddr_arr arr_40 rfl rfl rfl (by omega) (by omega) (by decide)) ?_)
          refine list_cons rfl (op_store (one_3).2 0 [0, 17] (by intro t ht; simp only [List.mem_cons, List.not_mem_nil, or_false] at ht; rcases ht with rfl | rfl <;> rfl) (.inl rfl) rfl rfl rfl rfl rfl rfl (by rw [mk2_len fs k (by omega)]; omega) (by decide) rfl ?_)
          refine list_nil ?_
          refine hK11 _ ?_; clear hK11 K11
          refine codeT.imp (σ' := [(0, _), (1, _), (4, _), (5, _), (6, _)]) ?_ (imp_covers ⟨rfl, rfl, rfl, rfl, rfl, trivial⟩)
          refine code_region ?_
          refine list_cons rfl (op_q (q_move rfl (by decide)) ?_)
          refine list_cons rfl (op_q (by first | exact q_addI rfl rfl (by decide) (by omega) (by omega) | exact q_ib rfl rfl rfl (by decide)) ?_)
          refine list_cons rfl (op_q (q_assign rfl (by decide)) ?_)
          refine list_nil ?_
          refine blk_n ?_
          refine hK10 _ ?_; clear hK10 K10
          refine code_region ?_
          refine list_cons rfl (op_q (q_move rfl (by decide)) ?_)
          refine list_cons rfl (op_q (by first | exact q_addI rfl rfl (by decide) (by omega) (by omega) | exact q_ib rfl rfl rfl (by decide)) ?_)
          refine list_cons rfl (op_q (q_assign rfl (by decide)) ?_)
          refine list_nil ?_
          refine then_n ⟨(_, _, _, _, _), imp_covers ⟨rfl, rfl, rfl, rfl, rfl, trivial⟩, ?_, ?_⟩
          · (try dsimp only)
            refine ⟨by omega, by omega, by omega, rfl, ?_⟩
            have hi : ((i.toNat : Nat) : Int) = i := by omega
            have hp := mk2_put fs k (i := i.toNat) (by omega) (j := j) (by omega) (by omega)
            rw [hi] at hp
            exact hp
          · (try dsimp only); omega
        (try simp only [Decidable.not_not] at h2)
        refine code_exit ?_
        refine then_x ?_; clear hK8 K8
        refine then_x ?_
        refine blk_hit ?_
        refine blk_n ?_
        refine hK6 _ ?_; clear hK6 K6
        refine code_region ?_
        refine list_cons rfl (op_q (q_move rfl (by decide)) ?_)
        refine list_cons rfl (op_q (by first | exact q_addI rfl rfl (by decide) (by omega) (by omega) | exact q_ib rfl rfl rfl (by decide)) ?_)
        refine list_cons rfl (op_q (q_assign rfl (by decide)) ?_)
        refine list_nil ?_
        refine then_n ⟨(_, _, _, _, _), imp_covers ⟨rfl, rfl, rfl, rfl, trivial⟩, ?_, ?_⟩
        · (try dsimp only)
          refine ⟨by omega, by omega, by omega, rfl, ?_⟩
          rw [show (i + 1).toNat = i.toNat + 1 by omega, show j = 2 by omega]; rfl
        · (try dsimp only); omega
    (try simp only [Decidable.not_not] at h1)
    refine code_exit ?_
    refine then_x ?_; clear hK4 K4
    refine then_x ?_
    refine blk_hit ?_
    refine hK2 _ ?_; clear hK2 K2
    refine code_seq (fun K12 hK12 => ?_)
    refine code_region ?_
    refine list_cons rfl (op_q (q_move rfl (by decide)) ?_)
    refine list_cons rfl (op_q (q_assign rfl (by decide)) ?_)
    refine list_nil ?_
    refine hK12 _ ?_; clear hK12 K12
    refine code_ret ?_
    refine ends_ret (cs := _) rfl rfl rfl rfl rfl ?_
    exact ⟨by rw [show i = fs.length by omega], by rw [show i.toNat = fs.length by omega, List.drop_length, List.append_nil]⟩
set_option maxRecDepth 8000 in
set_option maxHeartbeats 2000000 in
theorem FnExactPlayGame_law (r : List Int) (p0 : (∀ n ∈ r, -9223372036854775808 ≤ n ∧ n ≤ 9223372036854775807) ∧ r.length ≤ 9223372036854775807) (l : List Int) (p1 : (∀ n ∈ l, -9223372036854775808 ≤ n ∧ n ≤ 9223372036854775807) ∧ l.length ≤ 9223372036854775807) : PCalls Tryd.prog 4 [.sl r.length (r.map (.int .i64)), .sl l.length (l.map (.int .i64))] (· = [.val (.bool true)]) := by
  refine pcalls_of_code (n := 135) az Tryd.func4 (by kernel_rfl) rfl rfl (Nat.le_of_ble_eq_true rfl) (by intro t u h; simp [Tryd.f4] at h) ?_
  obtain ⟨p0e, p0l⟩ := p0
  obtain ⟨p1e, p1l⟩ := p1
  have nl := gmW_len r l
  refine code_seq (fun K1 hK1 => ?_)
  refine code_region ?_
  refine list_cons rfl (op_q (q_assign rfl (by decide)) ?_)
  refine list_nil ?_
  refine hK1 _ ?_; clear hK1 K1
  refine code_seq (fun K2 hK2 => ?_)
  refine code_seq (fun K3 hK3 => ?_)
  refine code_region ?_
  refine list_cons rfl (op_q (q_move rfl (by decide)) ?_)
  refine list_cons rfl (op_q (q_len_sl Tryd.underlying22 rfl rfl (by decide)) ?_)
  refine list_cons rfl (op_q (q_gt rfl rfl (by decide)) ?_)
  refine list_nil ?_
  refine hK3 _ ?_; clear hK3 K3
  refine code_cond_d rfl (fun h1 => ?_) (fun h1 => ?_)
  · skip
    (try simp only [Decidable.not_not] at h1)
    refine code_seq (fun K4 hK4 => ?_)
    refine code_region ?_
    refine list_cons rfl (op_q (q_assign rfl (by decide)) ?_)
    refine list_nil ?_
    refine hK4 _ ?_; clear hK4 K4
    refine code_ret ?_
    refine then_r ?_; clear hK2 K2
    refine ends_ret (cs := []) rfl rfl rfl rfl trivial ?_
    first | rfl | omega | exact absurd rfl h1 | (exact absurd (by omega) h1) | (simp at h1) | (simp_all) | (exfalso; simp_all; omega)
  (try simp only [Decidable.not_not] at h1)
  refine code_skip ?_
  refine hK2 _ ?_; clear hK2 K2
  refine code_seq (fun K5 hK5 => ?_)
  refine code_seq (fun K6 hK6 => ?_)
  refine code_region ?_
  refine list_cons rfl (op_q (q_move rfl (by decide)) ?_)
  refine list_cons rfl (op_q (q_len_sl Tryd.underlying22 rfl rfl (by decide)) ?_)
  refine list_cons rfl (op_q (q_gt rfl rfl (by decide)) ?_)
  refine list_nil ?_
  refine hK6 _ ?_; clear hK6 K6
  refine code_cond_d rfl (fun h2 => ?_) (fun h2 => ?_)
  · skip
    (try simp only [Decidable.not_not] at h2)
    refine code_seq (fun K7 hK7 => ?_)
    refine code_region ?_
    refine list_cons rfl (op_q (q_assign rfl (by decide)) ?_)
    refine list_nil ?_
    refine hK7 _ ?_; clear hK7 K7
    refine code_ret ?_
    refine then_r ?_; clear hK5 K5
    refine ends_ret (cs := []) rfl rfl rfl rfl trivial ?_
    first | rfl | omega | exact absurd rfl h2 | (exact absurd (by omega) h2) | (simp at h2) | (simp_all) | (exfalso; simp_all; omega)
  (try simp only [Decidable.not_not] at h2)
  refine code_skip ?_
  refine hK5 _ ?_; clear hK5 K5
  refine code_seq (fun K8 hK8 => ?_)
  refine code_region ?_
  refine list_cons rfl (op_q (q_move rfl (by decide)) ?_)
  refine list_cons rfl (op_call _ (toIntS_c _ (by first | omega | (simp; omega))) rfl rfl (by decide) (by decide) (by decide) rfl ?_)
  rintro _ rfl
  refine list_cons rfl (op_q (q_move rfl (by decide)) ?_)
  refine list_cons rfl (op_call _ (toIntS_c _ (by first | omega | (simp; omega))) rfl rfl (by decide) (by decide) (by decide) rfl ?_)
  rintro _ rfl
  refine list_cons rfl (op_call _ (spec_PlayGame _ _ (by omega) (by omega)) rfl rfl (by decide) (by decide) (by decide) rfl ?_)
  rintro _ rfl
  refine list_cons rfl (op_q (q_move rfl (by decide)) ?_)
  refine list_cons rfl (op_q (q_extract rfl rfl (by decide)) ?_)
  refine list_cons rfl (op_q (q_extract rfl rfl (by decide)) ?_)
  refine list_cons rfl (op_q (q_extract rfl rfl (by decide)) ?_)
  refine list_cons rfl (op_q (q_assign rfl (by decide)) ?_)
  refine list_cons rfl (op_q (q_assign rfl (by decide)) ?_)
  refine list_cons rfl (op_q (q_assign rfl (by decide)) ?_)
  refine list_nil ?_
  refine hK8 _ ?_; clear hK8 K8
  refine codeT.imp (σ' := [(0, _), (1, _), (4, _), (5, _), (6, _), (7, _)]) ?_ (imp_covers ⟨rfl, rfl, rfl, rfl, rfl, rfl, trivial⟩)
  refine code_seq (fun K9 hK9 => ?_)
  refine code_region ?_
  refine list_cons rfl (op_q (q_move rfl (by decide)) ?_)
  refine list_cons rfl (op_call _ (toIntS_c _ (by first | omega | (simp; omega))) rfl rfl (by decide) (by decide) (by decide) rfl ?_)
  rintro _ rfl
  refine list_cons rfl (op_q (q_assign rfl (by decide)) ?_)
  refine list_nil ?_
  refine hK9 _ ?_; clear hK9 K9
  refine codeT.imp (σ' := [(0, _), (1, _), (4, _), (5, _), (6, _), (7, _), (8, _)]) ?_ (imp_covers ⟨rfl, rfl, rfl, rfl, rfl, rfl, rfl, trivial⟩)
  refine code_seq (fun K10 hK10 => ?_)
  refine code_region ?_
  refine list_cons rfl (op_q (q_move rfl (by decide)) ?_)
  refine list_cons rfl (op_call _ (toIntS_c _ (by first | omega | (simp; omega))) rfl rfl (by decide) (by decide) (by decide) rfl ?_)
  rintro _ rfl
  refine list_cons rfl (op_q (q_assign rfl (by decide)) ?_)
  refine list_nil ?_
  refine hK10 _ ?_; clear hK10 K10
  refine codeT.imp (σ' := [(0, _), (1, _), (4, _), (5, _), (6, _), (7, _), (8, _), (9, _)]) ?_ (imp_covers ⟨rfl, rfl, rfl, rfl, rfl, rfl, rfl, rfl, trivial⟩)
  refine code_seq (fun K11 hK11 => ?_)
  refine code_region ?_
  refine list_cons rfl (op_q (q_move rfl (by decide)) ?_)
  refine list_cons rfl (op_q (q_move rfl (by decide)) ?_)
  refine list_cons rfl (op_call _ (impl_PlayGame _ _ (by omega) (by omega)) rfl rfl (by decide) (by decide) (by decide) rfl ?_)
  rintro _ rfl
  refine list_cons rfl (op_q (q_move rfl (by decide)) ?_)
  refine list_cons rfl (op_q (q_extract rfl rfl (by decide)) ?_)
  refine list_cons rfl (op_q (q_extract rfl rfl (by decide)) ?_)
  refine list_cons rfl (op_q (q_extract rfl rfl (by decide)) ?_)
  refine list_cons rfl (op_q (q_assign rfl (by decide)) ?_)
  refine list_cons rfl (op_q (q_assign rfl (by decide)) ?_)
  refine list_cons rfl (op_q (q_assign rfl (by decide)) ?_)
  refine list_nil ?_
  refine hK11 _ ?_; clear hK11 K11
  refine codeT.imp (σ' := [(0, _), (1, _), (4, _), (5, _), (6, _), (7, _), (8, _), (9, _), (10, _), (11, _), (12, _)]) ?_ (imp_covers ⟨rfl, rfl, rfl, rfl, rfl, rfl, rfl, rfl, rfl, rfl, rfl, trivial⟩)
  refine code_seq (fun K12 hK12 => ?_)
  refine code_seq (fun K13 hK13 => ?_)
  refine code_region ?_
  refine list_cons rfl (op_q (q_move rfl (by decide)) ?_)
  refine list_cons rfl (op_q (q_move rfl (by decide)) ?_)
  refine list_cons rfl (op_call _ (eqIntA2S_c _ _ (by first | omega | (simp; omega))) rfl rfl (by decide) (by decide) (by decide) rfl ?_)
  rintro _ rfl
  refine list_cons rfl (op_q (by first | exact q_notd rfl (by decide) | exact q_not rfl (by decide)) ?_)
  refine list_cons rfl (op_q (q_move rfl (by decide)) ?_)
  refine list_guard_d rfl rfl rfl rfl (by decide) rfl (by decide) (fun h3 => ?_) (fun h3 => ?_)
  · simp only [Bool.false_eq_true, if_true, if_false, Decidable.not_not] at h3
    refine id (op_q (q_move rfl (by decide)) ?_)
    refine list_guard_y rfl rfl rfl rfl (by decide) rfl ?_
    refine id (op_q (q_move rfl (by decide)) ?_)
    refine list_guard_y rfl rfl rfl rfl (by decide) rfl ?_
    refine id (op_q (q_ne rfl rfl (by decide)) ?_)
    refine list_cons rfl (op_q (q_pick rfl rfl (by decide)) ?_)
    refine list_cons rfl (op_q (q_move rfl (by decide)) ?_)
    refine list_guard_d rfl rfl rfl rfl (by decide) rfl (by decide) (fun h4 => ?_) (fun h4 => ?_)
    · simp only [Bool.false_eq_true, if_true, if_false, Decidable.not_not] at h4
      refine id (op_q (q_move rfl (by decide)) ?_)
      refine list_guard_y rfl rfl rfl rfl (by decide) rfl ?_
      refine id (op_q (q_move rfl (by decide)) ?_)
      refine list_guard_y rfl rfl rfl rfl (by decide) rfl ?_
      refine id (op_q (q_bne Tryd.underlying4 rfl rfl (by decide)) ?_)
      refine list_cons rfl (op_q (q_pick rfl rfl (by decide)) ?_)
      refine list_nil ?_
      refine hK13 _ ?_; clear hK13 K13
      refine codeT.imp (σ' := [(0, _), (1, _), (4, _), (5, _), (6, _), (7, _), (8, _), (9, _), (10, _), (11, _), (12, _), (58, _)]) ?_ (imp_covers ⟨rfl, rfl, rfl, rfl, rfl, rfl, rfl, rfl, rfl, rfl, rfl, rfl, trivial⟩)
      refine code_cond_d rfl (fun h5 => ?_) (fun h5 => ?_)
      · skip
        (try simp only [Decidable.not_not] at h5)
        refine code_seq (fun K14 hK14 => ?_)
        refine code_region ?_
        refine list_cons rfl (op_q (q_assign rfl (by decide)) ?_)
        refine list_nil ?_
        refine hK14 _ ?_; clear hK14 K14
        refine code_ret ?_
        refine then_r ?_; clear hK12 K12
        refine ends_ret (cs := []) rfl rfl rfl rfl trivial ?_
        first | rfl | omega | exact absurd rfl h5 | (exact absurd (by omega) h5) | (simp at h5) | (simp_all) | (exfalso; simp_all; omega)
      (try simp only [Decidable.not_not] at h5)
      refine code_skip ?_
      refine hK12 _ ?_; clear hK12 K12
      refine code_seq (fun K15 hK15 => ?_)
      refine code_seq (fun K16 hK16 => ?_)
      refine code_region ?_
      refine list_cons rfl (op_q (q_move rfl (by decide)) ?_)
      refine list_cons rfl (op_q (q_move rfl (by decide)) ?_)
      refine list_cons rfl (op_call _ (toIntS_c _ (by first | omega | (simp; omega))) rfl rfl (by decide) (by decide) (by decide) rfl ?_)
      rintro _ rfl
      refine list_cons rfl (op_call _ (eqIntS_c _ _ (by first | omega | (simp; omega))) rfl rfl (by decide) (by decide) (by decide) rfl ?_)
      rintro _ rfl
      refine list_cons rfl (op_q (by first | exact q_notd rfl (by decide) | exact q_not rfl (by decide)) ?_)
      refine list_nil ?_
      refine hK16 _ ?_; clear hK16 K16
      refine codeT.imp (σ' := [(0, _), (1, _), (4, _), (5, _), (6, _), (7, _), (8, _), (9, _), (10, _), (11, _), (12, _), (63, _)]) ?_ (imp_covers ⟨rfl, rfl, rfl, rfl, rfl, rfl, rfl, rfl, rfl, rfl, rfl, rfl, trivial⟩)
      refine code_cond_d rfl (fun h6 => ?_) (fun h6 => ?_)
      · skip
        (try simp only [Decidable.not_not] at h6)
        refine code_seq (fun K17 hK17 => ?_)
        refine code_region ?_
        refine list_cons rfl (op_q (q_assign rfl (by decide)) ?_)
        refine list_nil ?_
        refine hK17 _ ?_; clear hK17 K17
        refine code_ret ?_
        refine then_r ?_; clear hK15 K15
        refine ends_ret (cs := []) rfl rfl rfl rfl trivial ?_
        first | rfl | omega | exact absurd rfl h6 | (exact absurd (by omega) h6) | (simp at h6) | (simp_all) | (exfalso; simp_all; omega)
      (try simp only [Decidable.not_not] at h6)
      refine code_skip ?_
      refine hK15 _ ?_; clear hK15 K15
      refine code_seq (fun K18 hK18 => ?_)
      refine code_seq (fun K19 hK19 => ?_)
      refine code_region ?_
      refine list_cons rfl (op_q (q_move rfl (by decide)) ?_)
      refine list_cons rfl (op_q (q_move rfl (by decide)) ?_)
      refine list_cons rfl (op_call _ (toIntS_c _ (by first | omega | (simp; omega))) rfl rfl (by decide) (by decide) (by decide) rfl ?_)
      rintro _ rfl
      refine list_cons rfl (op_call _ (eqIntS_c _ _ (by first | omega | (simp; omega))) rfl rfl (by decide) (by decide) (by decide) rfl ?_)
      rintro _ rfl
      refine list_cons rfl (op_q (by first | exact q_notd rfl (by decide) | exact q_not rfl (by decide)) ?_)
      refine list_nil ?_
      refine hK19 _ ?_; clear hK19 K19
      refine codeT.imp (σ' := [(0, _), (1, _), (4, _), (5, _), (6, _), (7, _), (8, _), (9, _), (10, _), (11, _), (12, _), (68, _)]) ?_ (imp_covers ⟨rfl, rfl, rfl, rfl, rfl, rfl, rfl, rfl, rfl, rfl, rfl, rfl, trivial⟩)
      refine code_cond_d rfl (fun h7 => ?_) (fun h7 => ?_)
      · skip
        (try simp only [Decidable.not_not] at h7)
        refine code_seq (fun K20 hK20 => ?_)
        refine code_region ?_
        refine list_cons rfl (op_q (q_assign rfl (by decide)) ?_)
        refine list_nil ?_
        refine hK20 _ ?_; clear hK20 K20
        refine code_ret ?_
        refine then_r ?_; clear hK18 K18
        refine ends_ret (cs := []) rfl rfl rfl rfl trivial ?_
        first | rfl | omega | exact absurd rfl h7 | (exact absurd (by omega) h7) | (simp at h7) | (simp_all) | (exfalso; simp_all; omega)
      (try simp only [Decidable.not_not] at h7)
      refine code_skip ?_
      refine hK18 _ ?_; clear hK18 K18
      refine code_seq (fun K21 hK21 => ?_)
      refine code_region ?_
      refine list_cons rfl (op_q (q_assign rfl (by decide)) ?_)
      refine list_nil ?_
      refine hK21 _ ?_; clear hK21 K21
      refine code_seq (fun K22 hK22 => ?_)
      refine code_region ?_
      refine list_cons rfl (op_q (q_move rfl (by decide)) ?_)
      refine list_cons rfl (op_q (q_move rfl (by decide)) ?_)
      refine list_cons rfl (op_callM (markIntS_c _ _ ?_ ?_ ?_) (.tmp 69) 35 [8, 69] [.tmp 70] _ rfl rfl (by intro y hy; cases hy; exact ⟨rfl, (by intro t ht; simp only [List.mem_cons, List.not_mem_nil, or_false] at ht; rcases ht with rfl | rfl <;> rfl), (by intro s hs; simp only [List.mem_cons, List.not_mem_nil, or_false] at hs; subst hs; first | (simp [SV.labels]; done) | (simp [SV.labels, packS, SV.back]; done) | exact List.not_mem_nil)⟩) (by decide) (by decide) (by decide) rfl (fun _ => rfl) ?_)
      · first | omega | (simp; omega)
      · omega
      · omega
      rintro _ _ ⟨rfl, rfl⟩
      refine list_cons rfl (op_q (q_assign rfl (by decide)) ?_)
      refine list_nil ?_
      refine hK22 _ ?_; clear hK22 K22
      refine codeT.imp (σ' := [(0, _), (1, _), (4, _), (5, _), (6, _), (7, _), (8, _), (9, _), (10, _), (11, _), (12, _), (13, _)]) ?_ (imp_covers ⟨rfl, rfl, rfl, rfl, rfl, rfl, rfl, rfl, rfl, rfl, rfl, rfl, trivial⟩)
      refine code_seq (fun K23 hK23 => ?_)
      refine code_region ?_
      refine list_cons rfl (op_q (q_move rfl (by decide)) ?_)
      refine list_cons rfl (op_q (q_move rfl (by decide)) ?_)
      refine list_cons rfl (op_callM (markIntS_c _ _ ?_ ?_ ?_) (.tmp 72) 37 [9, 72] [.tmp 73] _ rfl rfl (by intro y hy; cases hy; exact ⟨rfl, (by intro t ht; simp only [List.mem_cons, List.not_mem_nil, or_false] at ht; rcases ht with rfl | rfl <;> rfl), (by intro s hs; simp only [List.mem_cons, List.not_mem_nil, or_false] at hs; subst hs; first | (simp [SV.labels]; done) | (simp [SV.labels, packS, SV.back]; done) | exact List.not_mem_nil)⟩) (by decide) (by decide) (by decide) rfl (fun _ => rfl) ?_)
      · first | omega | (simp; omega)
      · omega
      · omega
      rintro _ _ ⟨rfl, rfl⟩
      refine list_cons rfl (op_q (q_assign rfl (by decide)) ?_)
      refine list_nil ?_
      refine hK23 _ ?_; clear hK23 K23
      refine codeT.imp (σ' := [(0, _), (1, _), (4, _), (5, _), (6, _), (7, _), (8, _), (9, _), (10, _), (11, _), (12, _), (13, _)]) ?_ (imp_covers ⟨rfl, rfl, rfl, rfl, rfl, rfl, rfl, rfl, rfl, rfl, rfl, rfl, trivial⟩)
      refine code_seq (fun K24 hK24 => ?_)
      refine code_seq (fun K25 hK25 => ?_)
      refine code_region ?_
      refine list_cons rfl (op_q (q_move rfl (by decide)) ?_)
      refine list_cons rfl (op_q (q_lt rfl rfl (by decide)) ?_)
      refine list_cons rfl (op_q (q_move rfl (by decide)) ?_)
      refine list_guard_d rfl rfl rfl rfl (by decide) rfl (by decide) (fun h8 => ?_) (fun h8 => ?_)
      · simp only [Bool.false_eq_true, if_true, if_false, Decidable.not_not] at h8
        refine id (op_q (q_move rfl (by decide)) ?_)
        refine list_guard_y rfl rfl rfl rfl (by decide) rfl ?_
        refine id (op_q (q_move rfl (by decide)) ?_)
        refine list_guard_y rfl rfl rfl rfl (by decide) rfl ?_
        refine id (op_call _ (eqIntA2S_c _ _ (by first | omega | (simp; omega))) rfl rfl (by decide) (by decide) (by decide) rfl ?_)
        rintro _ rfl
        refine list_guard_y rfl rfl rfl rfl (by decide) rfl ?_
        refine id (op_q (by first | exact q_notd rfl (by decide) | exact q_not rfl (by decide)) ?_)
        refine list_cons rfl (op_q (q_pick rfl rfl (by decide)) ?_)
        refine list_cons rfl (op_q (q_move rfl (by decide)) ?_)
        refine list_guard_d rfl rfl rfl rfl (by decide) rfl (by decide) (fun h9 => ?_) (fun h9 => ?_)
        · simp only [Bool.false_eq_true, if_true, if_false, Decidable.not_not] at h9
          refine id (op_q (q_move rfl (by decide)) ?_)
          refine list_guard_y rfl rfl rfl rfl (by decide) rfl ?_
          refine id (op_q (q_move rfl (by decide)) ?_)
          refine list_guard_y rfl rfl rfl rfl (by decide) rfl ?_
          refine id (op_q (q_ne rfl rfl (by decide)) ?_)
          refine list_cons rfl (op_q (q_pick rfl rfl (by decide)) ?_)
          refine list_cons rfl (op_q (q_move rfl (by decide)) ?_)
          refine list_guard_d rfl rfl rfl rfl (by decide) rfl (by decide) (fun h10 => ?_) (fun h10 => ?_)
          · simp only [Bool.false_eq_true, if_true, if_false, Decidable.not_not] at h10
            refine id (op_q (q_move rfl (by decide)) ?_)
            refine list_guard_y rfl rfl rfl rfl (by decide) rfl ?_
            refine id (op_q (q_move rfl (by decide)) ?_)
            refine list_guard_y rfl rfl rfl rfl (by decide) rfl ?_
            refine id (op_q (q_bne Tryd.underlying4 rfl rfl (by decide)) ?_)
            refine list_cons rfl (op_q (q_pick rfl rfl (by decide)) ?_)
            refine list_nil ?_
            refine hK25 _ ?_; clear hK25 K25
            refine codeT.imp (σ' := [(0, _), (1, _), (4, _), (5, _), (6, _), (7, _), (8, _), (9, _), (10, _), (11, _), (12, _), (13, _), (92, _)]) ?_ (imp_covers ⟨rfl, rfl, rfl, rfl, rfl, rfl, rfl, rfl, rfl, rfl, rfl, rfl, rfl, trivial⟩)
            refine code_cond_d rfl (fun h11 => ?_) (fun h11 => ?_)
            · skip
              (try simp only [Decidable.not_not] at h11)
              refine code_seq (fun K26 hK26 => ?_)
              refine code_region ?_
              refine list_cons rfl (op_q (q_assign rfl (by decide)) ?_)
              refine list_nil ?_
              refine hK26 _ ?_; clear hK26 K26
              refine code_ret ?_
              refine then_r ?_; clear hK24 K24
              refine ends_ret (cs := []) rfl rfl rfl rfl trivial ?_
              first | rfl | omega | exact absurd rfl h11 | (exact absurd (by omega) h11) | (simp at h11) | (simp_all) | (exfalso; simp_all; omega)
            (try simp only [Decidable.not_not] at h11)
            refine code_skip ?_
            refine hK24 _ ?_; clear hK24 K24
            refine code_seq (fun K27 hK27 => ?_)
            refine code_region ?_
            refine list_cons rfl (op_q (q_assign rfl (by decide)) ?_)
            refine list_nil ?_
            refine hK27 _ ?_; clear hK27 K27
            refine code_seq (fun K28 hK28 => ?_)
            refine code_region ?_
            refine list_cons rfl (op_q (q_move rfl (by decide)) ?_)
            refine list_cons rfl (op_q (q_move rfl (by decide)) ?_)
            refine list_cons rfl (op_callM (markIntA2S_c _ _ ?_ ?_ ?_) (.tmp 93) 41 [10, 93] [.tmp 94] _ rfl rfl (by intro y hy; cases hy; exact ⟨rfl, (by intro t ht; simp only [List.mem_cons, List.not_mem_nil, or_false] at ht; rcases ht with rfl | rfl <;> rfl), (by intro s hs; simp only [List.mem_cons, List.not_mem_nil, or_false] at hs; subst hs; first | (simp [SV.labels]; done) | (simp [SV.labels, packS, SV.back]; done) | exact List.not_mem_nil)⟩) (by decide) (by decide) (by decide) rfl (fun _ => rfl) ?_)
            · first | omega | (simp; omega)
            · omega
            · omega
            rintro _ _ ⟨rfl, rfl⟩
            refine list_cons rfl (op_q (q_assign rfl (by decide)) ?_)
            refine list_nil ?_
            refine hK28 _ ?_; clear hK28 K28
            refine codeT.imp (σ' := [(0, _), (1, _), (4, _), (5, _), (6, _), (7, _), (8, _), (9, _), (10, _), (11, _), (12, _), (13, _), (14, _)]) ?_ (imp_covers ⟨rfl, rfl, rfl, rfl, rfl, rfl, rfl, rfl, rfl, rfl, rfl, rfl, rfl, trivial⟩)
            refine code_seq (fun K29 hK29 => ?_)
            refine code_region ?_
            refine list_cons rfl (op_q (q_assign rfl (by decide)) ?_)
            refine list_nil ?_
            refine hK29 _ ?_; clear hK29 K29
            refine code_seq (fun K30 hK30 => ?_)
            refine code_region ?_
            refine list_cons rfl (op_q (q_move rfl (by decide)) ?_)
            refine list_cons rfl (op_q (q_move rfl (by decide)) ?_)
            refine list_cons rfl (op_call _ (heldIntA2S_c _ _ (by first | omega | (simp; omega)) (by omega) (by omega)) rfl rfl (by decide) (by decide) (by decide) rfl ?_)
            rintro _ rfl
            refine list_cons rfl (op_q (q_assign rfl (by decide)) ?_)
            refine list_nil ?_
            refine hK30 _ ?_; clear hK30 K30
            refine codeT.imp (σ' := [(0, _), (1, _), (4, _), (5, _), (6, _), (7, _), (8, _), (9, _), (10, _), (11, _), (12, _), (13, _), (14, _), (15, _)]) ?_ (imp_covers ⟨rfl, rfl, rfl, rfl, rfl, rfl, rfl, rfl, rfl, rfl, rfl, rfl, rfl, rfl, trivial⟩)
            refine code_seq (fun K31 hK31 => ?_)
            refine code_seq (fun K32 hK32 => ?_)
            refine code_region ?_
            refine list_cons rfl (op_q (q_move rfl (by decide)) ?_)
            refine list_cons rfl (op_q (q_lt rfl rfl (by decide)) ?_)
            refine list_nil ?_
            refine hK32 _ ?_; clear hK32 K32
            refine code_cond_d rfl (fun h12 => ?_) (fun h12 => ?_)
            · skip
              (try simp only [Decidable.not_not] at h12)
              refine code_seq (fun K33 hK33 => ?_)
              refine code_region ?_
              refine list_cons rfl (op_q (q_assign rfl (by decide)) ?_)
              refine list_nil ?_
              refine hK33 _ ?_; clear hK33 K33
              refine code_ret ?_
              refine then_r ?_; clear hK31 K31
              refine ends_ret (cs := []) rfl rfl rfl rfl trivial ?_
              first | rfl | omega | exact absurd rfl h12 | (exact absurd (by omega) h12) | (simp at h12) | (simp_all) | (exfalso; simp_all; omega)
            (try simp only [Decidable.not_not] at h12)
            refine code_skip ?_
            refine hK31 _ ?_; clear hK31 K31
            refine code_seq (fun K34 hK34 => ?_)
            refine code_seq (fun K35 hK35 => ?_)
            refine code_region ?_
            refine list_cons rfl (op_q (q_move rfl (by decide)) ?_)
            refine list_cons rfl (op_q (q_move rfl (by decide)) ?_)
            refine list_cons rfl (op_q (q_ne rfl rfl (by decide)) ?_)
            refine list_nil ?_
            refine hK35 _ ?_; clear hK35 K35
            refine code_cond_d rfl (fun h13 => ?_) (fun h13 => ?_)
            · skip
              (try simp only [Decidable.not_not] at h13)
              refine code_seq (fun K36 hK36 => ?_)
              refine code_region ?_
              refine list_cons rfl (op_q (q_assign rfl (by decide)) ?_)
              refine list_nil ?_
              refine hK36 _ ?_; clear hK36 K36
              refine code_ret ?_
              refine then_r ?_; clear hK34 K34
              refine ends_ret (cs := []) rfl rfl rfl rfl trivial ?_
              first | rfl | omega | exact absurd rfl h13 | (exact absurd (by omega) h13) | (simp at h13) | (simp_all) | (exfalso; simp_all; omega)
            (try simp only [Decidable.not_not] at h13)
            refine code_skip ?_
            refine hK34 _ ?_; clear hK34 K34
            refine code_seq (fun K37 hK37 => ?_)
            refine code_region ?_
            refine list_cons rfl (op_q (q_move rfl (by decide)) ?_)
            refine list_cons rfl (op_call _ (toIntS_c _ (by first | omega | (simp; omega))) rfl rfl (by decide) (by decide) (by decide) rfl ?_)
            rintro _ rfl
            refine list_cons rfl (op_q (q_move rfl (by decide)) ?_)
            refine list_cons rfl (op_call _ (toIntS_c _ (by first | omega | (simp; omega))) rfl rfl (by decide) (by decide) (by decide) rfl ?_)
            rintro _ rfl
            refine list_cons rfl (op_call _ (impl_PlayGame _ _ (by omega) (by omega)) rfl rfl (by decide) (by decide) (by decide) rfl ?_)
            rintro _ rfl
            refine list_cons rfl (op_q (q_move rfl (by decide)) ?_)
            refine list_cons rfl (op_q (q_extract rfl rfl (by decide)) ?_)
            refine list_cons rfl (op_q (q_extract rfl rfl (by decide)) ?_)
            refine list_cons rfl (op_q (q_extract rfl rfl (by decide)) ?_)
            refine list_cons rfl (op_q (q_assign rfl (by decide)) ?_)
            refine list_cons rfl (op_q (q_assign rfl (by decide)) ?_)
            refine list_cons rfl (op_q (q_assign rfl (by decide)) ?_)
            refine list_nil ?_
            refine hK37 _ ?_; clear hK37 K37
            refine codeT.imp (σ' := [(0, _), (1, _), (4, _), (5, _), (6, _), (7, _), (8, _), (9, _), (10, _), (11, _), (12, _), (13, _), (14, _), (15, _), (16, _), (17, _), (18, _)]) ?_ (imp_covers ⟨rfl, rfl, rfl, rfl, rfl, rfl, rfl, rfl, rfl, rfl, rfl, rfl, rfl, rfl, rfl, rfl, rfl, trivial⟩)
            refine code_seq (fun K38 hK38 => ?_)
            refine code_seq (fun K39 hK39 => ?_)
            refine code_region ?_
            refine list_cons rfl (op_q (q_move rfl (by decide)) ?_)
            refine list_cons rfl (op_q (q_move rfl (by decide)) ?_)
            refine list_cons rfl (op_call _ (eqIntA2S_c _ _ (by first | omega | (simp; omega))) rfl rfl (by decide) (by decide) (by decide) rfl ?_)
            rintro _ rfl
            refine list_cons rfl (op_q (by first | exact q_notd rfl (by decide) | exact q_not rfl (by decide)) ?_)
            refine list_cons rfl (op_q (q_move rfl (by decide)) ?_)
            refine list_guard_d rfl rfl rfl rfl (by decide) rfl (by decide) (fun h14 => ?_) (fun h14 => ?_)
            · simp only [Bool.false_eq_true, if_true, if_false, Decidable.not_not] at h14
              refine id (op_q (q_move rfl (by decide)) ?_)
              refine list_guard_y rfl rfl rfl rfl (by decide) rfl ?_
              refine id (op_q (q_move rfl (by decide)) ?_)
              refine list_guard_y rfl rfl rfl rfl (by decide) rfl ?_
              refine id (op_q (q_ne rfl rfl (by decide)) ?_)
              refine list_cons rfl (op_q (q_pick rfl rfl (by decide)) ?_)
              refine list_cons rfl (op_q (q_move rfl (by decide)) ?_)
              refine list_guard_d rfl rfl rfl rfl (by decide) rfl (by decide) (fun h15 => ?_) (fun h15 => ?_)
              · simp only [Bool.false_eq_true, if_true, if_false, Decidable.not_not] at h15
                refine id (op_q (q_move rfl (by decide)) ?_)
                refine list_guard_y rfl rfl rfl rfl (by decide) rfl ?_
                refine id (op_q (q_move rfl (by decide)) ?_)
                refine list_guard_y rfl rfl rfl rfl (by decide) rfl ?_
                refine id (op_q (q_bne Tryd.underlying4 rfl rfl (by decide)) ?_)
                refine list_cons rfl (op_q (q_pick rfl rfl (by decide)) ?_)
                refine list_nil ?_
                refine hK39 _ ?_; clear hK39 K39
                refine codeT.imp (σ' := [(0, _), (1, _), (4, _), (5, _), (6, _), (7, _), (8, _), (9, _), (10, _), (11, _), (12, _), (13, _), (14, _), (15, _), (16, _), (17, _), (18, _), (126, _)]) ?_ (imp_covers ⟨rfl, rfl, rfl, rfl, rfl, rfl, rfl, rfl, rfl, rfl, rfl, rfl, rfl, rfl, rfl, rfl, rfl, rfl, trivial⟩)
                refine code_cond_d rfl (fun h16 => ?_) (fun h16 => ?_)
                · skip
                  (try simp only [Decidable.not_not] at h16)
                  refine code_seq (fun K40 hK40 => ?_)
                  refine code_region ?_
                  refine list_cons rfl (op_q (q_assign rfl (by decide)) ?_)
                  refine list_nil ?_
                  refine hK40 _ ?_; clear hK40 K40
                  refine code_ret ?_
                  refine then_r ?_; clear hK38 K38
                  refine ends_ret (cs := []) rfl rfl rfl rfl trivial ?_
                  first | rfl | omega | exact absurd rfl h16 | (exact absurd (by omega) h16) | (simp at h16) | (simp_all) | (exfalso; simp_all; omega)
                (try simp only [Decidable.not_not] at h16)
                refine code_skip ?_
                refine hK38 _ ?_; clear hK38 K38
                refine code_seq (fun K41 hK41 => ?_)
                refine code_region ?_
                refine list_cons rfl (op_q (q_assign rfl (by decide)) ?_)
                refine list_nil ?_
                refine hK41 _ ?_; clear hK41 K41
                refine code_seq (fun K42 hK42 => ?_)
                refine code_region ?_
                refine list_cons rfl (op_q (q_move rfl (by decide)) ?_)
                refine list_cons rfl (op_q (q_move rfl (by decide)) ?_)
                refine list_cons rfl (op_call _ (heldIntA2S_c _ _ (by first | omega | (simp; omega)) (by omega) (by omega)) rfl rfl (by decide) (by decide) (by decide) rfl ?_)
                rintro _ rfl
                refine list_cons rfl (op_q (q_assign rfl (by decide)) ?_)
                refine list_nil ?_
                refine hK42 _ ?_; clear hK42 K42
                refine codeT.imp (σ' := [(0, _), (1, _), (4, _), (5, _), (6, _), (7, _), (8, _), (9, _), (10, _), (11, _), (12, _), (13, _), (14, _), (15, _), (16, _), (17, _), (18, _)]) ?_ (imp_covers ⟨rfl, rfl, rfl, rfl, rfl, rfl, rfl, rfl, rfl, rfl, rfl, rfl, rfl, rfl, rfl, rfl, rfl, trivial⟩)
                refine code_seq (fun K43 hK43 => ?_)
                refine code_seq (fun K44 hK44 => ?_)
                refine code_region ?_
                refine list_cons rfl (op_q (q_move rfl (by decide)) ?_)
                refine list_cons rfl (op_q (q_lt rfl rfl (by decide)) ?_)
                refine list_nil ?_
                refine hK44 _ ?_; clear hK44 K44
                refine code_cond_d rfl (fun h17 => ?_) (fun h17 => ?_)
                · skip
                  (try simp only [Decidable.not_not] at h17)
                  refine code_seq (fun K45 hK45 => ?_)
                  refine code_region ?_
                  refine list_cons rfl (op_q (q_assign rfl (by decide)) ?_)
                  refine list_nil ?_
                  refine hK45 _ ?_; clear hK45 K45
                  refine code_ret ?_
                  refine then_r ?_; clear hK43 K43
                  refine ends_ret (cs := []) rfl rfl rfl rfl trivial ?_
                  first | rfl | omega | exact absurd rfl h17 | (exact absurd (by omega) h17) | (simp at h17) | (simp_all) | (exfalso; simp_all; omega)
                (try simp only [Decidable.not_not] at h17)
                refine code_skip ?_
                refine hK43 _ ?_; clear hK43 K43
                refine code_seq (fun K46 hK46 => ?_)
                refine code_seq (fun K47 hK47 => ?_)
                refine code_region ?_
                refine list_cons rfl (op_q (q_move rfl (by decide)) ?_)
                refine list_cons rfl (op_q (q_move rfl (by decide)) ?_)
                refine list_cons rfl (op_q (q_ne rfl rfl (by decide)) ?_)
                refine list_nil ?_
                refine hK47 _ ?_; clear hK47 K47
                refine code_cond_d rfl (fun h18 => ?_) (fun h18 => ?_)
                · skip
                  (try simp only [Decidable.not_not] at h18)
                  refine code_seq (fun K48 hK48 => ?_)
                  refine code_region ?_
                  refine list_cons rfl (op_q (q_assign rfl (by decide)) ?_)
                  refine list_nil ?_
                  refine hK48 _ ?_; clear hK48 K48
                  refine code_ret ?_
                  refine then_r ?_; clear hK46 K46
                  refine ends_ret (cs := []) rfl rfl rfl rfl trivial ?_
                  first | rfl | omega | exact absurd rfl h18 | (exact absurd (by omega) h18) | (simp at h18) | (simp_all) | (exfalso; simp_all; omega)
                (try simp only [Decidable.not_not] at h18)
                refine code_skip ?_
                refine hK46 _ ?_; clear hK46 K46
                refine code_seq (fun K49 hK49 => ?_)
                refine code_region ?_
                refine list_cons rfl (op_q (q_assign rfl (by decide)) ?_)
                refine list_nil ?_
                refine hK49 _ ?_; clear hK49 K49
                refine code_ret ?_
                refine ends_ret (cs := []) rfl rfl rfl rfl trivial ?_
                first | rfl | omega | exact absurd rfl h18 | (exact absurd (by omega) h18) | (simp at h18) | (simp_all) | (exfalso; simp_all; omega)
              simp only [Bool.false_eq_true, if_true, if_false, Decidable.not_not] at h15
              refine list_guard_n rfl rfl rfl rfl (by decide) rfl ?_
              refine list_guard_n rfl rfl rfl rfl (by decide) rfl ?_
              refine list_cons rfl (op_q (q_pick rfl rfl (by decide)) ?_)
              refine list_nil ?_
              refine hK39 _ ?_; clear hK39 K39
              refine codeT.imp (σ' := [(0, _), (1, _), (4, _), (5, _), (6, _), (7, _), (8, _), (9, _), (10, _), (11, _), (12, _), (13, _), (14, _), (15, _), (16, _), (17, _), (18, _), (126, _)]) ?_ (imp_covers ⟨rfl, rfl, rfl, rfl, rfl, rfl, rfl, rfl, rfl, rfl, rfl, rfl, rfl, rfl, rfl, rfl, rfl, rfl, trivial⟩)
              refine code_cond_t rfl ?_
              refine code_seq (fun K50 hK50 => ?_)
              refine code_region ?_
              refine list_cons rfl (op_q (q_assign rfl (by decide)) ?_)
              refine list_nil ?_
              refine hK50 _ ?_; clear hK50 K50
              refine code_ret ?_
              refine then_r ?_; clear hK38 K38
              refine ends_ret (cs := []) rfl rfl rfl rfl trivial ?_
              first | rfl | omega | exact absurd rfl h15 | (exact absurd (by omega) h15) | (simp at h15) | (simp_all) | (exfalso; simp_all; omega)
            simp only [Bool.false_eq_true, if_true, if_false, Decidable.not_not] at h14
            refine list_guard_n rfl rfl rfl rfl (by decide) rfl ?_
            refine list_guard_n rfl rfl rfl rfl (by decide) rfl ?_
            refine list_cons rfl (op_q (q_pick rfl rfl (by decide)) ?_)
            refine list_cons rfl (op_q (q_move rfl (by decide)) ?_)
            refine list_guard_n rfl rfl rfl rfl (by decide) rfl ?_
            refine list_guard_n rfl rfl rfl rfl (by decide) rfl ?_
            refine list_guard_n rfl rfl rfl rfl (by decide) rfl ?_
            refine list_cons rfl (op_q (q_pick rfl rfl (by decide)) ?_)
            refine list_nil ?_
            refine hK39 _ ?_; clear hK39 K39
            refine codeT.imp (σ' := [(0, _), (1, _), (4, _), (5, _), (6, _), (7, _), (8, _), (9, _), (10, _), (11, _), (12, _), (13, _), (14, _), (15, _), (16, _), (17, _), (18, _), (126, _)]) ?_ (imp_covers ⟨rfl, rfl, rfl, rfl, rfl, rfl, rfl, rfl, rfl, rfl, rfl, rfl, rfl, rfl, rfl, rfl, rfl, rfl, trivial⟩)
            refine code_cond_t rfl ?_
            refine code_seq (fun K51 hK51 => ?_)
            refine code_region ?_
            refine list_cons rfl (op_q (q_assign rfl (by decide)) ?_)
            refine list_nil ?_
            refine hK51 _ ?_; clear hK51 K51
            refine code_ret ?_
            refine then_r ?_; clear hK38 K38
            refine ends_ret (cs := []) rfl rfl rfl rfl trivial ?_
            first | rfl | omega | exact absurd rfl h14 | (exact absurd (by omega) h14) | (simp at h14) | (simp_all) | (exfalso; simp_all; omega)
          simp only [Bool.false_eq_true, if_true, if_false, Decidable.not_not] at h10
          refine list_guard_n rfl rfl rfl rfl (by decide) rfl ?_
          refine list_guard_n rfl rfl rfl rfl (by decide) rfl ?_
          refine list_cons rfl (op_q (q_pick rfl rfl (by decide)) ?_)
          refine list_nil ?_
          refine hK25 _ ?_; clear hK25 K25
          refine codeT.imp (σ' := [(0, _), (1, _), (4, _), (5, _), (6, _), (7, _), (8, _), (9, _), (10, _), (11, _), (12, _), (13, _), (92, _)]) ?_ (imp_covers ⟨rfl, rfl, rfl, rfl, rfl, rfl, rfl, rfl, rfl, rfl, rfl, rfl, rfl, trivial⟩)
          refine code_cond_t rfl ?_
          refine code_seq (fun K52 hK52 => ?_)
          refine code_region ?_
          refine list_cons rfl (op_q (q_assign rfl (by decide)) ?_)
          refine list_nil ?_
          refine hK52 _ ?_; clear hK52 K52
          refine code_ret ?_
          refine then_r ?_; clear hK24 K24
          refine ends_ret (cs := []) rfl rfl rfl rfl trivial ?_
          first | rfl | omega | exact absurd rfl h10 | (exact absurd (by omega) h10) | (simp at h10) | (simp_all) | (exfalso; simp_all; omega)
        simp only [Bool.false_eq_true, if_true, if_false, Decidable.not_not] at h9
        refine list_guard_n rfl rfl rfl rfl (by decide) rfl ?_
        refine list_guard_n rfl rfl rfl rfl (by decide) rfl ?_
        refine list_cons rfl (op_q (q_pick rfl rfl (by decide)) ?_)
        refine list_cons rfl (op_q (q_move rfl (by decide)) ?_)
        refine list_guard_n rfl rfl rfl rfl (by decide) rfl ?_
        refine list_guard_n rfl rfl rfl rfl (by decide) rfl ?_
        refine list_guard_n rfl rfl rfl rfl (by decide) rfl ?_
        refine list_cons rfl (op_q (q_pick rfl rfl (by decide)) ?_)
        refine list_nil ?_
        refine hK25 _ ?_; clear hK25 K25
        refine codeT.imp (σ' := [(0, _), (1, _), (4, _), (5, _), (6, _), (7, _), (8, _), (9, _), (10, _), (11, _), (12, _), (13, _), (92, _)]) ?_ (imp_covers ⟨rfl, rfl, rfl, rfl, rfl, rfl, rfl, rfl, rfl, rfl, rfl, rfl, rfl, trivial⟩)
        refine code_cond_t rfl ?_
        refine code_seq (fun K53 hK53 => ?_)
        refine code_region ?_
        refine list_cons rfl (op_q (q_assign rfl (by decide)) ?_)
        refine list_nil ?_
        refine hK53 _ ?_; clear hK53 K53
        refine code_ret ?_
        refine then_r ?_; clear hK24 K24
        refine ends_ret (cs := []) rfl rfl rfl rfl trivial ?_
        first | rfl | omega | exact absurd rfl h9 | (exact absurd (by omega) h9) | (simp at h9) | (simp_all) | (exfalso; simp_all; omega)
      simp only [Bool.false_eq_true, if_true, if_false, Decidable.not_not] at h8
      refine list_guard_n rfl rfl rfl rfl (by decide) rfl ?_
      refine list_guard_n rfl rfl rfl rfl (by decide) rfl ?_
      refine list_guard_n rfl rfl rfl rfl (by decide) rfl ?_
      refine list_cons rfl (op_q (q_pick rfl rfl (by decide)) ?_)
      refine list_cons rfl (op_q (q_move rfl (by decide)) ?_)
      refine list_guard_n rfl rfl rfl rfl (by decide) rfl ?_
      refine list_guard_n rfl rfl rfl rfl (by decide) rfl ?_
      refine list_guard_n rfl rfl rfl rfl (by decide) rfl ?_
      refine list_cons rfl (op_q (q_pick rfl rfl (by decide)) ?_)
      refine list_cons rfl (op_q (q_move rfl (by decide)) ?_)
      refine list_guard_n rfl rfl rfl rfl (by decide) rfl ?_
      refine list_guard_n rfl rfl rfl rfl (by decide) rfl ?_
      refine list_guard_n rfl rfl rfl rfl (by decide) rfl ?_
      refine list_cons rfl (op_q (q_pick rfl rfl (by decide)) ?_)
      refine list_nil ?_
      refine hK25 _ ?_; clear hK25 K25
      refine codeT.imp (σ' := [(0, _), (1, _), (4, _), (5, _), (6, _), (7, _), (8, _), (9, _), (10, _), (11, _), (12, _), (13, _), (92, _)]) ?_ (imp_covers ⟨rfl, rfl, rfl, rfl, rfl, rfl, rfl, rfl, rfl, rfl, rfl, rfl, rfl, trivial⟩)
      refine code_cond_t rfl ?_
      refine code_seq (fun K54 hK54 => ?_)
      refine code_region ?_
      refine list_cons rfl (op_q (q_assign rfl (by decide)) ?_)
      refine list_nil ?_
      refine hK54 _ ?_; clear hK54 K54
      refine code_ret ?_
      refine then_r ?_; clear hK24 K24
      refine ends_ret (cs := []) rfl rfl rfl rfl trivial ?_
      first | rfl | omega | exact absurd rfl h8 | (exact absurd (by omega) h8) | (simp at h8) | (simp_all) | (exfalso; simp_all; omega)
    simp only [Bool.false_eq_true, if_true, if_false, Decidable.not_not] at h4
    refine list_guard_n rfl rfl rfl rfl (by decide) rfl ?_
    refine list_guard_n rfl rfl rfl rfl (by decide) rfl ?_
    refine list_cons rfl (op_q (q_pick rfl rfl (by decide)) ?_)
    refine list_nil ?_
    refine hK13 _ ?_; clear hK13 K13
    refine codeT.imp (σ' := [(0, _), (1, _), (4, _), (5, _), (6, _), (7, _), (8, _), (9, _), (10, _), (11, _), (12, _), (58, _)]) ?_ (imp_covers ⟨rfl, rfl, rfl, rfl, rfl, rfl, rfl, rfl, rfl, rfl, rfl, rfl, trivial⟩)
    refine code_cond_t rfl ?_
    refine code_seq (fun K55 hK55 => ?_)
    refine code_region ?_
    refine list_cons rfl (op_q (q_assign rfl (by decide)) ?_)
    refine list_nil ?_
    refine hK55 _ ?_; clear hK55 K55
    refine code_ret ?_
    refine then_r ?_; clear hK12 K12
    refine ends_ret (cs := []) rfl rfl rfl rfl trivial ?_
    first | rfl | omega | exact absurd rfl h4 | (exact absurd (by omega) h4) | (simp at h4) | (simp_all) | (exfalso; simp_all; omega)
  simp only [Bool.false_eq_true, if_true, if_false, Decidable.not_not] at h3
  refine list_guard_n rfl rfl rfl rfl (by decide) rfl ?_
  refine list_guard_n rfl rfl rfl rfl (by decide) rfl ?_
  refine list_cons rfl (op_q (q_pick rfl rfl (by decide)) ?_)
  refine list_cons rfl (op_q (q_move rfl (by decide)) ?_)
  refine list_guard_n rfl rfl rfl rfl (by decide) rfl ?_
  refine list_guard_n rfl rfl rfl rfl (by decide) rfl ?_
  refine list_guard_n rfl rfl rfl rfl (by decide) rfl ?_
  refine list_cons rfl (op_q (q_pick rfl rfl (by decide)) ?_)
  refine list_nil ?_
  refine hK13 _ ?_; clear hK13 K13
  refine codeT.imp (σ' := [(0, _), (1, _), (4, _), (5, _), (6, _), (7, _), (8, _), (9, _), (10, _), (11, _), (12, _), (58, _)]) ?_ (imp_covers ⟨rfl, rfl, rfl, rfl, rfl, rfl, rfl, rfl, rfl, rfl, rfl, rfl, trivial⟩)
  refine code_cond_t rfl ?_
  refine code_seq (fun K56 hK56 => ?_)
  refine code_region ?_
  refine list_cons rfl (op_q (q_assign rfl (by decide)) ?_)
  refine list_nil ?_
  refine hK56 _ ?_; clear hK56 K56
  refine code_ret ?_
  refine then_r ?_; clear hK12 K12
  refine ends_ret (cs := []) rfl rfl rfl rfl trivial ?_
  first | rfl | omega | exact absurd rfl h3 | (exact absurd (by omega) h3) | (simp at h3) | (simp_all) | (exfalso; simp_all; omega)
end Go.Proofs.YtfagllolcalfiabDoor
