/- Contracts of functions, walked over the pure layer; each says for which arguments. -/
import Derived.Test.YtmjgkhfjhedpkaaDoorf4Ty
import Derived.Test.YtmjgkhfjhedpkaaDoorTf
import Derived.Test.YtmjgkhfjhedpkaaDoorf1
import Derived.Test.YtmjgkhfjhedpkaaDoorShelf
import Derived.Test.YtmjgkhfjhedpkaaDoorf2
import Derived.Test.YtmjgkhfjhedpkaaDoorf5
import Derived.Test.YtmjgkhfjhedpkaaDoorf3
namespace Go.Proofs.YtmjgkhfjhedpkaaDoor
open Go.RowKit f4Ty
set_option linter.unusedVariables false
set_option linter.unusedSimpArgs false

theorem cnt7_0 {n : Nat} (h : n < 128) (h0 : cnt7 n = 0) : n = 0 := by
  have k : below 128 (fun x => !Nat.beq (cnt7 x) 0 || Nat.beq x 0) = true := by kernel_rfl
  have k2 := below_ok k n h
  rw [h0] at k2
  exact Nat.eq_of_beq_eq_true (by simpa using k2)
theorem fr9_0 {c a : Int} (hc : 0 ≤ c ∧ c ≤ 127) (ha : 0 ≤ a ∧ a ≤ 127) : fr9 c a = 0 ↔ c = a := by
  unfold fr9
  constructor
  · intro h
    have hx := cnt7_0 (@Nat.xor_lt_two_pow c.toNat a.toNat 7 (by omega) (by omega)) h
    have e : c.toNat = a.toNat := by
      have h2 := congrArg (fun z => z ^^^ a.toNat) hx
      simpa [Nat.xor_assoc] using h2
    omega
  · rintro rfl; rw [Nat.xor_self]; rfl
theorem pw9_00 : ∀ n : Nat, pw9 0 (n + 1) = 0
  | n => by show pw9 0 n * 0 = 0; exact Int.mul_zero _
theorem prt_0 {c a q : Int} (hc : 0 ≤ c ∧ c ≤ 127) (ha : 0 ≤ a ∧ a ≤ 127) (h : FkP 0 q) : prt c a 0 q = 0 ↔ c ≠ a := by
  have hq := pw9_pos (x := q) h.1.1 (7 - fr9 c a)
  constructor
  · intro h1 h2
    have e := (fr9_0 hc ha).2 h2
    unfold prt at h1
    rw [e] at h1 hq
    rw [show q - 0 = q by omega, show pw9 0 0 = 1 from rfl] at h1
    omega
  · intro h1
    have e : fr9 c a ≠ 0 := fun z => h1 ((fr9_0 hc ha).1 z)
    unfold prt
    obtain ⟨n, hn⟩ : ∃ n, fr9 c a = n + 1 := ⟨fr9 c a - 1, by omega⟩
    rw [hn, pw9_00, Int.zero_mul]
theorem frA_zero {a n : Int} (ha : 0 ≤ a) (hn : 1 ≤ n) : frA a n = 0 ↔ a = 0 := by
  constructor
  · intro h
    have e1 := fr_cross ha hn
    have b1 := frB_bd (a := a) hn
    rw [h, Int.zero_mul] at e1
    have := Int.mul_eq_zero.1 e1.symm
    omega
  · rintro rfl; exact (fr_0 hn).1
theorem fr_1 {n : Int} (hn : 1 ≤ n) : frA n n = 1 ∧ frB n n = 1 := by
  unfold frA frB
  rw [Nat.gcd_self, Nat.div_self (by omega)]; exact ⟨rfl, rfl⟩
abbrev CfP (c a p q : Int) : Prop := (0 ≤ c ∧ c ≤ 127) ∧ (0 ≤ a ∧ a ≤ 127) ∧ FkP p q
theorem flk_back {c a p q : Int} (h : CfP c a p q) : CfP a c p q := ⟨h.2.1, h.1, h.2.2⟩
theorem flk_same {c a p q : Int} (h : CfP c a p q) : (if CfP a c p q then frA (prt a c p q) (pw9 q 7) else 0) = (if CfP c a p q then frA (prt c a p q) (pw9 q 7) else 0) ∧ (if CfP a c p q then frB (prt a c p q) (pw9 q 7) else 0) = (if CfP c a p q then frB (prt c a p q) (pw9 q 7) else 0) ∧ True := by
  rw [if_pos h, if_pos (flk_back h), if_pos h, if_pos (flk_back h), prt_comm a c]; exact ⟨rfl, rfl, trivial⟩
theorem flk_none {c a p q : Int} (h : CfP c a p q) (hp : p = 0) : (¬ (if CfP c a p q then frA (prt c a p q) (pw9 q 7) else 0) = 0) ↔ c = a := by
  subst hp
  have hqp := pw9_pos (x := q) h.2.2.1.1 7
  rw [if_pos h, frA_zero (prt_bd h.2.2).1 hqp, prt_0 h.1 h.2.1 h.2.2]
  exact Decidable.not_not


theorem mul_bdL {a b m n : Int} (ha : 0 ≤ a ∧ a ≤ m) (hb : 0 ≤ b ∧ b ≤ n) : 0 ≤ a * b ∧ a * b ≤ m * n := ⟨Int.mul_nonneg ha.1 hb.1, Int.mul_le_mul ha.2 hb.2 hb.1 (by omega)⟩
theorem mul_posL {a b : Int} (ha : 1 ≤ a) (hb : 1 ≤ b) : 1 ≤ a * b := by
  have := Int.mul_le_mul ha hb (by omega) (by omega)
  simpa using this
/-- What two fractions are together, over the least whole of both. -/
def tpL (a b d e : Int) : Int := a * (e / ((Nat.gcd b.toNat e.toNat : Nat) : Int)) + d * (b / ((Nat.gcd b.toNat e.toNat : Nat) : Int))
def btL (b e : Int) : Int := b / ((Nat.gcd b.toNat e.toNat : Nat) : Int) * e
theorem dvL {b e : Int} (hb : 1 ≤ b) : ∃ g x : Int, g = ((Nat.gcd b.toNat e.toNat : Nat) : Int) ∧ 1 ≤ g ∧ b / ((Nat.gcd b.toNat e.toNat : Nat) : Int) = x ∧ b = x * g ∧ 1 ≤ x := by
  have h1 := Nat.gcd_dvd_left b.toNat e.toNat
  have h0 : 0 < Nat.gcd b.toNat e.toNat := Nat.gcd_pos_of_pos_left _ (by omega)
  obtain ⟨x, hx⟩ := h1
  have hb2 : b = (x : Int) * ((Nat.gcd b.toNat e.toNat : Nat) : Int) := by
    have e1 : ((b.toNat : Nat) : Int) = ((Nat.gcd b.toNat e.toNat * x : Nat) : Int) := congrArg (fun z : Nat => (z : Int)) hx
    rw [Int.natCast_mul, Int.mul_comm] at e1
    omega
  refine ⟨_, x, rfl, by omega, ?_, hb2, ?_⟩
  · exact Int.ediv_eq_of_eq_mul_left (by omega) hb2
  · by_cases hx0 : x = 0
    · subst hx0; simp at hb2; omega
    · omega
theorem tpL_fr {a b d e : Int} (ha : 0 ≤ a) (hb : 1 ≤ b) (hd : 0 ≤ d) (he : 1 ≤ e) : (0 ≤ a * (e / ((Nat.gcd b.toNat e.toNat : Nat) : Int)) ∧ 0 ≤ d * (b / ((Nat.gcd b.toNat e.toNat : Nat) : Int)) ∧ a * (e / ((Nat.gcd b.toNat e.toNat : Nat) : Int)) ≤ a * e ∧ d * (b / ((Nat.gcd b.toNat e.toNat : Nat) : Int)) ≤ d * b) ∧ (0 ≤ tpL a b d e ∧ tpL a b d e ≤ a * e + d * b) ∧ (1 ≤ btL b e ∧ btL b e ≤ b * e) ∧ frA (tpL a b d e) (btL b e) = frA (a * e + d * b) (b * e) ∧ frB (tpL a b d e) (btL b e) = frB (a * e + d * b) (b * e) := by
  obtain ⟨g, x, hg, hg1, hx, hbx, hx1⟩ := dvL (b := b) (e := e) hb
  obtain ⟨g2, y, hg2, _, hy, hey, hy1⟩ := dvL (b := e) (e := b) he
  rw [Nat.gcd_comm] at hg2 hy
  obtain rfl : g2 = g := hg2.trans hg.symm
  have e1 : tpL a b d e = a * y + d * x := by unfold tpL; rw [hx, hy]
  have e2 : btL b e = x * e := by unfold btL; rw [hx]
  have m1 := Int.mul_nonneg ha (show 0 ≤ y by omega)
  have m2 := Int.mul_nonneg hd (show 0 ≤ x by omega)
  have k1 : a * e = a * y * g2 := by rw [Int.mul_assoc, ← hey]
  have k2 : d * b = d * x * g2 := by rw [Int.mul_assoc, ← hbx]
  have k3 : b * e = x * e * g2 := by rw [Int.mul_right_comm, ← hbx]
  have l1 : a * y ≤ a * y * g2 := by have := Int.mul_le_mul (Int.le_refl (a * y)) hg1 (by omega) m1; simpa using this
  have l2 : d * x ≤ d * x * g2 := by have := Int.mul_le_mul (Int.le_refl (d * x)) hg1 (by omega) m2; simpa using this
  have p3 := mul_posL hx1 he
  have l3 : x * e ≤ x * e * g2 := by have := Int.mul_le_mul (Int.le_refl (x * e)) hg1 (by omega) (by omega); simpa using this
  rw [e1, e2]
  refine ⟨by rw [hx, hy]; omega, ⟨by omega, by omega⟩, ⟨p3, by omega⟩, ?_⟩
  refine fr_eq (by omega) p3 (by omega) (mul_posL hb he) ?_
  rw [k1, k2, k3, ← Int.add_mul]
  simp only [Int.mul_comm, Int.mul_left_comm]

set_option maxRecDepth 8000 in
set_option maxHeartbeats 2000000 in
theorem vPlus_c (a b d e : Int) (ha : 0 ≤ a ∧ a ≤ 999999999) (hb : 1 ≤ b ∧ b ≤ 999999999) (hd : 0 ≤ d ∧ d ≤ 999999999) (he : 1 ≤ e ∧ e ≤ 999999999) : PCalls Tryd.prog 21 [.agg [.int .i64 a, .int .i64 b], .agg [.int .i64 d, .int .i64 e]] (· = [.val (.agg [.int .i64 (frA (a * e + d * b) (b * e)), .int .i64 (frB (a * e + d * b) (b * e))])]) := by
  refine pcalls_of_code (n := 56) az Tryd.func21 (by kernel_rfl) rfl rfl (Nat.le_of_ble_eq_true rfl) (by intro t u h; simp [Tryd.f21] at h; obtain ⟨_, rfl⟩ := h <;> first | exact resTy_agg agg_26 (by decide)) ?_
  have m1 := mul_bdL (a := a) (b := e) (m := 999999999) (n := 999999999) (by omega) (by omega)
  have m2 := mul_bdL (a := d) (b := b) (m := 999999999) (n := 999999999) (by omega) (by omega)
  have m3 := mul_bdL (a := b) (b := e) (m := 999999999) (n := 999999999) (by omega) (by omega)
  obtain ⟨⟨u1, u2, u3, u4⟩, t1, t2, t3, t4⟩ := tpL_fr ha.1 hb.1 hd.1 he.1
  refine code_seq (fun K1 hK1 => ?_)
  refine code_region ?_
  refine list_cons rfl (op_box rfl (.inl ⟨rfl, rfl⟩) (by decide) (by decide) rfl ?_)
  refine list_cons rfl (op_box rfl (.inl ⟨rfl, rfl⟩) (by decide) (by decide) rfl ?_)
  refine list_cons rfl (op_alloc zt_26 (by decide) (by decide) rfl ?_)
  refine list_nil ?_
  refine hK1 _ ?_; clear hK1 K1
  refine code_seq (fun K2 hK2 => ?_)
  refine code_draw (by kernel_rfl) (by kernel_rfl) ?_
  refine draw_q rfl (q_indexAddr_arr arr_26 rfl rfl rfl (by omega) (by omega) (by decide)) ?_
  refine draw_q rfl (q_load one_3 2 rfl rfl rfl (by first | rfl | exact get_map1 _ 0 _ (by first | omega | (simp; omega))) (by decide)) ?_
  refine draw_q rfl (q_indexAddr_arr arr_26 rfl rfl rfl (by omega) (by omega) (by decide)) ?_
  refine draw_q rfl (q_load one_3 3 rfl rfl rfl (by first | rfl | exact get_map1 _ 0 _ (by first | omega | (simp; omega))) (by decide)) ?_
  refine draw_q rfl (q_assign rfl (by decide)) ?_
  refine draw_q rfl (q_assign rfl (by decide)) ?_
  refine draw_nil ?_
  refine hK2 _ ?_; clear hK2 K2
  refine code_seq (fun K3 hK3 => ?_)
  refine code_block ?_
  refine code_loop (X := Int × Int) (fun x => [(0, .val (.agg [.int .i64 a, .int .i64 b])), (1, .val (.agg [.int .i64 d, .int .i64 e])), (2, .box 2 26 [.int .i64 a, .int .i64 b]), (3, .box 3 26 [.int .i64 d, .int .i64 e]), (4, .box 4 26 [.int .i64 0, .int .i64 0]), (5, .val (.int .i64 x.1)), (6, .val (.int .i64 x.2))]) (fun x => 0 ≤ x.1 ∧ 0 ≤ x.2 ∧ Nat.gcd x.1.toNat x.2.toNat = Nat.gcd b.toNat e.toNat) (fun x => x.2.toNat) (_, _) (imp_covers ⟨rfl, rfl, rfl, rfl, rfl, rfl, rfl, trivial⟩) ?_ ?_
  · (try dsimp only)
    exact ⟨by omega, by omega, rfl⟩
  · intro x hI
    obtain ⟨g, r⟩ := x
    replace hI : 0 ≤ g ∧ 0 ≤ r ∧ Nat.gcd g.toNat r.toNat = Nat.gcd b.toNat e.toNat := hI
    show codeT _ _ _ [(0, .val (.agg [.int .i64 a, .int .i64 b])), (1, .val (.agg [.int .i64 d, .int .i64 e])), (2, .box 2 26 [.int .i64 a, .int .i64 b]), (3, .box 3 26 [.int .i64 d, .int .i64 e]), (4, .box 4 26 [.int .i64 0, .int .i64 0]), (5, .val (.int .i64 g)), (6, .val (.int .i64 r))] _
    obtain ⟨i1, i2, i3⟩ := hI
    refine code_seq (fun K4 hK4 => ?_)
    refine code_seq (fun K5 hK5 => ?_)
    refine code_region ?_
    refine list_cons rfl (op_q (q_move rfl (by decide)) ?_)
    refine list_cons rfl (op_q (q_gt rfl rfl (by decide)) ?_)
    refine list_nil ?_
    refine hK5 _ ?_; clear hK5 K5
    refine code_cond_d rfl (fun h1 => ?_) (fun h1 => ?_)
    · skip
      (try simp only [Decidable.not_not] at h1); (try (have hy : r = 0 := (by omega); subst hy; have hg := gcd_end9 j3 j1; have hg2 := gcd_pos9 (a := tpL a b d e) t2.1)); (try (have hy : r = 0 := (by omega); subst hy; have hg := gcd_end9 i3 i1; subst hg; have hg2 := gcd_pos9 (a := b) he.1; have hbt : b / ((Nat.gcd b.toNat e.toNat : Nat) : Int) * e = btL b e := rfl; have htp : a * (e / ((Nat.gcd b.toNat e.toNat : Nat) : Int)) + d * (b / ((Nat.gcd b.toNat e.toNat : Nat) : Int)) = tpL a b d e := rfl))
      refine code_skip ?_
      refine hK4 _ ?_; clear hK4 K4
      refine code_block ?_
      refine code_draw (by kernel_rfl) (by kernel_rfl) ?_
      refine draw_q rfl (q_move rfl (by decide)) ?_
      refine draw_q rfl (q_move rfl (by decide)) ?_
      refine draw_q rfl (q_move rfl (by decide)) ?_
      refine draw_q rfl (by first | exact q_remI rfl rfl (by decide) (by omega) (by omega) | exact q_rem rfl rfl (by omega) (by decide)) ?_
      refine draw_q rfl (q_assign rfl (by decide)) ?_
      refine draw_q rfl (q_assign rfl (by decide)) ?_
      refine draw_nil ?_
      refine blk_n ?_
      refine then_n ⟨(_, _), imp_covers ⟨rfl, rfl, rfl, rfl, rfl, rfl, rfl, trivial⟩, ?_, ?_⟩
      · (try dsimp only)
        exact ⟨by omega, Int.emod_nonneg _ (by omega), gcd_stepI i1 i2 i3⟩
      · have := Int.emod_lt_of_pos g (show 0 < r by omega); (try dsimp only); omega
    (try simp only [Decidable.not_not] at h1); (try (have hy : r = 0 := (by omega); subst hy; have hg := gcd_end9 j3 j1; have hg2 := gcd_pos9 (a := tpL a b d e) t2.1)); (try (have hy : r = 0 := (by omega); subst hy; have hg := gcd_end9 i3 i1; subst hg; have hg2 := gcd_pos9 (a := b) he.1; have hbt : b / ((Nat.gcd b.toNat e.toNat : Nat) : Int) * e = btL b e := rfl; have htp : a * (e / ((Nat.gcd b.toNat e.toNat : Nat) : Int)) + d * (b / ((Nat.gcd b.toNat e.toNat : Nat) : Int)) = tpL a b d e := rfl))
    refine code_exit ?_
    refine then_x ?_; clear hK4 K4
    refine then_x ?_
    refine blk_hit ?_
    refine hK3 _ ?_; clear hK3 K3
    refine code_seq (fun K6 hK6 => ?_)
    refine code_draw (by kernel_rfl) (by kernel_rfl) ?_
    refine draw_q rfl (q_indexAddr_arr arr_26 rfl rfl rfl (by omega) (by omega) (by decide)) ?_
    refine draw_q rfl (q_load one_3 2 rfl rfl rfl (by first | rfl | exact get_map1 _ 0 _ (by first | omega | (simp; omega))) (by decide)) ?_
    refine draw_q rfl (q_indexAddr_arr arr_26 rfl rfl rfl (by omega) (by omega) (by decide)) ?_
    refine draw_q rfl (q_load one_3 3 rfl rfl rfl (by first | rfl | exact get_map1 _ 0 _ (by first | omega | (simp; omega))) (by decide)) ?_
    refine draw_q rfl (q_move rfl (by decide)) ?_
    refine draw_q rfl (by first | exact q_quoI rfl rfl (by decide) (by omega) (by omega) (by omega) | exact q_quoT rfl rfl (by omega) (by decide) (by omega) (by omega) | exact q_quo rfl rfl (by omega) (by decide)) ?_
    refine draw_q rfl (by first | exact q_mulI rfl rfl (by decide) (by omega) (by omega) | exact q_ib rfl rfl rfl (by decide)) ?_
    refine draw_q rfl (q_indexAddr_arr arr_26 rfl rfl rfl (by omega) (by omega) (by decide)) ?_
    refine draw_q rfl (q_load one_3 3 rfl rfl rfl (by first | rfl | exact get_map1 _ 0 _ (by first | omega | (simp; omega))) (by decide)) ?_
    refine draw_q rfl (q_indexAddr_arr arr_26 rfl rfl rfl (by omega) (by omega) (by decide)) ?_
    refine draw_q rfl (q_load one_3 2 rfl rfl rfl (by first | rfl | exact get_map1 _ 0 _ (by first | omega | (simp; omega))) (by decide)) ?_
    refine draw_q rfl (q_move rfl (by decide)) ?_
    refine draw_q rfl (by first | exact q_quoI rfl rfl (by decide) (by omega) (by omega) (by omega) | exact q_quoT rfl rfl (by omega) (by decide) (by omega) (by omega) | exact q_quo rfl rfl (by omega) (by decide)) ?_
    refine draw_q rfl (by first | exact q_mulI rfl rfl (by decide) (by omega) (by omega) | exact q_ib rfl rfl rfl (by decide)) ?_
    refine draw_q rfl (by first | exact q_addI rfl rfl (by decide) (by omega) (by omega) | exact q_ib rfl rfl rfl (by decide)) ?_
    refine draw_q rfl (q_indexAddr_arr arr_26 rfl rfl rfl (by omega) (by omega) (by decide)) ?_
    refine draw_q rfl (q_load one_3 2 rfl rfl rfl (by first | rfl | exact get_map1 _ 0 _ (by first | omega | (simp; omega))) (by decide)) ?_
    refine draw_q rfl (q_move rfl (by decide)) ?_
    refine draw_q rfl (by first | exact q_quoI rfl rfl (by decide) (by omega) (by omega) (by omega) | exact q_quoT rfl rfl (by omega) (by decide) (by omega) (by omega) | exact q_quo rfl rfl (by omega) (by decide)) ?_
    refine draw_q rfl (q_indexAddr_arr arr_26 rfl rfl rfl (by omega) (by omega) (by decide)) ?_
    refine draw_q rfl (q_load one_3 3 rfl rfl rfl (by first | rfl | exact get_map1 _ 0 _ (by first | omega | (simp; omega))) (by decide)) ?_
    refine draw_q rfl (by first | exact q_mulI rfl rfl (by decide) (by omega) (by omega) | exact q_ib rfl rfl rfl (by decide)) ?_
    refine draw_q rfl (q_assign rfl (by decide)) ?_
    refine draw_q rfl (q_assign rfl (by decide)) ?_
    refine draw_nil ?_
    refine hK6 _ ?_; clear hK6 K6
    refine codeT.imp (σ' := [(0, _), (1, _), (2, _), (3, _), (4, _), (5, _), (6, _), (7, _), (8, _)]) ?_ (imp_covers ⟨rfl, rfl, rfl, rfl, rfl, rfl, rfl, rfl, rfl, trivial⟩)
    refine code_seq (fun K7 hK7 => ?_)
    refine code_region ?_
    refine list_cons rfl (op_q (q_move rfl (by decide)) ?_)
    refine list_cons rfl (op_q (q_move rfl (by decide)) ?_)
    refine list_cons rfl (op_q (q_assign rfl (by decide)) ?_)
    refine list_cons rfl (op_q (q_assign rfl (by decide)) ?_)
    refine list_nil ?_
    refine hK7 _ ?_; clear hK7 K7
    refine code_seq (fun K8 hK8 => ?_)
    refine code_block ?_
    refine code_loop (X := Int × Int) (fun x => [(0, .val (.agg [.int .i64 a, .int .i64 b])), (1, .val (.agg [.int .i64 d, .int .i64 e])), (4, .box 4 26 [.int .i64 0, .int .i64 0]), (5, .val (.int .i64 x.1)), (6, .val (.int .i64 x.2)), (7, .val (.int .i64 (tpL a b d e))), (8, .val (.int .i64 (btL b e)))]) (fun x => 0 ≤ x.1 ∧ 0 ≤ x.2 ∧ Nat.gcd x.1.toNat x.2.toNat = Nat.gcd (tpL a b d e).toNat (btL b e).toNat) (fun x => x.2.toNat) (_, _) (imp_covers ⟨rfl, rfl, rfl, rfl, rfl, rfl, rfl, trivial⟩) ?_ ?_
    · (try dsimp only)
      exact ⟨by omega, by omega, rfl⟩
    · intro x hI
      obtain ⟨g, r⟩ := x
      replace hI : 0 ≤ g ∧ 0 ≤ r ∧ Nat.gcd g.toNat r.toNat = Nat.gcd (tpL a b d e).toNat (btL b e).toNat := hI
      show codeT _ _ _ [(0, .val (.agg [.int .i64 a, .int .i64 b])), (1, .val (.agg [.int .i64 d, .int .i64 e])), (4, .box 4 26 [.int .i64 0, .int .i64 0]), (5, .val (.int .i64 g)), (6, .val (.int .i64 r)), (7, .val (.int .i64 (tpL a b d e))), (8, .val (.int .i64 (btL b e)))] _
      obtain ⟨j1, j2, j3⟩ := hI
      refine code_seq (fun K9 hK9 => ?_)
      refine code_seq (fun K10 hK10 => ?_)
      refine code_region ?_
      refine list_cons rfl (op_q (q_move rfl (by decide)) ?_)
      refine list_cons rfl (op_q (q_gt rfl rfl (by decide)) ?_)
      refine list_nil ?_
      refine hK10 _ ?_; clear hK10 K10
      refine code_cond_d rfl (fun h2 => ?_) (fun h2 => ?_)
      · skip
        (try simp only [Decidable.not_not] at h2); (try (have hy : r = 0 := (by omega); subst hy; have hg := gcd_end9 j3 j1; have hg2 := gcd_pos9 (a := tpL a b d e) t2.1)); (try (have hy : r = 0 := (by omega); subst hy; have hg := gcd_end9 i3 i1; subst hg; have hg2 := gcd_pos9 (a := b) he.1; have hbt : b / ((Nat.gcd b.toNat e.toNat : Nat) : Int) * e = btL b e := rfl; have htp : a * (e / ((Nat.gcd b.toNat e.toNat : Nat) : Int)) + d * (b / ((Nat.gcd b.toNat e.toNat : Nat) : Int)) = tpL a b d e := rfl))
        refine code_skip ?_
        refine hK9 _ ?_; clear hK9 K9
        refine code_block ?_
        refine code_draw (by kernel_rfl) (by kernel_rfl) ?_
        refine draw_q rfl (q_move rfl (by decide)) ?_
        refine draw_q rfl (q_move rfl (by decide)) ?_
        refine draw_q rfl (q_move rfl (by decide)) ?_
        refine draw_q rfl (by first | exact q_remI rfl rfl (by decide) (by omega) (by omega) | exact q_rem rfl rfl (by omega) (by decide)) ?_
        refine draw_q rfl (q_assign rfl (by decide)) ?_
        refine draw_q rfl (q_assign rfl (by decide)) ?_
        refine draw_nil ?_
        refine blk_n ?_
        refine then_n ⟨(_, _), imp_covers ⟨rfl, rfl, rfl, rfl, rfl, rfl, rfl, trivial⟩, ?_, ?_⟩
        · (try dsimp only)
          exact ⟨by omega, Int.emod_nonneg _ (by omega), gcd_stepI j1 j2 j3⟩
        · have := Int.emod_lt_of_pos g (show 0 < r by omega); (try dsimp only); omega
      (try simp only [Decidable.not_not] at h2); (try (have hy : r = 0 := (by omega); subst hy; have hg := gcd_end9 j3 j1; have hg2 := gcd_pos9 (a := tpL a b d e) t2.1)); (try (have hy : r = 0 := (by omega); subst hy; have hg := gcd_end9 i3 i1; subst hg; have hg2 := gcd_pos9 (a := b) he.1; have hbt : b / ((Nat.gcd b.toNat e.toNat : Nat) : Int) * e = btL b e := rfl; have htp : a * (e / ((Nat.gcd b.toNat e.toNat : Nat) : Int)) + d * (b / ((Nat.gcd b.toNat e.toNat : Nat) : Int)) = tpL a b d e := rfl))
      refine code_exit ?_
      refine then_x ?_; clear hK9 K9
      refine then_x ?_
      refine blk_hit ?_
      refine hK8 _ ?_; clear hK8 K8
      refine code_seq (fun K11 hK11 => ?_)
      refine any_start fun ob1_0 => ?_
      refine any_op (rd := [7]) ob1_0 rfl rfl rfl (anyT_quiet [(7, _)] ⟨rfl, trivial⟩ rfl (q_move rfl (by decide))) (fun ob1_1 => ?_)
      refine any_op (rd := [5]) ob1_1 rfl rfl rfl (anyT_quiet [(5, _)] ⟨rfl, trivial⟩ rfl (q_move rfl (by decide))) (fun ob1_2 => ?_)
      refine any_op (rd := [49, 50]) ob1_2 rfl rfl rfl (anyT_quiet [(49, _), (50, _)] ⟨rfl, rfl, trivial⟩ rfl (by first | exact q_quoI rfl rfl (by decide) (by omega) (by omega) (by omega) | exact q_quoT rfl rfl (by omega) (by decide) (by omega) (by omega) | exact q_quo rfl rfl (by omega) (by decide))) (fun ob1_3 => ?_)
      refine any_op (rd := [8]) ob1_3 rfl rfl rfl (anyT_quiet [(8, _)] ⟨rfl, trivial⟩ rfl (q_move rfl (by decide))) (fun ob1_4 => ?_)
      refine any_op (rd := [5]) ob1_4 rfl rfl rfl (anyT_quiet [(5, _)] ⟨rfl, trivial⟩ rfl (q_move rfl (by decide))) (fun ob1_5 => ?_)
      refine any_op (rd := [52, 53]) ob1_5 rfl rfl rfl (anyT_quiet [(52, _), (53, _)] ⟨rfl, rfl, trivial⟩ rfl (by first | exact q_quoI rfl rfl (by decide) (by omega) (by omega) (by omega) | exact q_quoT rfl rfl (by omega) (by decide) (by omega) (by omega) | exact q_quo rfl rfl (by omega) (by decide))) (fun ob1_6 => ?_)
      refine any_end [[], [], [0, 1], [], [], [3, 4], [0, 1, 2, 3, 4, 5], [0, 1, 2, 3, 4, 5, 6]] ob1_6 (by kernel_rfl) (Nat.le_of_ble_eq_true rfl) (by decide) (by decide) (by kernel_rfl) (by kernel_rfl) (by kernel_rfl) (by kernel_rfl) (by kernel_rfl) ?_
      clear ob1_0 ob1_1 ob1_2 ob1_3 ob1_4 ob1_5 ob1_6
      refine listT.imp (σ' := [(0, _), (1, _), (4, _), (5, _), (6, _), (7, _), (8, _), (43, _), (44, _), (49, _), (50, _), (51, _), (52, _), (53, _), (54, _)]) ?_ (imp_covers ⟨rfl, rfl, rfl, rfl, rfl, rfl, rfl, rfl, rfl, rfl, rfl, rfl, rfl, rfl, rfl, trivial⟩)
      refine list_cons rfl (op_q (q_build bt_26 (parts := [(0, .tmp 51), (1, .tmp 54)]) rfl rfl (by decide)) ?_)
      refine list_cons rfl (op_store (agg_26).2 4 [4] (by intro t ht; simp only [List.mem_cons, List.not_mem_nil, or_false] at ht; subst ht; rfl) (.inr ⟨rfl, _, rfl⟩) rfl rfl rfl rfl (by first | rfl | exact flat_part (flat_map _ (fun _ => rfl) _) _ _ | exact flat_map _ (fun _ => rfl) _) (by first | rfl | (simp [PV.cells]; done)) (by first | decide | omega | exact Nat.le_refl _ | (simp; done) | (simp; omega)) (by decide) rfl ?_)
      refine list_nil ?_
      refine hK11 _ ?_; clear hK11 K11
      refine codeT.imp (σ' := [(0, _), (1, _), (4, _), (5, _), (6, _), (7, _), (8, _)]) ?_ (imp_covers ⟨rfl, rfl, rfl, rfl, rfl, rfl, rfl, trivial⟩)
      refine code_ret ?_
      refine ends_ret (cs := []) rfl rfl rfl rfl trivial ?_
      subst hg
      rw [frA_div t1.1, frB_div (by omega), t3, t4]
      rfl

theorem vPlusN_c (a c n : Int) (ha : 0 ≤ a ∧ a ≤ 999999999) (hc : 0 ≤ c ∧ c ≤ 999999999) (hn : 1 ≤ n ∧ n ≤ 999999999) : PCalls Tryd.prog 21 [.agg [.int .i64 (frA a n), .int .i64 (frB a n)], .agg [.int .i64 (frA c n), .int .i64 (frB c n)]] (· = [.val (.agg [.int .i64 (frA (a + c) (n)), .int .i64 (frB (a + c) (n))])]) := by
  have a1 := frA_bd (b := n) ha.1; have a2 := frA_bd (b := n) hc.1; have b1 := frB_bd (a := a) hn.1; have b2 := frB_bd (a := c) hn.1
  have h := vPlus_c (frA a n) (frB a n) (frA c n) (frB c n) (by omega) (by omega) (by omega) (by omega)
  have k := fr_plusN ha.1 hc.1 hn.1
  rw [k.1, k.2] at h
  exact h

set_option maxRecDepth 4000 in
theorem vPairs_c (fs : List (Int × Int)) (hf : fs.length ≤ 4611686018427387904) : PCalls Tryd.prog 20 [.sl fs.length (fl fs), .sl fs.length (fl fs)] (· = [.val (.bool true)]) := by
  refine pcalls_of_code (n := 26) az Tryd.func20 (by kernel_rfl) rfl rfl (Nat.le_of_ble_eq_true rfl) (by intro t u h; simp [Tryd.f20] at h) ?_
  have hfl := fl_len fs
  have hff := fl_flat fs
  refine code_seq (fun K1 hK1 => ?_)
  refine code_region ?_
  refine list_cons rfl (op_q (q_assign rfl (by decide)) ?_)
  refine list_nil ?_
  refine hK1 _ ?_; clear hK1 K1
  refine code_seq (fun K2 hK2 => ?_)
  refine code_seq (fun K3 hK3 => ?_)
  refine code_region ?_
  refine list_cons rfl (op_q (q_move rfl (by decide)) ?_)
  refine list_cons rfl (op_q (q_len_sl Tryd.underlying33 rfl rfl (by decide)) ?_)
  refine list_cons rfl (op_q (q_move rfl (by decide)) ?_)
  refine list_cons rfl (op_q (q_len_sl Tryd.underlying33 rfl rfl (by decide)) ?_)
  refine list_cons rfl (op_q (q_ne rfl rfl (by decide)) ?_)
  refine list_nil ?_
  refine hK3 _ ?_; clear hK3 K3
  refine code_cond_d rfl (fun h1 => ?_) (fun h1 => ?_)
  · skip
    (try simp only [Decidable.not_not] at h1)
    exfalso
    exact absurd rfl h1
  (try simp only [Decidable.not_not] at h1)
  refine code_skip ?_
  refine hK2 _ ?_; clear hK2 K2
  refine code_seq (fun K4 hK4 => ?_)
  refine code_seq (fun K5 hK5 => ?_)
  refine code_region ?_
  refine list_cons rfl (op_q (q_assign rfl (by decide)) ?_)
  refine list_nil ?_
  refine hK5 _ ?_; clear hK5 K5
  refine code_block ?_
  refine code_loop (X := Bool × Int) (fun x => [(0, .par 0 (.sl fs.length (fl fs))), (1, .par 1 (.sl fs.length (fl fs))), (4, .val (.bool x.1)), (5, .val (.int .i64 x.2))]) (fun x => 0 ≤ x.2 ∧ x.2 ≤ fs.length) (fun x => fs.length - x.2.toNat) (_, _) (imp_covers ⟨rfl, rfl, rfl, rfl, trivial⟩) ?_ ?_
  · (try dsimp only)
    exact ⟨by omega, by omega⟩
  · intro x hI
    obtain ⟨t4, i⟩ := x
    replace hI : 0 ≤ i ∧ i ≤ fs.length := hI
    show codeT _ _ _ [(0, .par 0 (.sl fs.length (fl fs))), (1, .par 1 (.sl fs.length (fl fs))), (4, .val (.bool t4)), (5, .val (.int .i64 i))] _
    obtain ⟨i1, i2⟩ := hI
    refine code_seq (fun K6 hK6 => ?_)
    refine code_seq (fun K7 hK7 => ?_)
    refine code_region ?_
    refine list_cons rfl (op_q (q_move rfl (by decide)) ?_)
    refine list_cons rfl (op_q (q_move rfl (by decide)) ?_)
    refine list_cons rfl (op_q (q_len_sl Tryd.underlying33 rfl rfl (by decide)) ?_)
    refine list_cons rfl (op_q (q_lt rfl rfl (by decide)) ?_)
    refine list_nil ?_
    refine hK7 _ ?_; clear hK7 K7
    refine code_cond_d rfl (fun h2 => ?_) (fun h2 => ?_)
    · skip
      (try simp only [Decidable.not_not] at h2)
      refine code_skip ?_
      refine hK6 _ ?_; clear hK6 K6
      refine code_seq (fun K8 hK8 => ?_)
      refine code_block ?_
      refine code_seq (fun K9 hK9 => ?_)
      refine code_draw (by kernel_rfl) (by kernel_rfl) ?_
      refine draw_q rfl (q_move rfl (by decide)) ?_
      refine draw_q rfl (q_move rfl (by decide)) ?_
      refine draw_q rfl (q_indexAddr_rd sl_33 rfl (.inl ⟨_, rfl, rfl⟩) rfl (by omega) (by omega) (by decide)) ?_
      refine draw_q rfl (q_load_rd_aggE agg_26 rfl (.inl ⟨_, rfl⟩) (by first | decide | omega | exact Nat.le_refl _ | (simp; done) | (simp; omega)) (fl_at fs i.toNat (by omega)) rfl (by decide)) ?_
      refine draw_q rfl (q_move rfl (by decide)) ?_
      refine draw_q rfl (q_move rfl (by decide)) ?_
      refine draw_q rfl (q_indexAddr_rd sl_33 rfl (.inl ⟨_, rfl, rfl⟩) rfl (by omega) (by omega) (by decide)) ?_
      refine draw_q rfl (q_load_rd_aggE agg_26 rfl (.inl ⟨_, rfl⟩) (by first | decide | omega | exact Nat.le_refl _ | (simp; done) | (simp; omega)) (fl_at fs i.toNat (by omega)) rfl (by decide)) ?_
      refine draw_q rfl (q_aggne (by decide) agg_26 eqty_26 eqg_26 rfl rfl (by first | exact ⟨_, _, rfl, ⟨_, rfl⟩, ⟨_, _, rfl, ⟨_, rfl⟩, trivial⟩⟩) (by first | exact ⟨_, _, rfl, ⟨_, rfl⟩, ⟨_, _, rfl, ⟨_, rfl⟩, trivial⟩⟩) rfl rfl (by decide)) ?_
      refine draw_nil ?_
      refine hK9 _ ?_; clear hK9 K9
      refine codeT.imp (σ' := [(0, _), (1, _), (4, _), (5, _), (25, _)]) ?_ (imp_covers ⟨rfl, rfl, rfl, rfl, rfl, trivial⟩)
      refine code_cond_d rfl (fun h3 => ?_) (fun h3 => ?_)
      · skip
        (try simp only [Decidable.not_not] at h3)
        exfalso
        first | exact h3 ⟨rfl, rfl, trivial⟩ | exact absurd ⟨rfl, rfl, trivial⟩ h3
      (try simp only [Decidable.not_not] at h3)
      refine code_skip ?_
      refine blk_n ?_
      refine hK8 _ ?_; clear hK8 K8
      refine code_region ?_
      refine list_cons rfl (op_q (q_move rfl (by decide)) ?_)
      refine list_cons rfl (op_q (by first | exact q_addI rfl rfl (by decide) (by omega) (by omega) | exact q_ib rfl rfl rfl (by decide)) ?_)
      refine list_cons rfl (op_q (q_assign rfl (by decide)) ?_)
      refine list_nil ?_
      refine then_n ⟨(_, _), imp_covers ⟨rfl, rfl, rfl, rfl, trivial⟩, ?_, ?_⟩
      · (try dsimp only)
        exact ⟨by omega, by omega⟩
      · (try dsimp only); omega
    (try simp only [Decidable.not_not] at h2)
    refine code_exit ?_
    refine then_x ?_; clear hK6 K6
    refine then_x ?_
    refine blk_hit ?_
    refine hK4 _ ?_; clear hK4 K4
    refine code_seq (fun K10 hK10 => ?_)
    refine code_region ?_
    refine list_cons rfl (op_q (q_assign rfl (by decide)) ?_)
    refine list_nil ?_
    refine hK10 _ ?_; clear hK10 K10
    refine code_ret ?_
    refine ends_ret (cs := []) rfl rfl rfl rfl trivial ?_
    rfl

theorem chL_at (c p q S : Int) {k : Nat} (h : k < 10) : (chL c p q S 10).getD k (0, 0) = (frA (prt c (digT.getD k 0) p q) S, frB (prt c (digT.getD k 0) p q) S) := by
  unfold chL
  rw [List.getD_eq_getElem?_getD, List.getElem?_map, List.getElem?_range h]; rfl


theorem vPlusX_c (a c n : Int) (x : Int × Int) (hx : x = (frA c n, frB c n)) (ha : 0 ≤ a ∧ a ≤ 999999999) (hc : 0 ≤ c ∧ c ≤ 999999999) (hn : 1 ≤ n ∧ n ≤ 999999999) : PCalls Tryd.prog 21 [.agg [.int .i64 (frA a n), .int .i64 (frB a n)], .agg [.int .i64 x.1, .int .i64 x.2]] (· = [.val (.agg [.int .i64 (frA (a + c) (n)), .int .i64 (frB (a + c) (n))])]) := by
  subst hx; exact vPlusN_c a c n ha hc hn

set_option maxRecDepth 8000 in
set_option maxHeartbeats 16000000 in
theorem FnFlicker_law (code : List UInt8) (p0 : code.length ≤ 9223372036854775807) : MCalls Tryd.prog 3 true none [.sl code.length (bytesP code)] fun rs _ => rs = [.val (.bool true)] := by
  refine mcalls_of_code (n := 243) az Tryd.func3 (by kernel_rfl) rfl rfl (Nat.le_of_ble_eq_true rfl) (by intro t u h; simp [Tryd.f3] at h) ?_
  refine code_seq (fun K1 hK1 => ?_)
  refine code_region ?_
  refine list_cons rfl (op_q (q_assign rfl (by decide)) ?_)
  refine list_nil ?_
  refine hK1 _ ?_; clear hK1 K1
  refine code_seq (fun K2 hK2 => ?_)
  refine code_seq (fun K3 hK3 => ?_)
  refine code_region ?_
  refine list_cons rfl (op_q (q_move rfl (by decide)) ?_)
  refine list_cons rfl (op_call _ (vBig_c _) rfl rfl (by decide) (by decide) (by decide) rfl ?_)
  rintro _ rfl
  refine list_nil ?_
  refine hK3 _ ?_; clear hK3 K3
  refine codeT.imp (σ' := [(0, .ext _), (2, .val (.bool _)), (42, .val (.bool _))]) ?_ (imp_covers ⟨rfl, rfl, rfl, trivial⟩)
  refine code_cond_d rfl (fun h1 => ?_) (fun h1 => ?_)
  · skip
    (try simp only [Decidable.not_not] at h1); (try have hC : CfP cA aA pA qA := h1); (try have hN : (0 ≤ nC ∧ nC ≤ 9) ∧ FkP pC qC := h1); (try (have hW : ((0 ≤ cD ∧ cD ≤ 127) ∧ FkP pD qD) ∧ 0 < sm9 cD pD qD 10 := h1; have hL0 := hLL; rw [if_pos hW] at hL0))
    refine code_seq (fun K4 hK4 => ?_)
    refine code_region ?_
    refine list_cons rfl (op_q (q_assign rfl (by decide)) ?_)
    refine list_nil ?_
    refine hK4 _ ?_; clear hK4 K4
    refine code_ret ?_
    refine then_r ?_; clear hK2 K2
    refine ends_ret (cs := []) rfl rfl rfl rfl trivial ?_
    first | rfl
  (try simp only [Decidable.not_not] at h1); (try have hC : CfP cA aA pA qA := h1); (try have hN : (0 ≤ nC ∧ nC ≤ 9) ∧ FkP pC qC := h1); (try (have hW : ((0 ≤ cD ∧ cD ≤ 127) ∧ FkP pD qD) ∧ 0 < sm9 cD pD qD 10 := h1; have hL0 := hLL; rw [if_pos hW] at hL0))
  refine code_skip ?_
  refine hK2 _ ?_; clear hK2 K2
  refine code_seq (fun K5 hK5 => ?_)
  refine code_region ?_
  refine list_cons rfl (op_q (q_move rfl (by decide)) ?_)
  refine list_cons rfl (op_callM (DrawChanceFlicker_c _ ?_) (.tmp 0) 0 [] [.tmp 44] _ rfl rfl (by intro y hy; cases hy) (by decide) (by decide) (by decide) rfl (by intro h; cases h) ?_)
  · first | assumption | omega | (simp; omega)
  rintro _ _ ⟨cA, aA, pA, qA, rfl⟩
  refine list_cons rfl (op_q (q_move rfl (by decide)) ?_)
  refine list_cons rfl (op_q (q_extract rfl rfl (by decide)) ?_)
  refine list_cons rfl (op_q (q_extract rfl rfl (by decide)) ?_)
  refine list_cons rfl (op_q (q_extract rfl rfl (by decide)) ?_)
  refine list_cons rfl (op_q (q_extract rfl rfl (by decide)) ?_)
  refine list_cons rfl (op_q (q_assign rfl (by decide)) ?_)
  refine list_cons rfl (op_q (q_assign rfl (by decide)) ?_)
  refine list_cons rfl (op_q (q_assign rfl (by decide)) ?_)
  refine list_cons rfl (op_q (q_assign rfl (by decide)) ?_)
  refine list_nil ?_
  refine hK5 _ ?_; clear hK5 K5
  refine codeT.imp (σ' := [(0, .ext _), (2, .val (.bool _)), (3, .val (.int .i64 _)), (4, .val (.int .i64 _)), (5, .val (.int .i64 _)), (6, .val (.int .i64 _))]) ?_ (imp_covers ⟨rfl, rfl, rfl, rfl, rfl, rfl, trivial⟩)
  refine code_seq (fun K6 hK6 => ?_)
  refine code_region ?_
  refine list_cons rfl (op_q (q_move rfl (by decide)) ?_)
  refine list_cons rfl (op_q (q_move rfl (by decide)) ?_)
  refine list_cons rfl (op_q (q_move rfl (by decide)) ?_)
  refine list_cons rfl (op_q (q_move rfl (by decide)) ?_)
  refine list_cons rfl (op_call _ (impl_ChanceFlicker _ _ _ _) rfl rfl (by decide) (by decide) (by decide) rfl ?_)
  rintro _ rfl
  refine list_cons rfl (op_q (q_move rfl (by decide)) ?_)
  refine list_cons rfl (op_q (q_extract rfl rfl (by decide)) ?_)
  refine list_cons rfl (op_q (q_extract rfl rfl (by decide)) ?_)
  refine list_cons rfl (op_alloc zt_26 (by decide) (by decide) rfl ?_)
  refine list_cons rfl (op_store (agg_26).2 7 [7] (by intro t ht; simp only [List.mem_cons, List.not_mem_nil, or_false] at ht; subst ht; rfl) (.inr ⟨rfl, _, rfl⟩) rfl rfl rfl rfl (by first | rfl | exact flat_part (flat_map _ (fun _ => rfl) _) _ _ | exact flat_map _ (fun _ => rfl) _) (by first | rfl | (simp [PV.cells]; done)) (by first | decide | omega | exact Nat.le_refl _ | (simp; done) | (simp; omega)) (by decide) rfl ?_)
  refine list_cons rfl (op_q (q_assign rfl (by decide)) ?_)
  refine list_nil ?_
  refine hK6 _ ?_; clear hK6 K6
  refine codeT.imp (σ' := [(0, .ext _), (2, .val (.bool _)), (3, .val (.int .i64 _)), (4, .val (.int .i64 _)), (5, .val (.int .i64 _)), (6, .val (.int .i64 _)), (7, .box 7 26 _), (8, .val (.bool _))]) ?_ (imp_covers ⟨rfl, rfl, rfl, rfl, rfl, rfl, rfl, rfl, trivial⟩)
  refine code_seq (fun K7 hK7 => ?_)
  refine code_region ?_
  refine list_cons rfl (op_q (q_move rfl (by decide)) ?_)
  refine list_cons rfl (op_q (q_move rfl (by decide)) ?_)
  refine list_cons rfl (op_q (q_move rfl (by decide)) ?_)
  refine list_cons rfl (op_q (q_move rfl (by decide)) ?_)
  refine list_cons rfl (op_call _ (spec_ChanceFlicker _ _ _ _) rfl rfl (by decide) (by decide) (by decide) rfl ?_)
  rintro _ rfl
  refine list_cons rfl (op_q (q_move rfl (by decide)) ?_)
  refine list_cons rfl (op_q (q_extract rfl rfl (by decide)) ?_)
  refine list_cons rfl (op_q (q_extract rfl rfl (by decide)) ?_)
  refine list_cons rfl (op_alloc zt_26 (by decide) (by decide) rfl ?_)
  refine list_cons rfl (op_store (agg_26).2 9 [9] (by intro t ht; simp only [List.mem_cons, List.not_mem_nil, or_false] at ht; subst ht; rfl) (.inr ⟨rfl, _, rfl⟩) rfl rfl rfl rfl (by first | rfl | exact flat_part (flat_map _ (fun _ => rfl) _) _ _ | exact flat_map _ (fun _ => rfl) _) (by first | rfl | (simp [PV.cells]; done)) (by first | decide | omega | exact Nat.le_refl _ | (simp; done) | (simp; omega)) (by decide) rfl ?_)
  refine list_cons rfl (op_q (q_assign rfl (by decide)) ?_)
  refine list_nil ?_
  refine hK7 _ ?_; clear hK7 K7
  refine codeT.imp (σ' := [(0, .ext _), (2, .val (.bool _)), (3, .val (.int .i64 _)), (4, .val (.int .i64 _)), (5, .val (.int .i64 _)), (6, .val (.int .i64 _)), (7, .box 7 26 _), (8, .val (.bool _)), (9, .box 9 26 _), (10, .val (.bool _))]) ?_ (imp_covers ⟨rfl, rfl, rfl, rfl, rfl, rfl, rfl, rfl, rfl, rfl, trivial⟩)
  refine code_seq (fun K8 hK8 => ?_)
  refine code_region ?_
  refine list_cons rfl (op_q (q_move rfl (by decide)) ?_)
  refine list_cons rfl (op_call _ (vCut_c _ (by omega) _ (by omega) (by omega)) rfl rfl (by decide) (by decide) (by decide) rfl ?_)
  rintro _ ⟨c2, hc2, rfl⟩
  refine list_cons rfl (op_callM (DrawChanceReadAs_c _ ?_) (.tmp 0) 0 [] [.tmp 68] _ rfl rfl (by intro y hy; cases hy) (by decide) (by decide) (by decide) rfl (by intro h; cases h) ?_)
  · first | assumption | omega | (simp; omega)
  rintro _ _ ⟨dB, aB, pB, qB, rfl⟩
  refine list_cons rfl (op_q (q_move rfl (by decide)) ?_)
  refine list_cons rfl (op_q (q_extract rfl rfl (by decide)) ?_)
  refine list_cons rfl (op_q (q_extract rfl rfl (by decide)) ?_)
  refine list_cons rfl (op_q (q_extract rfl rfl (by decide)) ?_)
  refine list_cons rfl (op_q (q_extract rfl rfl (by decide)) ?_)
  refine list_cons rfl (op_q (q_assign rfl (by decide)) ?_)
  refine list_cons rfl (op_q (q_assign rfl (by decide)) ?_)
  refine list_cons rfl (op_q (q_assign rfl (by decide)) ?_)
  refine list_cons rfl (op_q (q_assign rfl (by decide)) ?_)
  refine list_nil ?_
  refine hK8 _ ?_; clear hK8 K8
  refine codeT.imp (σ' := [(0, .ext _), (2, .val (.bool _)), (3, .val (.int .i64 _)), (4, .val (.int .i64 _)), (5, .val (.int .i64 _)), (6, .val (.int .i64 _)), (7, .box 7 26 _), (8, .val (.bool _)), (9, .box 9 26 _), (10, .val (.bool _)), (11, .val (.int .i64 _)), (12, .val (.int .i64 _)), (13, .val (.int .i64 _)), (14, .val (.int .i64 _))]) ?_ (imp_covers ⟨rfl, rfl, rfl, rfl, rfl, rfl, rfl, rfl, rfl, rfl, rfl, rfl, rfl, rfl, trivial⟩)
  refine code_seq (fun K9 hK9 => ?_)
  refine code_region ?_
  refine list_cons rfl (op_q (q_move rfl (by decide)) ?_)
  refine list_cons rfl (op_q (q_move rfl (by decide)) ?_)
  refine list_cons rfl (op_q (q_move rfl (by decide)) ?_)
  refine list_cons rfl (op_q (q_move rfl (by decide)) ?_)
  refine list_cons rfl (op_call _ (impl_ChanceReadAs _ _ _ _) rfl rfl (by decide) (by decide) (by decide) rfl ?_)
  rintro _ rfl
  refine list_cons rfl (op_q (q_move rfl (by decide)) ?_)
  refine list_cons rfl (op_q (q_extract rfl rfl (by decide)) ?_)
  refine list_cons rfl (op_q (q_extract rfl rfl (by decide)) ?_)
  refine list_cons rfl (op_alloc zt_26 (by decide) (by decide) rfl ?_)
  refine list_cons rfl (op_store (agg_26).2 15 [15] (by intro t ht; simp only [List.mem_cons, List.not_mem_nil, or_false] at ht; subst ht; rfl) (.inr ⟨rfl, _, rfl⟩) rfl rfl rfl rfl (by first | rfl | exact flat_part (flat_map _ (fun _ => rfl) _) _ _ | exact flat_map _ (fun _ => rfl) _) (by first | rfl | (simp [PV.cells]; done)) (by first | decide | omega | exact Nat.le_refl _ | (simp; done) | (simp; omega)) (by decide) rfl ?_)
  refine list_cons rfl (op_q (q_assign rfl (by decide)) ?_)
  refine list_nil ?_
  refine hK9 _ ?_; clear hK9 K9
  refine codeT.imp (σ' := [(0, .ext _), (2, .val (.bool _)), (3, .val (.int .i64 _)), (4, .val (.int .i64 _)), (5, .val (.int .i64 _)), (6, .val (.int .i64 _)), (7, .box 7 26 _), (8, .val (.bool _)), (9, .box 9 26 _), (10, .val (.bool _)), (11, .val (.int .i64 _)), (12, .val (.int .i64 _)), (13, .val (.int .i64 _)), (14, .val (.int .i64 _)), (15, .box 15 26 _), (16, .val (.bool _))]) ?_ (imp_covers ⟨rfl, rfl, rfl, rfl, rfl, rfl, rfl, rfl, rfl, rfl, rfl, rfl, rfl, rfl, rfl, rfl, trivial⟩)
  refine code_seq (fun K10 hK10 => ?_)
  refine code_region ?_
  refine list_cons rfl (op_q (q_move rfl (by decide)) ?_)
  refine list_cons rfl (op_q (q_move rfl (by decide)) ?_)
  refine list_cons rfl (op_q (q_move rfl (by decide)) ?_)
  refine list_cons rfl (op_q (q_move rfl (by decide)) ?_)
  refine list_cons rfl (op_call _ (spec_ChanceReadAs _ _ _ _) rfl rfl (by decide) (by decide) (by decide) rfl ?_)
  rintro _ rfl
  refine list_cons rfl (op_q (q_move rfl (by decide)) ?_)
  refine list_cons rfl (op_q (q_extract rfl rfl (by decide)) ?_)
  refine list_cons rfl (op_q (q_extract rfl rfl (by decide)) ?_)
  refine list_cons rfl (op_alloc zt_26 (by decide) (by decide) rfl ?_)
  refine list_cons rfl (op_store (agg_26).2 17 [17] (by intro t ht; simp only [List.mem_cons, List.not_mem_nil, or_false] at ht; subst ht; rfl) (.inr ⟨rfl, _, rfl⟩) rfl rfl rfl rfl (by first | rfl | exact flat_part (flat_map _ (fun _ => rfl) _) _ _ | exact flat_map _ (fun _ => rfl) _) (by first | rfl | (simp [PV.cells]; done)) (by first | decide | omega | exact Nat.le_refl _ | (simp; done) | (simp; omega)) (by decide) rfl ?_)
  refine list_cons rfl (op_q (q_assign rfl (by decide)) ?_)
  refine list_nil ?_
  refine hK10 _ ?_; clear hK10 K10
  refine codeT.imp (σ' := [(0, .ext _), (2, .val (.bool _)), (3, .val (.int .i64 _)), (4, .val (.int .i64 _)), (5, .val (.int .i64 _)), (6, .val (.int .i64 _)), (7, .box 7 26 _), (8, .val (.bool _)), (9, .box 9 26 _), (10, .val (.bool _)), (11, .val (.int .i64 _)), (12, .val (.int .i64 _)), (13, .val (.int .i64 _)), (14, .val (.int .i64 _)), (15, .box 15 26 _), (16, .val (.bool _)), (17, .box 17 26 _), (18, .val (.bool _))]) ?_ (imp_covers ⟨rfl, rfl, rfl, rfl, rfl, rfl, rfl, rfl, rfl, rfl, rfl, rfl, rfl, rfl, rfl, rfl, rfl, rfl, trivial⟩)
  refine code_seq (fun K11 hK11 => ?_)
  refine code_region ?_
  refine list_cons rfl (op_q (q_move rfl (by decide)) ?_)
  refine list_cons rfl (op_call _ (vCut_c _ (by omega) _ (by omega) (by omega)) rfl rfl (by decide) (by decide) (by decide) rfl ?_)
  rintro _ ⟨c2, hc2, rfl⟩
  refine list_cons rfl (op_callM (DrawChanceNoDigit_c _ ?_) (.tmp 0) 0 [] [.tmp 92] _ rfl rfl (by intro y hy; cases hy) (by decide) (by decide) (by decide) rfl (by intro h; cases h) ?_)
  · first | assumption | omega | (simp; omega)
  rintro _ _ ⟨nC, pC, qC, rfl⟩
  refine list_cons rfl (op_q (q_move rfl (by decide)) ?_)
  refine list_cons rfl (op_q (q_extract rfl rfl (by decide)) ?_)
  refine list_cons rfl (op_q (q_extract rfl rfl (by decide)) ?_)
  refine list_cons rfl (op_q (q_extract rfl rfl (by decide)) ?_)
  refine list_cons rfl (op_q (q_assign rfl (by decide)) ?_)
  refine list_cons rfl (op_q (q_assign rfl (by decide)) ?_)
  refine list_cons rfl (op_q (q_assign rfl (by decide)) ?_)
  refine list_nil ?_
  refine hK11 _ ?_; clear hK11 K11
  refine codeT.imp (σ' := [(0, .ext _), (2, .val (.bool _)), (3, .val (.int .i64 _)), (4, .val (.int .i64 _)), (5, .val (.int .i64 _)), (6, .val (.int .i64 _)), (7, .box 7 26 _), (8, .val (.bool _)), (9, .box 9 26 _), (10, .val (.bool _)), (11, .val (.int .i64 _)), (12, .val (.int .i64 _)), (13, .val (.int .i64 _)), (14, .val (.int .i64 _)), (15, .box 15 26 _), (16, .val (.bool _)), (17, .box 17 26 _), (18, .val (.bool _)), (19, .val (.int .i64 _)), (20, .val (.int .i64 _)), (21, .val (.int .i64 _))]) ?_ (imp_covers ⟨rfl, rfl, rfl, rfl, rfl, rfl, rfl, rfl, rfl, rfl, rfl, rfl, rfl, rfl, rfl, rfl, rfl, rfl, rfl, rfl, rfl, trivial⟩)
  refine code_seq (fun K12 hK12 => ?_)
  refine code_region ?_
  refine list_cons rfl (op_q (q_move rfl (by decide)) ?_)
  refine list_cons rfl (op_q (q_move rfl (by decide)) ?_)
  refine list_cons rfl (op_q (q_move rfl (by decide)) ?_)
  refine list_cons rfl (op_call _ (impl_ChanceNoDigit _ _ _) rfl rfl (by decide) (by decide) (by decide) rfl ?_)
  rintro _ rfl
  refine list_cons rfl (op_q (q_move rfl (by decide)) ?_)
  refine list_cons rfl (op_q (q_extract rfl rfl (by decide)) ?_)
  refine list_cons rfl (op_q (q_extract rfl rfl (by decide)) ?_)
  refine list_cons rfl (op_alloc zt_26 (by decide) (by decide) rfl ?_)
  refine list_cons rfl (op_store (agg_26).2 22 [22] (by intro t ht; simp only [List.mem_cons, List.not_mem_nil, or_false] at ht; subst ht; rfl) (.inr ⟨rfl, _, rfl⟩) rfl rfl rfl rfl (by first | rfl | exact flat_part (flat_map _ (fun _ => rfl) _) _ _ | exact flat_map _ (fun _ => rfl) _) (by first | rfl | (simp [PV.cells]; done)) (by first | decide | omega | exact Nat.le_refl _ | (simp; done) | (simp; omega)) (by decide) rfl ?_)
  refine list_cons rfl (op_q (q_assign rfl (by decide)) ?_)
  refine list_nil ?_
  refine hK12 _ ?_; clear hK12 K12
  refine codeT.imp (σ' := [(0, .ext _), (2, .val (.bool _)), (3, .val (.int .i64 _)), (4, .val (.int .i64 _)), (5, .val (.int .i64 _)), (6, .val (.int .i64 _)), (7, .box 7 26 _), (8, .val (.bool _)), (9, .box 9 26 _), (10, .val (.bool _)), (11, .val (.int .i64 _)), (12, .val (.int .i64 _)), (13, .val (.int .i64 _)), (14, .val (.int .i64 _)), (15, .box 15 26 _), (16, .val (.bool _)), (17, .box 17 26 _), (18, .val (.bool _)), (19, .val (.int .i64 _)), (20, .val (.int .i64 _)), (21, .val (.int .i64 _)), (22, .box 22 26 _), (23, .val (.bool _))]) ?_ (imp_covers ⟨rfl, rfl, rfl, rfl, rfl, rfl, rfl, rfl, rfl, rfl, rfl, rfl, rfl, rfl, rfl, rfl, rfl, rfl, rfl, rfl, rfl, rfl, rfl, trivial⟩)
  refine code_seq (fun K13 hK13 => ?_)
  refine code_region ?_
  refine list_cons rfl (op_q (q_move rfl (by decide)) ?_)
  refine list_cons rfl (op_q (q_move rfl (by decide)) ?_)
  refine list_cons rfl (op_q (q_move rfl (by decide)) ?_)
  refine list_cons rfl (op_call _ (spec_ChanceNoDigit _ _ _) rfl rfl (by decide) (by decide) (by decide) rfl ?_)
  rintro _ rfl
  refine list_cons rfl (op_q (q_move rfl (by decide)) ?_)
  refine list_cons rfl (op_q (q_extract rfl rfl (by decide)) ?_)
  refine list_cons rfl (op_q (q_extract rfl rfl (by decide)) ?_)
  refine list_cons rfl (op_alloc zt_26 (by decide) (by decide) rfl ?_)
  refine list_cons rfl (op_store (agg_26).2 24 [24] (by intro t ht; simp only [List.mem_cons, List.not_mem_nil, or_false] at ht; subst ht; rfl) (.inr ⟨rfl, _, rfl⟩) rfl rfl rfl rfl (by first | rfl | exact flat_part (flat_map _ (fun _ => rfl) _) _ _ | exact flat_map _ (fun _ => rfl) _) (by first | rfl | (simp [PV.cells]; done)) (by first | decide | omega | exact Nat.le_refl _ | (simp; done) | (simp; omega)) (by decide) rfl ?_)
  refine list_cons rfl (op_q (q_assign rfl (by decide)) ?_)
  refine list_nil ?_
  refine hK13 _ ?_; clear hK13 K13
  refine codeT.imp (σ' := [(0, .ext _), (2, .val (.bool _)), (3, .val (.int .i64 _)), (4, .val (.int .i64 _)), (5, .val (.int .i64 _)), (6, .val (.int .i64 _)), (7, .box 7 26 _), (8, .val (.bool _)), (9, .box 9 26 _), (10, .val (.bool _)), (11, .val (.int .i64 _)), (12, .val (.int .i64 _)), (13, .val (.int .i64 _)), (14, .val (.int .i64 _)), (15, .box 15 26 _), (16, .val (.bool _)), (17, .box 17 26 _), (18, .val (.bool _)), (19, .val (.int .i64 _)), (20, .val (.int .i64 _)), (21, .val (.int .i64 _)), (22, .box 22 26 _), (23, .val (.bool _)), (24, .box 24 26 _), (25, .val (.bool _))]) ?_ (imp_covers ⟨rfl, rfl, rfl, rfl, rfl, rfl, rfl, rfl, rfl, rfl, rfl, rfl, rfl, rfl, rfl, rfl, rfl, rfl, rfl, rfl, rfl, rfl, rfl, rfl, rfl, trivial⟩)
  refine code_seq (fun K14 hK14 => ?_)
  refine code_region ?_
  refine list_cons rfl (op_q (q_move rfl (by decide)) ?_)
  refine list_cons rfl (op_callM (DrawChancesFor_c _ ?_) (.tmp 0) 0 [] [.tmp 112] _ rfl rfl (by intro y hy; cases hy) (by decide) (by decide) (by decide) rfl (by intro h; cases h) ?_)
  · first | assumption | omega | (simp; omega)
  rintro _ _ ⟨cD, pD, qD, rfl⟩
  refine list_cons rfl (op_q (q_move rfl (by decide)) ?_)
  refine list_cons rfl (op_q (q_extract rfl rfl (by decide)) ?_)
  refine list_cons rfl (op_q (q_extract rfl rfl (by decide)) ?_)
  refine list_cons rfl (op_q (q_extract rfl rfl (by decide)) ?_)
  refine list_cons rfl (op_q (q_assign rfl (by decide)) ?_)
  refine list_cons rfl (op_q (q_assign rfl (by decide)) ?_)
  refine list_cons rfl (op_q (q_assign rfl (by decide)) ?_)
  refine list_nil ?_
  refine hK14 _ ?_; clear hK14 K14
  refine codeT.imp (σ' := [(0, .ext _), (2, .val (.bool _)), (3, .val (.int .i64 _)), (4, .val (.int .i64 _)), (5, .val (.int .i64 _)), (6, .val (.int .i64 _)), (7, .box 7 26 _), (8, .val (.bool _)), (9, .box 9 26 _), (10, .val (.bool _)), (11, .val (.int .i64 _)), (12, .val (.int .i64 _)), (13, .val (.int .i64 _)), (14, .val (.int .i64 _)), (15, .box 15 26 _), (16, .val (.bool _)), (17, .box 17 26 _), (18, .val (.bool _)), (19, .val (.int .i64 _)), (20, .val (.int .i64 _)), (21, .val (.int .i64 _)), (22, .box 22 26 _), (23, .val (.bool _)), (24, .box 24 26 _), (25, .val (.bool _)), (26, .val (.int .i64 _)), (27, .val (.int .i64 _)), (28, .val (.int .i64 _))]) ?_ (imp_covers ⟨rfl, rfl, rfl, rfl, rfl, rfl, rfl, rfl, rfl, rfl, rfl, rfl, rfl, rfl, rfl, rfl, rfl, rfl, rfl, rfl, rfl, rfl, rfl, rfl, rfl, rfl, rfl, rfl, trivial⟩)
  refine code_seq (fun K15 hK15 => ?_)
  refine code_region ?_
  refine list_cons rfl (op_q (q_move rfl (by decide)) ?_)
  refine list_cons rfl (op_q (q_move rfl (by decide)) ?_)
  refine list_cons rfl (op_q (q_move rfl (by decide)) ?_)
  refine list_cons rfl (op_call _ (impl_ChancesFor _ _ _) rfl rfl (by decide) (by decide) (by decide) rfl ?_)
  rintro _ rfl; generalize hLL : (if ((0 ≤ cD ∧ cD ≤ 127) ∧ FkP pD qD) ∧ 0 < sm9 cD pD qD 10 then chL cD pD qD (sm9 cD pD qD 10) 10 else []) = LL; have hll : LL.length ≤ 10 := (by rw [← hLL]; split; (· rw [chL_len]; omega); (· simp))
  refine list_cons rfl (op_q (q_move rfl (by decide)) ?_)
  refine list_cons rfl (op_q (q_extract rfl rfl (by decide)) ?_)
  refine list_cons rfl (op_q (q_extract rfl rfl (by decide)) ?_)
  refine list_cons rfl (op_q (q_assign rfl (by decide)) ?_)
  refine list_cons rfl (op_q (q_assign rfl (by decide)) ?_)
  refine list_nil ?_
  refine hK15 _ ?_; clear hK15 K15
  refine codeT.imp (σ' := ((0, .ext _) :: (2, .val (.bool _)) :: (3, .val (.int .i64 _)) :: (4, .val (.int .i64 _)) :: (5, .val (.int .i64 _)) :: (6, .val (.int .i64 _)) :: (7, .box 7 26 _) :: (8, .val (.bool _)) :: (9, .box 9 26 _) :: (10, .val (.bool _)) :: (11, .val (.int .i64 _)) :: (12, .val (.int .i64 _)) :: (13, .val (.int .i64 _)) :: (14, .val (.int .i64 _)) :: (15, .box 15 26 _) :: (16, .val (.bool _)) :: (17, .box 17 26 _) :: (18, .val (.bool _)) :: (19, .val (.int .i64 _)) :: (20, .val (.int .i64 _)) :: (21, .val (.int .i64 _)) :: (22, .box 22 26 _) :: (23, .val (.bool _)) :: (24, .box 24 26 _) :: (25, .val (.bool _)) :: (26, .val (.int .i64 _)) :: (27, .val (.int .i64 _)) :: (28, .val (.int .i64 _)) :: (29, .own 121 26 2 _ _) :: (30, .val (.bool _)) :: [])) ?_ (imp_covers ⟨rfl, rfl, rfl, rfl, rfl, rfl, rfl, rfl, rfl, rfl, rfl, rfl, rfl, rfl, rfl, rfl, rfl, rfl, rfl, rfl, rfl, rfl, rfl, rfl, rfl, rfl, rfl, rfl, rfl, rfl, trivial⟩)
  refine code_seq (fun K16 hK16 => ?_)
  refine code_region ?_
  refine list_cons rfl (op_q (q_move rfl (by decide)) ?_)
  refine list_cons rfl (op_q (q_move rfl (by decide)) ?_)
  refine list_cons rfl (op_q (q_move rfl (by decide)) ?_)
  refine list_cons rfl (op_call _ (spec_ChancesFor _ _ _) rfl rfl (by decide) (by decide) (by decide) rfl ?_)
  rintro _ rfl; rw [hLL]
  refine list_cons rfl (op_q (q_move rfl (by decide)) ?_)
  refine list_cons rfl (op_q (q_extract rfl rfl (by decide)) ?_)
  refine list_cons rfl (op_q (q_extract rfl rfl (by decide)) ?_)
  refine list_cons rfl (op_q (q_assign rfl (by decide)) ?_)
  refine list_cons rfl (op_q (q_assign rfl (by decide)) ?_)
  refine list_nil ?_
  refine hK16 _ ?_; clear hK16 K16
  refine codeT.imp (σ' := ((0, .ext _) :: (2, .val (.bool _)) :: (3, .val (.int .i64 _)) :: (4, .val (.int .i64 _)) :: (5, .val (.int .i64 _)) :: (6, .val (.int .i64 _)) :: (7, .box 7 26 _) :: (8, .val (.bool _)) :: (9, .box 9 26 _) :: (10, .val (.bool _)) :: (11, .val (.int .i64 _)) :: (12, .val (.int .i64 _)) :: (13, .val (.int .i64 _)) :: (14, .val (.int .i64 _)) :: (15, .box 15 26 _) :: (16, .val (.bool _)) :: (17, .box 17 26 _) :: (18, .val (.bool _)) :: (19, .val (.int .i64 _)) :: (20, .val (.int .i64 _)) :: (21, .val (.int .i64 _)) :: (22, .box 22 26 _) :: (23, .val (.bool _)) :: (24, .box 24 26 _) :: (25, .val (.bool _)) :: (26, .val (.int .i64 _)) :: (27, .val (.int .i64 _)) :: (28, .val (.int .i64 _)) :: (29, .own 121 26 2 _ _) :: (30, .val (.bool _)) :: (31, .own 128 26 2 _ _) :: (32, .val (.bool _)) :: [])) ?_ (imp_covers ⟨rfl, rfl, rfl, rfl, rfl, rfl, rfl, rfl, rfl, rfl, rfl, rfl, rfl, rfl, rfl, rfl, rfl, rfl, rfl, rfl, rfl, rfl, rfl, rfl, rfl, rfl, rfl, rfl, rfl, rfl, rfl, rfl, trivial⟩)
  refine codeT.imp (σ' := [(2, .val (.bool _)), (3, .val (.int .i64 _)), (4, .val (.int .i64 _)), (5, .val (.int .i64 _)), (6, .val (.int .i64 _)), (7, .box 7 26 _), (8, .val (.bool _)), (9, .box 9 26 _), (10, .val (.bool _)), (15, .box 15 26 _), (16, .val (.bool _)), (17, .box 17 26 _), (18, .val (.bool _)), (19, .val (.int .i64 _)), (20, .val (.int .i64 _)), (21, .val (.int .i64 _)), (22, .box 22 26 _), (23, .val (.bool _)), (24, .box 24 26 _), (25, .val (.bool _)), (29, .own 121 26 2 _ _), (30, .val (.bool _)), (31, .own 128 26 2 _ _), (32, .val (.bool _))]) ?_ (imp_covers ⟨rfl, rfl, rfl, rfl, rfl, rfl, rfl, rfl, rfl, rfl, rfl, rfl, rfl, rfl, rfl, rfl, rfl, rfl, rfl, rfl, rfl, rfl, rfl, rfl, trivial⟩)
  refine code_seq_same ?_ ?_
  · skip
    refine code_seq (fun K17 hK17 => ?_)
    refine code_region ?_
    refine list_cons rfl (op_q (q_load_agg agg_26 7 (.inr ⟨rfl, _, rfl⟩) rfl rfl (by first | decide | omega | exact Nat.le_refl _ | (simp; done) | (simp; omega)) (by first | rfl | exact flat_part (flat_map _ (fun _ => rfl) _) _ _ | exact flat_part (fl_flat _) _ _) (by decide)) ?_)
    refine list_cons rfl (op_q (q_load_agg agg_26 9 (.inr ⟨rfl, _, rfl⟩) rfl rfl (by first | decide | omega | exact Nat.le_refl _ | (simp; done) | (simp; omega)) (by first | rfl | exact flat_part (flat_map _ (fun _ => rfl) _) _ _ | exact flat_part (fl_flat _) _ _) (by decide)) ?_)
    refine list_cons rfl (op_q (q_aggne (by decide) agg_26 eqty_26 eqg_26 rfl rfl (by first | exact ⟨_, _, rfl, ⟨_, rfl⟩, ⟨_, _, rfl, ⟨_, rfl⟩, trivial⟩⟩) (by first | exact ⟨_, _, rfl, ⟨_, rfl⟩, ⟨_, _, rfl, ⟨_, rfl⟩, trivial⟩⟩) rfl rfl (by decide)) ?_)
    refine list_cons rfl (op_q (q_move rfl (by decide)) ?_)
    refine list_guard_d rfl rfl rfl rfl (by decide) rfl (by decide) (fun h2 => ?_) (fun h2 => ?_)
    · simp only [Bool.false_eq_true, if_true, if_false, Decidable.not_not] at h2
      (try simp only [Decidable.not_not] at h2); (try have hC : CfP cA aA pA qA := h2); (try have hN : (0 ≤ nC ∧ nC ≤ 9) ∧ FkP pC qC := h2); (try (have hW : ((0 ≤ cD ∧ cD ≤ 127) ∧ FkP pD qD) ∧ 0 < sm9 cD pD qD 10 := h2; have hL0 := hLL; rw [if_pos hW] at hL0))
      refine id (op_q (q_move rfl (by decide)) ?_)
      refine list_guard_y rfl rfl rfl rfl (by decide) rfl ?_
      refine id (op_q (q_move rfl (by decide)) ?_)
      refine list_guard_y rfl rfl rfl rfl (by decide) rfl ?_
      refine id (op_q (q_bne Tryd.underlying4 rfl rfl (by decide)) ?_)
      refine list_cons rfl (op_q (q_pick rfl rfl (by decide)) ?_)
      refine list_cons rfl (op_q (q_move rfl (by decide)) ?_)
      refine list_guard_d rfl rfl rfl rfl (by decide) rfl (by decide) (fun h3 => ?_) (fun h3 => ?_)
      · simp only [Bool.false_eq_true, if_true, if_false, Decidable.not_not] at h3
        (try simp only [Decidable.not_not] at h3); (try have hC : CfP cA aA pA qA := h3); (try have hN : (0 ≤ nC ∧ nC ≤ 9) ∧ FkP pC qC := h3); (try (have hW : ((0 ≤ cD ∧ cD ≤ 127) ∧ FkP pD qD) ∧ 0 < sm9 cD pD qD 10 := h3; have hL0 := hLL; rw [if_pos hW] at hL0))
        refine id (op_q (q_load_agg agg_26 15 (.inr ⟨rfl, _, rfl⟩) rfl rfl (by first | decide | omega | exact Nat.le_refl _ | (simp; done) | (simp; omega)) (by first | rfl | exact flat_part (flat_map _ (fun _ => rfl) _) _ _ | exact flat_part (fl_flat _) _ _) (by decide)) ?_)
        refine list_guard_y rfl rfl rfl rfl (by decide) rfl ?_
        refine id (op_q (q_load_agg agg_26 17 (.inr ⟨rfl, _, rfl⟩) rfl rfl (by first | decide | omega | exact Nat.le_refl _ | (simp; done) | (simp; omega)) (by first | rfl | exact flat_part (flat_map _ (fun _ => rfl) _) _ _ | exact flat_part (fl_flat _) _ _) (by decide)) ?_)
        refine list_guard_y rfl rfl rfl rfl (by decide) rfl ?_
        refine id (op_q (q_aggne (by decide) agg_26 eqty_26 eqg_26 rfl rfl (by first | exact ⟨_, _, rfl, ⟨_, rfl⟩, ⟨_, _, rfl, ⟨_, rfl⟩, trivial⟩⟩) (by first | exact ⟨_, _, rfl, ⟨_, rfl⟩, ⟨_, _, rfl, ⟨_, rfl⟩, trivial⟩⟩) rfl rfl (by decide)) ?_)
        refine list_cons rfl (op_q (q_pick rfl rfl (by decide)) ?_)
        refine list_cons rfl (op_q (q_move rfl (by decide)) ?_)
        refine list_guard_d rfl rfl rfl rfl (by decide) rfl (by decide) (fun h4 => ?_) (fun h4 => ?_)
        · simp only [Bool.false_eq_true, if_true, if_false, Decidable.not_not] at h4
          (try simp only [Decidable.not_not] at h4); (try have hC : CfP cA aA pA qA := h4); (try have hN : (0 ≤ nC ∧ nC ≤ 9) ∧ FkP pC qC := h4); (try (have hW : ((0 ≤ cD ∧ cD ≤ 127) ∧ FkP pD qD) ∧ 0 < sm9 cD pD qD 10 := h4; have hL0 := hLL; rw [if_pos hW] at hL0))
          refine id (op_q (q_move rfl (by decide)) ?_)
          refine list_guard_y rfl rfl rfl rfl (by decide) rfl ?_
          refine id (op_q (q_move rfl (by decide)) ?_)
          refine list_guard_y rfl rfl rfl rfl (by decide) rfl ?_
          refine id (op_q (q_bne Tryd.underlying4 rfl rfl (by decide)) ?_)
          refine list_cons rfl (op_q (q_pick rfl rfl (by decide)) ?_)
          refine list_cons rfl (op_q (q_move rfl (by decide)) ?_)
          refine list_guard_d rfl rfl rfl rfl (by decide) rfl (by decide) (fun h5 => ?_) (fun h5 => ?_)
          · simp only [Bool.false_eq_true, if_true, if_false, Decidable.not_not] at h5
            (try simp only [Decidable.not_not] at h5); (try have hC : CfP cA aA pA qA := h5); (try have hN : (0 ≤ nC ∧ nC ≤ 9) ∧ FkP pC qC := h5); (try (have hW : ((0 ≤ cD ∧ cD ≤ 127) ∧ FkP pD qD) ∧ 0 < sm9 cD pD qD 10 := h5; have hL0 := hLL; rw [if_pos hW] at hL0))
            refine id (op_q (q_load_agg agg_26 22 (.inr ⟨rfl, _, rfl⟩) rfl rfl (by first | decide | omega | exact Nat.le_refl _ | (simp; done) | (simp; omega)) (by first | rfl | exact flat_part (flat_map _ (fun _ => rfl) _) _ _ | exact flat_part (fl_flat _) _ _) (by decide)) ?_)
            refine list_guard_y rfl rfl rfl rfl (by decide) rfl ?_
            refine id (op_q (q_load_agg agg_26 24 (.inr ⟨rfl, _, rfl⟩) rfl rfl (by first | decide | omega | exact Nat.le_refl _ | (simp; done) | (simp; omega)) (by first | rfl | exact flat_part (flat_map _ (fun _ => rfl) _) _ _ | exact flat_part (fl_flat _) _ _) (by decide)) ?_)
            refine list_guard_y rfl rfl rfl rfl (by decide) rfl ?_
            refine id (op_q (q_aggne (by decide) agg_26 eqty_26 eqg_26 rfl rfl (by first | exact ⟨_, _, rfl, ⟨_, rfl⟩, ⟨_, _, rfl, ⟨_, rfl⟩, trivial⟩⟩) (by first | exact ⟨_, _, rfl, ⟨_, rfl⟩, ⟨_, _, rfl, ⟨_, rfl⟩, trivial⟩⟩) rfl rfl (by decide)) ?_)
            refine list_cons rfl (op_q (q_pick rfl rfl (by decide)) ?_)
            refine list_cons rfl (op_q (q_move rfl (by decide)) ?_)
            refine list_guard_d rfl rfl rfl rfl (by decide) rfl (by decide) (fun h6 => ?_) (fun h6 => ?_)
            · simp only [Bool.false_eq_true, if_true, if_false, Decidable.not_not] at h6
              (try simp only [Decidable.not_not] at h6); (try have hC : CfP cA aA pA qA := h6); (try have hN : (0 ≤ nC ∧ nC ≤ 9) ∧ FkP pC qC := h6); (try (have hW : ((0 ≤ cD ∧ cD ≤ 127) ∧ FkP pD qD) ∧ 0 < sm9 cD pD qD 10 := h6; have hL0 := hLL; rw [if_pos hW] at hL0))
              refine id (op_q (q_move rfl (by decide)) ?_)
              refine list_guard_y rfl rfl rfl rfl (by decide) rfl ?_
              refine id (op_q (q_move rfl (by decide)) ?_)
              refine list_guard_y rfl rfl rfl rfl (by decide) rfl ?_
              refine id (op_q (q_bne Tryd.underlying4 rfl rfl (by decide)) ?_)
              refine list_cons rfl (op_q (q_pick rfl rfl (by decide)) ?_)
              refine list_cons rfl (op_q (q_move rfl (by decide)) ?_)
              refine list_guard_d rfl rfl rfl rfl (by decide) rfl (by decide) (fun h7 => ?_) (fun h7 => ?_)
              · simp only [Bool.false_eq_true, if_true, if_false, Decidable.not_not] at h7
                (try simp only [Decidable.not_not] at h7); (try have hC : CfP cA aA pA qA := h7); (try have hN : (0 ≤ nC ∧ nC ≤ 9) ∧ FkP pC qC := h7); (try (have hW : ((0 ≤ cD ∧ cD ≤ 127) ∧ FkP pD qD) ∧ 0 < sm9 cD pD qD 10 := h7; have hL0 := hLL; rw [if_pos hW] at hL0))
                refine id (op_q (q_move rfl (by decide)) ?_)
                refine list_guard_y rfl rfl rfl rfl (by decide) rfl ?_
                refine id (op_q (q_move rfl (by decide)) ?_)
                refine list_guard_y rfl rfl rfl rfl (by decide) rfl ?_
                refine id (op_q (q_bne Tryd.underlying4 rfl rfl (by decide)) ?_)
                refine list_cons rfl (op_q (q_pick rfl rfl (by decide)) ?_)
                refine list_cons rfl (op_q (q_move rfl (by decide)) ?_)
                refine list_guard_d rfl rfl rfl rfl (by decide) rfl (by decide) (fun h8 => ?_) (fun h8 => ?_)
                · simp only [Bool.false_eq_true, if_true, if_false, Decidable.not_not] at h8
                  (try simp only [Decidable.not_not] at h8); (try have hC : CfP cA aA pA qA := h8); (try have hN : (0 ≤ nC ∧ nC ≤ 9) ∧ FkP pC qC := h8); (try (have hW : ((0 ≤ cD ∧ cD ≤ 127) ∧ FkP pD qD) ∧ 0 < sm9 cD pD qD 10 := h8; have hL0 := hLL; rw [if_pos hW] at hL0))
                  refine id (op_q (q_move rfl (by decide)) ?_)
                  refine list_guard_y rfl rfl rfl rfl (by decide) rfl ?_
                  refine id (op_q (q_move rfl (by decide)) ?_)
                  refine list_guard_y rfl rfl rfl rfl (by decide) rfl ?_
                  refine id (op_call _ (vPairs_c _ (by first | omega | (simp; omega))) rfl rfl (by decide) (by decide) (by decide) rfl ?_)
                  rintro _ rfl
                  refine list_guard_y rfl rfl rfl rfl (by decide) rfl ?_
                  refine id (op_q (by first | exact q_notd rfl (by decide) | exact q_not rfl (by decide)) ?_)
                  refine list_cons rfl (op_q (q_pick rfl rfl (by decide)) ?_)
                  refine list_nil ?_
                  refine hK17 _ ?_; clear hK17 K17
                  refine codeT.imp (σ' := [(2, .val (.bool _)), (3, .val (.int .i64 _)), (4, .val (.int .i64 _)), (5, .val (.int .i64 _)), (6, .val (.int .i64 _)), (7, .box 7 26 _), (8, .val (.bool _)), (9, .box 9 26 _), (10, .val (.bool _)), (15, .box 15 26 _), (16, .val (.bool _)), (17, .box 17 26 _), (18, .val (.bool _)), (19, .val (.int .i64 _)), (20, .val (.int .i64 _)), (21, .val (.int .i64 _)), (22, .box 22 26 _), (23, .val (.bool _)), (24, .box 24 26 _), (25, .val (.bool _)), (29, .own 121 26 2 _ _), (30, .val (.bool _)), (31, .own 128 26 2 _ _), (32, .val (.bool _)), (169, .val (.bool _))]) ?_ (imp_covers ⟨rfl, rfl, rfl, rfl, rfl, rfl, rfl, rfl, rfl, rfl, rfl, rfl, rfl, rfl, rfl, rfl, rfl, rfl, rfl, rfl, rfl, rfl, rfl, rfl, rfl, trivial⟩)
                  refine code_cond_f rfl ?_
                  refine code_skip ?_
                  exact then_n (imp_covers ⟨rfl, rfl, rfl, rfl, rfl, rfl, rfl, rfl, rfl, rfl, rfl, rfl, rfl, rfl, rfl, rfl, rfl, rfl, rfl, rfl, rfl, rfl, rfl, rfl, trivial⟩)
                simp only [Bool.false_eq_true, if_true, if_false, Decidable.not_not] at h8
                (try simp only [Decidable.not_not] at h8); (try have hC : CfP cA aA pA qA := h8); (try have hN : (0 ≤ nC ∧ nC ≤ 9) ∧ FkP pC qC := h8); (try (have hW : ((0 ≤ cD ∧ cD ≤ 127) ∧ FkP pD qD) ∧ 0 < sm9 cD pD qD 10 := h8; have hL0 := hLL; rw [if_pos hW] at hL0))
                exfalso
                first | exact absurd rfl h8 | exact h8 ⟨rfl, rfl, trivial⟩ | exact h8 trivial | (simp at h8; done)
              simp only [Bool.false_eq_true, if_true, if_false, Decidable.not_not] at h7
              (try simp only [Decidable.not_not] at h7); (try have hC : CfP cA aA pA qA := h7); (try have hN : (0 ≤ nC ∧ nC ≤ 9) ∧ FkP pC qC := h7); (try (have hW : ((0 ≤ cD ∧ cD ≤ 127) ∧ FkP pD qD) ∧ 0 < sm9 cD pD qD 10 := h7; have hL0 := hLL; rw [if_pos hW] at hL0))
              exfalso
              first | exact absurd rfl h7 | exact h7 ⟨rfl, rfl, trivial⟩ | exact h7 trivial | (simp at h7; done)
            simp only [Bool.false_eq_true, if_true, if_false, Decidable.not_not] at h6
            (try simp only [Decidable.not_not] at h6); (try have hC : CfP cA aA pA qA := h6); (try have hN : (0 ≤ nC ∧ nC ≤ 9) ∧ FkP pC qC := h6); (try (have hW : ((0 ≤ cD ∧ cD ≤ 127) ∧ FkP pD qD) ∧ 0 < sm9 cD pD qD 10 := h6; have hL0 := hLL; rw [if_pos hW] at hL0))
            exfalso
            first | exact absurd rfl h6 | exact h6 ⟨rfl, rfl, trivial⟩ | exact h6 trivial | (simp at h6; done)
          simp only [Bool.false_eq_true, if_true, if_false, Decidable.not_not] at h5
          (try simp only [Decidable.not_not] at h5); (try have hC : CfP cA aA pA qA := h5); (try have hN : (0 ≤ nC ∧ nC ≤ 9) ∧ FkP pC qC := h5); (try (have hW : ((0 ≤ cD ∧ cD ≤ 127) ∧ FkP pD qD) ∧ 0 < sm9 cD pD qD 10 := h5; have hL0 := hLL; rw [if_pos hW] at hL0))
          exfalso
          first | exact absurd rfl h5 | exact h5 ⟨rfl, rfl, trivial⟩ | exact h5 trivial | (simp at h5; done)
        simp only [Bool.false_eq_true, if_true, if_false, Decidable.not_not] at h4
        (try simp only [Decidable.not_not] at h4); (try have hC : CfP cA aA pA qA := h4); (try have hN : (0 ≤ nC ∧ nC ≤ 9) ∧ FkP pC qC := h4); (try (have hW : ((0 ≤ cD ∧ cD ≤ 127) ∧ FkP pD qD) ∧ 0 < sm9 cD pD qD 10 := h4; have hL0 := hLL; rw [if_pos hW] at hL0))
        exfalso
        first | exact absurd rfl h4 | exact h4 ⟨rfl, rfl, trivial⟩ | exact h4 trivial | (simp at h4; done)
      simp only [Bool.false_eq_true, if_true, if_false, Decidable.not_not] at h3
      (try simp only [Decidable.not_not] at h3); (try have hC : CfP cA aA pA qA := h3); (try have hN : (0 ≤ nC ∧ nC ≤ 9) ∧ FkP pC qC := h3); (try (have hW : ((0 ≤ cD ∧ cD ≤ 127) ∧ FkP pD qD) ∧ 0 < sm9 cD pD qD 10 := h3; have hL0 := hLL; rw [if_pos hW] at hL0))
      exfalso
      first | exact absurd rfl h3 | exact h3 ⟨rfl, rfl, trivial⟩ | exact h3 trivial | (simp at h3; done)
    simp only [Bool.false_eq_true, if_true, if_false, Decidable.not_not] at h2
    (try simp only [Decidable.not_not] at h2); (try have hC : CfP cA aA pA qA := h2); (try have hN : (0 ≤ nC ∧ nC ≤ 9) ∧ FkP pC qC := h2); (try (have hW : ((0 ≤ cD ∧ cD ≤ 127) ∧ FkP pD qD) ∧ 0 < sm9 cD pD qD 10 := h2; have hL0 := hLL; rw [if_pos hW] at hL0))
    exfalso
    first | exact absurd rfl h2 | exact h2 ⟨rfl, rfl, trivial⟩ | exact h2 trivial | (simp at h2; done)
  refine codeT.imp (σ' := [(2, .val (.bool _)), (3, .val (.int .i64 _)), (4, .val (.int .i64 _)), (5, .val (.int .i64 _)), (6, .val (.int .i64 _)), (7, .box 7 26 _), (8, .val (.bool _)), (19, .val (.int .i64 _)), (20, .val (.int .i64 _)), (21, .val (.int .i64 _)), (22, .box 22 26 _), (23, .val (.bool _)), (29, .own 121 26 2 _ _), (30, .val (.bool _))]) ?_ (imp_covers ⟨rfl, rfl, rfl, rfl, rfl, rfl, rfl, rfl, rfl, rfl, rfl, rfl, rfl, rfl, trivial⟩)
  refine code_seq_same ?_ ?_
  · skip
    refine code_seq (fun K18 hK18 => ?_)
    refine code_region ?_
    refine list_cons rfl (op_q (q_move rfl (by decide)) ?_)
    refine list_nil ?_
    refine hK18 _ ?_; clear hK18 K18
    refine code_cond_d rfl (fun h9 => ?_) (fun h9 => ?_)
    · skip
      (try simp only [Decidable.not_not] at h9); (try have hC : CfP cA aA pA qA := h9); (try have hN : (0 ≤ nC ∧ nC ≤ 9) ∧ FkP pC qC := h9); (try (have hW : ((0 ≤ cD ∧ cD ≤ 127) ∧ FkP pD qD) ∧ 0 < sm9 cD pD qD 10 := h9; have hL0 := hLL; rw [if_pos hW] at hL0))
      refine code_seq (fun K19 hK19 => ?_)
      refine code_region ?_
      refine list_cons rfl (op_q (q_move rfl (by decide)) ?_)
      refine list_cons rfl (op_q (q_move rfl (by decide)) ?_)
      refine list_cons rfl (op_q (q_move rfl (by decide)) ?_)
      refine list_cons rfl (op_q (q_move rfl (by decide)) ?_)
      refine list_cons rfl (op_call _ (impl_ChanceFlicker _ _ _ _) rfl rfl (by decide) (by decide) (by decide) rfl ?_)
      rintro _ rfl
      refine list_cons rfl (op_q (q_move rfl (by decide)) ?_)
      refine list_cons rfl (op_q (q_extract rfl rfl (by decide)) ?_)
      refine list_cons rfl (op_q (q_extract rfl rfl (by decide)) ?_)
      refine list_cons rfl (op_alloc zt_26 (by decide) (by decide) rfl ?_)
      refine list_cons rfl (op_store (agg_26).2 33 [33] (by intro t ht; simp only [List.mem_cons, List.not_mem_nil, or_false] at ht; subst ht; rfl) (.inr ⟨rfl, _, rfl⟩) rfl rfl rfl rfl (by first | rfl | exact flat_part (flat_map _ (fun _ => rfl) _) _ _ | exact flat_map _ (fun _ => rfl) _) (by first | rfl | (simp [PV.cells]; done)) (by first | decide | omega | exact Nat.le_refl _ | (simp; done) | (simp; omega)) (by decide) rfl ?_)
      refine list_cons rfl (op_q (q_assign rfl (by decide)) ?_)
      refine list_nil ?_
      refine hK19 _ ?_; clear hK19 K19
      refine codeT.imp (σ' := [(2, .val (.bool _)), (3, .val (.int .i64 _)), (4, .val (.int .i64 _)), (5, .val (.int .i64 _)), (6, .val (.int .i64 _)), (7, .box 7 26 _), (8, .val (.bool _)), (19, .val (.int .i64 _)), (20, .val (.int .i64 _)), (21, .val (.int .i64 _)), (22, .box 22 26 _), (23, .val (.bool _)), (29, .own 121 26 2 _ _), (30, .val (.bool _)), (33, .box 33 26 _), (34, .val (.bool _))]) ?_ (imp_covers ⟨rfl, rfl, rfl, rfl, rfl, rfl, rfl, rfl, rfl, rfl, rfl, rfl, rfl, rfl, rfl, rfl, trivial⟩)
      refine code_seq (fun K20 hK20 => ?_)
      refine code_region ?_
      refine list_cons rfl (op_q (q_move rfl (by decide)) ?_)
      refine list_cons rfl (op_q (by first | exact q_notd rfl (by decide) | exact q_not rfl (by decide)) ?_)
      refine list_cons rfl (op_q (q_move rfl (by decide)) ?_)
      refine list_guard_d rfl rfl rfl rfl (by decide) rfl (by decide) (fun h10 => ?_) (fun h10 => ?_)
      · simp only [Bool.false_eq_true, if_true, if_false, Decidable.not_not] at h10
        (try simp only [Decidable.not_not] at h10); (try have hC : CfP cA aA pA qA := h10); (try have hN : (0 ≤ nC ∧ nC ≤ 9) ∧ FkP pC qC := h10); (try (have hW : ((0 ≤ cD ∧ cD ≤ 127) ∧ FkP pD qD) ∧ 0 < sm9 cD pD qD 10 := h10; have hL0 := hLL; rw [if_pos hW] at hL0))
        refine id (op_q (q_load_agg agg_26 33 (.inr ⟨rfl, _, rfl⟩) rfl rfl (by first | decide | omega | exact Nat.le_refl _ | (simp; done) | (simp; omega)) (by first | rfl | exact flat_part (flat_map _ (fun _ => rfl) _) _ _ | exact flat_part (fl_flat _) _ _) (by decide)) ?_)
        refine list_guard_y rfl rfl rfl rfl (by decide) rfl ?_
        refine id (op_q (q_load_agg agg_26 7 (.inr ⟨rfl, _, rfl⟩) rfl rfl (by first | decide | omega | exact Nat.le_refl _ | (simp; done) | (simp; omega)) (by first | rfl | exact flat_part (flat_map _ (fun _ => rfl) _) _ _ | exact flat_part (fl_flat _) _ _) (by decide)) ?_)
        refine list_guard_y rfl rfl rfl rfl (by decide) rfl ?_
        refine id (op_q (q_aggne (by decide) agg_26 eqty_26 eqg_26 rfl rfl (by first | exact ⟨_, _, rfl, ⟨_, rfl⟩, ⟨_, _, rfl, ⟨_, rfl⟩, trivial⟩⟩) (by first | exact ⟨_, _, rfl, ⟨_, rfl⟩, ⟨_, _, rfl, ⟨_, rfl⟩, trivial⟩⟩) rfl rfl (by decide)) ?_)
        refine list_cons rfl (op_q (q_pick rfl rfl (by decide)) ?_)
        refine list_cons rfl (op_q (q_move rfl (by decide)) ?_)
        refine list_guard_d rfl rfl rfl rfl (by decide) rfl (by decide) (fun h11 => ?_) (fun h11 => ?_)
        · simp only [Bool.false_eq_true, if_true, if_false, Decidable.not_not] at h11
          (try simp only [Decidable.not_not] at h11); (try have hC : CfP cA aA pA qA := h11); (try have hN : (0 ≤ nC ∧ nC ≤ 9) ∧ FkP pC qC := h11); (try (have hW : ((0 ≤ cD ∧ cD ≤ 127) ∧ FkP pD qD) ∧ 0 < sm9 cD pD qD 10 := h11; have hL0 := hLL; rw [if_pos hW] at hL0))
          refine id (op_q (q_move rfl (by decide)) ?_)
          refine list_guard_y rfl rfl rfl rfl (by decide) rfl ?_
          refine id (op_q (q_eq rfl rfl (by decide)) ?_)
          refine list_guard_y rfl rfl rfl rfl (by decide) rfl ?_
          refine id (op_q (q_move rfl (by decide)) ?_)
          refine list_guard_d rfl rfl rfl rfl (by decide) rfl (by decide) (fun h12 => ?_) (fun h12 => ?_)
          · simp only [Bool.false_eq_true, if_true, if_false, Decidable.not_not] at h12
            (try simp only [Decidable.not_not] at h12); (try have hC : CfP cA aA pA qA := h12); (try have hN : (0 ≤ nC ∧ nC ≤ 9) ∧ FkP pC qC := h12); (try (have hW : ((0 ≤ cD ∧ cD ≤ 127) ∧ FkP pD qD) ∧ 0 < sm9 cD pD qD 10 := h12; have hL0 := hLL; rw [if_pos hW] at hL0))
            refine id (op_q (q_indexAddr_arr arr_26 rfl rfl rfl (by omega) (by omega) (by decide)) ?_)
            refine list_guard_y rfl rfl rfl rfl (by decide) rfl ?_
            refine id (op_q (q_load one_3 7 rfl rfl rfl (by first | rfl | exact get_map1 _ 0 _ (by first | omega | (simp; omega))) (by decide)) ?_)
            refine list_guard_y rfl rfl rfl rfl (by decide) rfl ?_
            refine id (op_q (q_ne rfl rfl (by decide)) ?_)
            refine list_guard_y rfl rfl rfl rfl (by decide) rfl ?_
            refine id (op_q (q_move rfl (by decide)) ?_)
            refine list_guard_y rfl rfl rfl rfl (by decide) rfl ?_
            refine id (op_q (q_move rfl (by decide)) ?_)
            refine list_guard_y rfl rfl rfl rfl (by decide) rfl ?_
            refine id (op_q (q_eq rfl rfl (by decide)) ?_)
            refine list_guard_y rfl rfl rfl rfl (by decide) rfl ?_
            refine id (op_q (q_bne Tryd.underlying4 rfl rfl (by decide)) ?_)
            refine list_guard_y rfl rfl rfl rfl (by decide) rfl ?_
            refine id (op_q (q_pick rfl rfl (by decide)) ?_)
            refine list_cons rfl (op_q (q_pick rfl rfl (by decide)) ?_)
            refine list_nil ?_
            refine hK20 _ ?_; clear hK20 K20
            refine codeT.imp (σ' := [(2, .val (.bool _)), (3, .val (.int .i64 _)), (4, .val (.int .i64 _)), (5, .val (.int .i64 _)), (6, .val (.int .i64 _)), (7, .box 7 26 _), (8, .val (.bool _)), (19, .val (.int .i64 _)), (20, .val (.int .i64 _)), (21, .val (.int .i64 _)), (22, .box 22 26 _), (23, .val (.bool _)), (29, .own 121 26 2 _ _), (30, .val (.bool _)), (33, .box 33 26 _), (34, .val (.bool _)), (198, .val (.bool _))]) ?_ (imp_covers ⟨rfl, rfl, rfl, rfl, rfl, rfl, rfl, rfl, rfl, rfl, rfl, rfl, rfl, rfl, rfl, rfl, rfl, trivial⟩)
            refine code_cond_d rfl (fun h13 => ?_) (fun h13 => ?_)
            · skip
              (try simp only [Decidable.not_not] at h13); (try have hC : CfP cA aA pA qA := h13); (try have hN : (0 ≤ nC ∧ nC ≤ 9) ∧ FkP pC qC := h13); (try (have hW : ((0 ≤ cD ∧ cD ≤ 127) ∧ FkP pD qD) ∧ 0 < sm9 cD pD qD 10 := h13; have hL0 := hLL; rw [if_pos hW] at hL0))
              exfalso
              first | exact h13 (decide_eq_decide.mpr (flk_none hC (by assumption)))
            (try simp only [Decidable.not_not] at h13); (try have hC : CfP cA aA pA qA := h13); (try have hN : (0 ≤ nC ∧ nC ≤ 9) ∧ FkP pC qC := h13); (try (have hW : ((0 ≤ cD ∧ cD ≤ 127) ∧ FkP pD qD) ∧ 0 < sm9 cD pD qD 10 := h13; have hL0 := hLL; rw [if_pos hW] at hL0))
            refine code_skip ?_
            exact then_n (imp_covers ⟨rfl, rfl, rfl, rfl, rfl, rfl, rfl, rfl, rfl, rfl, rfl, rfl, rfl, rfl, trivial⟩)
          simp only [Bool.false_eq_true, if_true, if_false, Decidable.not_not] at h12
          (try simp only [Decidable.not_not] at h12); (try have hC : CfP cA aA pA qA := h12); (try have hN : (0 ≤ nC ∧ nC ≤ 9) ∧ FkP pC qC := h12); (try (have hW : ((0 ≤ cD ∧ cD ≤ 127) ∧ FkP pD qD) ∧ 0 < sm9 cD pD qD 10 := h12; have hL0 := hLL; rw [if_pos hW] at hL0))
          refine list_guard_nT rfl rfl rfl rfl (by decide) (by decide) ?_
          refine list_guard_nT rfl rfl rfl rfl (by decide) (by decide) ?_
          refine list_guard_nT rfl rfl rfl rfl (by decide) (by decide) ?_
          refine list_guard_nT rfl rfl rfl rfl (by decide) (by decide) ?_
          refine list_guard_nT rfl rfl rfl rfl (by decide) (by decide) ?_
          refine list_guard_nT rfl rfl rfl rfl (by decide) (by decide) ?_
          refine list_guard_y rfl rfl rfl rfl (by decide) rfl ?_
          refine id (op_q (q_pick rfl rfl (by decide)) ?_)
          refine list_cons rfl (op_q (q_pick rfl rfl (by decide)) ?_)
          refine list_nil ?_
          refine hK20 _ ?_; clear hK20 K20
          refine codeT.imp (σ' := [(2, .val (.bool _)), (3, .val (.int .i64 _)), (4, .val (.int .i64 _)), (5, .val (.int .i64 _)), (6, .val (.int .i64 _)), (7, .box 7 26 _), (8, .val (.bool _)), (19, .val (.int .i64 _)), (20, .val (.int .i64 _)), (21, .val (.int .i64 _)), (22, .box 22 26 _), (23, .val (.bool _)), (29, .own 121 26 2 _ _), (30, .val (.bool _)), (33, .box 33 26 _), (34, .val (.bool _)), (198, .val (.bool _))]) ?_ (imp_covers ⟨rfl, rfl, rfl, rfl, rfl, rfl, rfl, rfl, rfl, rfl, rfl, rfl, rfl, rfl, rfl, rfl, rfl, trivial⟩)
          refine code_cond_f rfl ?_
          refine code_skip ?_
          exact then_n (imp_covers ⟨rfl, rfl, rfl, rfl, rfl, rfl, rfl, rfl, rfl, rfl, rfl, rfl, rfl, rfl, trivial⟩)
        simp only [Bool.false_eq_true, if_true, if_false, Decidable.not_not] at h11
        (try simp only [Decidable.not_not] at h11); (try have hC : CfP cA aA pA qA := h11); (try have hN : (0 ≤ nC ∧ nC ≤ 9) ∧ FkP pC qC := h11); (try (have hW : ((0 ≤ cD ∧ cD ≤ 127) ∧ FkP pD qD) ∧ 0 < sm9 cD pD qD 10 := h11; have hL0 := hLL; rw [if_pos hW] at hL0))
        exfalso
        first | exact h11 (flk_same hC)
      simp only [Bool.false_eq_true, if_true, if_false, Decidable.not_not] at h10
      (try simp only [Decidable.not_not] at h10); (try have hC : CfP cA aA pA qA := h10); (try have hN : (0 ≤ nC ∧ nC ≤ 9) ∧ FkP pC qC := h10); (try (have hW : ((0 ≤ cD ∧ cD ≤ 127) ∧ FkP pD qD) ∧ 0 < sm9 cD pD qD 10 := h10; have hL0 := hLL; rw [if_pos hW] at hL0))
      exfalso
      first | exact h10 (flk_back hC)
    (try simp only [Decidable.not_not] at h9); (try have hC : CfP cA aA pA qA := h9); (try have hN : (0 ≤ nC ∧ nC ≤ 9) ∧ FkP pC qC := h9); (try (have hW : ((0 ≤ cD ∧ cD ≤ 127) ∧ FkP pD qD) ∧ 0 < sm9 cD pD qD 10 := h9; have hL0 := hLL; rw [if_pos hW] at hL0))
    refine code_skip ?_
    exact then_n (imp_covers ⟨rfl, rfl, rfl, rfl, rfl, rfl, rfl, rfl, rfl, rfl, rfl, rfl, rfl, rfl, trivial⟩)
  refine code_seq (fun K21 hK21 => ?_)
  refine code_seq (fun K22 hK22 => ?_)
  refine code_region ?_
  refine list_cons rfl (op_q (q_move rfl (by decide)) ?_)
  refine list_nil ?_
  refine hK22 _ ?_; clear hK22 K22
  refine code_cond_d rfl (fun h14 => ?_) (fun h14 => ?_)
  · skip
    (try simp only [Decidable.not_not] at h14); (try have hC : CfP cA aA pA qA := h14); (try have hN : (0 ≤ nC ∧ nC ≤ 9) ∧ FkP pC qC := h14); (try (have hW : ((0 ≤ cD ∧ cD ≤ 127) ∧ FkP pD qD) ∧ 0 < sm9 cD pD qD 10 := h14; have hL0 := hLL; rw [if_pos hW] at hL0))
    refine code_seq (fun K23 hK23 => ?_)
    refine code_region ?_
    refine list_cons rfl (op_q (q_load_agg agg_26 22 (.inr ⟨rfl, _, rfl⟩) rfl rfl (by first | decide | omega | exact Nat.le_refl _ | (simp; done) | (simp; omega)) (by first | rfl | exact flat_part (flat_map _ (fun _ => rfl) _) _ _ | exact flat_part (fl_flat _) _ _) (by decide)) ?_)
    refine list_cons rfl (op_alloc zt_26 (by decide) (by decide) rfl ?_)
    refine list_cons rfl (op_store (agg_26).2 35 [35] (by intro t ht; simp only [List.mem_cons, List.not_mem_nil, or_false] at ht; subst ht; rfl) (.inr ⟨rfl, _, rfl⟩) rfl rfl rfl rfl (by first | rfl | exact flat_part (flat_map _ (fun _ => rfl) _) _ _ | exact flat_map _ (fun _ => rfl) _) (by first | rfl | (simp [PV.cells]; done)) (by first | decide | omega | exact Nat.le_refl _ | (simp; done) | (simp; omega)) (by decide) rfl ?_)
    refine list_nil ?_
    refine hK23 _ ?_; clear hK23 K23
    refine codeT.imp (σ' := [(2, .val (.bool _)), (3, .val (.int .i64 _)), (4, .val (.int .i64 _)), (5, .val (.int .i64 _)), (6, .val (.int .i64 _)), (7, .box 7 26 _), (8, .val (.bool _)), (19, .val (.int .i64 _)), (20, .val (.int .i64 _)), (21, .val (.int .i64 _)), (22, .box 22 26 _), (23, .val (.bool _)), (29, .own 121 26 2 _ _), (30, .val (.bool _)), (35, .box 35 26 _)]) ?_ (imp_covers ⟨rfl, rfl, rfl, rfl, rfl, rfl, rfl, rfl, rfl, rfl, rfl, rfl, rfl, rfl, rfl, trivial⟩)
    refine code_seq (fun K24 hK24 => ?_)
    refine code_seq (fun K25 hK25 => ?_)
    refine code_region ?_
    refine list_cons rfl (op_q (q_assign rfl (by decide)) ?_)
    refine list_nil ?_
    refine hK25 _ ?_; clear hK25 K25
    refine code_block ?_
    refine code_loop (X := Int × Int × Int × Int × List PV × Bool × List PV × Bool × List PV × Int) (fun x => [(2, .val (.bool false)), (3, .val (.int .i64 x.1)), (4, .val (.int .i64 x.2.1)), (5, .val (.int .i64 x.2.2.1)), (6, .val (.int .i64 x.2.2.2.1)), (7, .box 7 26 x.2.2.2.2.1), (8, .val (.bool x.2.2.2.2.2.1)), (19, .val (.int .i64 (nC))), (20, .val (.int .i64 (pC))), (21, .val (.int .i64 (qC))), (22, .box 22 26 x.2.2.2.2.2.2.1), (23, .val (.bool x.2.2.2.2.2.2.2.1)), (29, .own 121 26 2 LL.length (fl LL)), (30, .val (.bool (decide (((0 ≤ cD ∧ cD ≤ 127) ∧ FkP pD qD) ∧ 0 < sm9 cD pD qD 10)))), (35, .box 35 26 x.2.2.2.2.2.2.2.2.1), (36, .val (.int .i64 x.2.2.2.2.2.2.2.2.2))]) (fun x => 0 ≤ x.2.2.2.2.2.2.2.2.2 ∧ x.2.2.2.2.2.2.2.2.2 ≤ 10 ∧ x.2.2.2.2.2.2.2.2.1 = [.int .i64 (frA (pw9 qC 7 - sm9 (digT.getD nC.toNat 0) pC qC 10 + sm9 (digT.getD nC.toNat 0) pC qC x.2.2.2.2.2.2.2.2.2.toNat) (pw9 qC 7)), .int .i64 (frB (pw9 qC 7 - sm9 (digT.getD nC.toNat 0) pC qC 10 + sm9 (digT.getD nC.toNat 0) pC qC x.2.2.2.2.2.2.2.2.2.toNat) (pw9 qC 7))]) (fun x => (10 - x.2.2.2.2.2.2.2.2.2).toNat) (_, _, _, _, _, _, _, _, _, _) (imp_covers ⟨rfl, rfl, rfl, rfl, rfl, rfl, rfl, rfl, rfl, rfl, rfl, rfl, rfl, rfl, rfl, rfl, trivial⟩) ?_ ?_
    · (try dsimp only)
      refine ⟨by omega, by omega, ?_⟩
      simp only [if_pos hN]
      rw [show sm9 (digT.getD nC.toNat 0) pC qC (0 : Int).toNat = 0 from rfl, Int.add_zero]
      rfl
    · intro x hI
      obtain ⟨c, as_, p, q, chance_c, ok, none_c, there, sum_c, k⟩ := x
      replace hI : 0 ≤ k ∧ k ≤ 10 ∧ sum_c = [.int .i64 (frA (pw9 qC 7 - sm9 (digT.getD nC.toNat 0) pC qC 10 + sm9 (digT.getD nC.toNat 0) pC qC k.toNat) (pw9 qC 7)), .int .i64 (frB (pw9 qC 7 - sm9 (digT.getD nC.toNat 0) pC qC 10 + sm9 (digT.getD nC.toNat 0) pC qC k.toNat) (pw9 qC 7))] := hI
      show codeT _ _ _ [(2, .val (.bool false)), (3, .val (.int .i64 c)), (4, .val (.int .i64 as_)), (5, .val (.int .i64 p)), (6, .val (.int .i64 q)), (7, .box 7 26 chance_c), (8, .val (.bool ok)), (19, .val (.int .i64 (nC))), (20, .val (.int .i64 (pC))), (21, .val (.int .i64 (qC))), (22, .box 22 26 none_c), (23, .val (.bool there)), (29, .own 121 26 2 LL.length (fl LL)), (30, .val (.bool (decide (((0 ≤ cD ∧ cD ≤ 127) ∧ FkP pD qD) ∧ 0 < sm9 cD pD qD 10)))), (35, .box 35 26 sum_c), (36, .val (.int .i64 k))] _
      obtain ⟨i1, i2, rfl⟩ := hI
      have hsl := sm9_le hN.1 hN.2
      have hsb := sm9_bd (c := digT.getD nC.toNat 0) hN.2 k.toNat
      have hs10 := sm9_bd (c := digT.getD nC.toNat 0) hN.2 10
      have hqb := pw9_7 (x := qC) (n := 7) (by have := hN.2.1; omega) (by have := hN.2.1; omega) (by omega)
      have hqp := pw9_pos (x := qC) (by have := hN.2.1; omega) 7
      refine code_seq (fun K26 hK26 => ?_)
      refine code_seq (fun K27 hK27 => ?_)
      refine code_region ?_
      refine list_cons rfl (op_q (q_move rfl (by decide)) ?_)
      refine list_cons rfl (op_q (q_lt rfl rfl (by decide)) ?_)
      refine list_nil ?_
      refine hK27 _ ?_; clear hK27 K27
      refine code_cond_d rfl (fun h15 => ?_) (fun h15 => ?_)
      · skip
        (try simp only [Decidable.not_not] at h15); (try have hC : CfP cA aA pA qA := h15); (try have hN : (0 ≤ nC ∧ nC ≤ 9) ∧ FkP pC qC := h15); (try (have hW : ((0 ≤ cD ∧ cD ≤ 127) ∧ FkP pD qD) ∧ 0 < sm9 cD pD qD 10 := h15; have hL0 := hLL; rw [if_pos hW] at hL0))
        refine code_skip ?_
        refine hK26 _ ?_; clear hK26 K26
        refine code_seq (fun K28 hK28 => ?_)
        refine code_block ?_
        refine code_seq (fun K29 hK29 => ?_)
        refine code_region ?_
        refine list_cons rfl (op_q (q_move rfl (by decide)) ?_)
        refine list_cons rfl (op_q (q_move rfl (by decide)) ?_)
        refine list_cons rfl (op_q (q_move rfl (by decide)) ?_)
        refine list_cons rfl (op_q (q_move rfl (by decide)) ?_)
        refine list_cons rfl (op_call _ (impl_ChanceReadAs _ _ _ _) rfl rfl (by decide) (by decide) (by decide) rfl ?_)
        rintro _ rfl; have hD : (0 ≤ nC ∧ nC ≤ 9) ∧ (0 ≤ k ∧ k ≤ 9) ∧ FkP pC qC := ⟨hN.1, by omega, hN.2⟩; simp only [if_pos hD]; have hpb := prt_bd (c := digT.getD nC.toNat 0) (a := digT.getD k.toNat 0) hN.2
        refine list_cons rfl (op_q (q_move rfl (by decide)) ?_)
        refine list_cons rfl (op_q (q_extract rfl rfl (by decide)) ?_)
        refine list_cons rfl (op_q (q_extract rfl rfl (by decide)) ?_)
        refine list_cons rfl (op_alloc zt_26 (by decide) (by decide) rfl ?_)
        refine list_cons rfl (op_store (agg_26).2 37 [37] (by intro t ht; simp only [List.mem_cons, List.not_mem_nil, or_false] at ht; subst ht; rfl) (.inr ⟨rfl, _, rfl⟩) rfl rfl rfl rfl (by first | rfl | exact flat_part (flat_map _ (fun _ => rfl) _) _ _ | exact flat_map _ (fun _ => rfl) _) (by first | rfl | (simp [PV.cells]; done)) (by first | decide | omega | exact Nat.le_refl _ | (simp; done) | (simp; omega)) (by decide) rfl ?_)
        refine list_cons rfl (op_q (q_assign rfl (by decide)) ?_)
        refine list_nil ?_
        refine hK29 _ ?_; clear hK29 K29
        refine codeT.imp (σ' := [(2, .val (.bool _)), (3, .val (.int .i64 _)), (4, .val (.int .i64 _)), (5, .val (.int .i64 _)), (6, .val (.int .i64 _)), (7, .box 7 26 _), (8, .val (.bool _)), (19, .val (.int .i64 _)), (20, .val (.int .i64 _)), (21, .val (.int .i64 _)), (22, .box 22 26 _), (23, .val (.bool _)), (29, .own 121 26 2 _ _), (30, .val (.bool _)), (35, .box 35 26 _), (36, .val (.int .i64 _)), (37, .box 37 26 _), (38, .val (.bool _))]) ?_ (imp_covers ⟨rfl, rfl, rfl, rfl, rfl, rfl, rfl, rfl, rfl, rfl, rfl, rfl, rfl, rfl, rfl, rfl, rfl, rfl, trivial⟩)
        refine code_seq (fun K30 hK30 => ?_)
        refine code_seq (fun K31 hK31 => ?_)
        refine code_region ?_
        refine list_cons rfl (op_q (q_move rfl (by decide)) ?_)
        refine list_cons rfl (op_q (by first | exact q_notd rfl (by decide) | exact q_not rfl (by decide)) ?_)
        refine list_nil ?_
        refine hK31 _ ?_; clear hK31 K31
        refine code_cond_d rfl (fun h16 => ?_) (fun h16 => ?_)
        · skip
          (try simp only [Decidable.not_not] at h16); (try have hC : CfP cA aA pA qA := h16); (try have hN : (0 ≤ nC ∧ nC ≤ 9) ∧ FkP pC qC := h16); (try (have hW : ((0 ≤ cD ∧ cD ≤ 127) ∧ FkP pD qD) ∧ 0 < sm9 cD pD qD 10 := h16; have hL0 := hLL; rw [if_pos hW] at hL0))
          exfalso
          first | exact h16 hD
        (try simp only [Decidable.not_not] at h16); (try have hC : CfP cA aA pA qA := h16); (try have hN : (0 ≤ nC ∧ nC ≤ 9) ∧ FkP pC qC := h16); (try (have hW : ((0 ≤ cD ∧ cD ≤ 127) ∧ FkP pD qD) ∧ 0 < sm9 cD pD qD 10 := h16; have hL0 := hLL; rw [if_pos hW] at hL0))
        refine code_skip ?_
        refine hK30 _ ?_; clear hK30 K30
        refine code_region ?_
        refine list_cons rfl (op_q (q_load_agg agg_26 35 (.inr ⟨rfl, _, rfl⟩) rfl rfl (by first | decide | omega | exact Nat.le_refl _ | (simp; done) | (simp; omega)) (by first | rfl | exact flat_part (flat_map _ (fun _ => rfl) _) _ _ | exact flat_part (fl_flat _) _ _) (by decide)) ?_)
        refine list_cons rfl (op_q (q_load_agg agg_26 37 (.inr ⟨rfl, _, rfl⟩) rfl rfl (by first | decide | omega | exact Nat.le_refl _ | (simp; done) | (simp; omega)) (by first | rfl | exact flat_part (flat_map _ (fun _ => rfl) _) _ _ | exact flat_part (fl_flat _) _ _) (by decide)) ?_)
        refine list_cons rfl (op_call _ (vPlusN_c (pw9 qC 7 - sm9 (digT.getD nC.toNat 0) pC qC 10 + sm9 (digT.getD nC.toNat 0) pC qC k.toNat) (prt (digT.getD nC.toNat 0) (digT.getD k.toNat 0) pC qC) (pw9 qC 7) (by omega) (by omega) (by omega)) rfl rfl (by decide) (by decide) (by decide) rfl ?_)
        rintro _ rfl
        refine list_cons rfl (op_store (agg_26).2 35 [35] (by intro t ht; simp only [List.mem_cons, List.not_mem_nil, or_false] at ht; subst ht; rfl) (.inr ⟨rfl, _, rfl⟩) rfl rfl rfl rfl (by first | rfl | exact flat_part (flat_map _ (fun _ => rfl) _) _ _ | exact flat_map _ (fun _ => rfl) _) (by first | rfl | (simp [PV.cells]; done)) (by first | decide | omega | exact Nat.le_refl _ | (simp; done) | (simp; omega)) (by decide) rfl ?_)
        refine list_nil ?_
        refine blk_n ?_
        refine hK28 _ ?_; clear hK28 K28
        refine codeT.imp (σ' := [(2, .val (.bool _)), (3, .val (.int .i64 _)), (4, .val (.int .i64 _)), (5, .val (.int .i64 _)), (6, .val (.int .i64 _)), (7, .box 7 26 _), (8, .val (.bool _)), (19, .val (.int .i64 _)), (20, .val (.int .i64 _)), (21, .val (.int .i64 _)), (22, .box 22 26 _), (23, .val (.bool _)), (29, .own 121 26 2 _ _), (30, .val (.bool _)), (35, .box 35 26 _), (36, .val (.int .i64 _)), (37, .box 37 26 _), (38, .val (.bool _))]) ?_ (imp_covers ⟨rfl, rfl, rfl, rfl, rfl, rfl, rfl, rfl, rfl, rfl, rfl, rfl, rfl, rfl, rfl, rfl, rfl, rfl, trivial⟩)
        refine code_region ?_
        refine list_cons rfl (op_q (q_move rfl (by decide)) ?_)
        refine list_cons rfl (op_q (by first | exact q_addI rfl rfl (by decide) (by omega) (by omega) | exact q_ib rfl rfl rfl (by decide)) ?_)
        refine list_cons rfl (op_q (q_assign rfl (by decide)) ?_)
        refine list_nil ?_
        refine then_n ⟨(_, _, _, _, _, _, _, _, _, _), imp_covers ⟨rfl, rfl, rfl, rfl, rfl, rfl, rfl, rfl, rfl, rfl, rfl, rfl, rfl, rfl, rfl, rfl, trivial⟩, ?_, ?_⟩
        · (try dsimp only)
          refine ⟨by omega, by omega, ?_⟩
          rw [show (k + 1).toNat = k.toNat + 1 by omega, show sm9 (digT.getD nC.toNat 0) pC qC (k.toNat + 1) = sm9 (digT.getD nC.toNat 0) pC qC k.toNat + prt (digT.getD nC.toNat 0) (digT.getD k.toNat 0) pC qC from rfl, ← Int.add_assoc]
          rfl
        · (try dsimp only); omega
      (try simp only [Decidable.not_not] at h15); (try have hC : CfP cA aA pA qA := h15); (try have hN : (0 ≤ nC ∧ nC ≤ 9) ∧ FkP pC qC := h15); (try (have hW : ((0 ≤ cD ∧ cD ≤ 127) ∧ FkP pD qD) ∧ 0 < sm9 cD pD qD 10 := h15; have hL0 := hLL; rw [if_pos hW] at hL0))
      refine code_exit ?_
      refine then_x ?_; clear hK26 K26
      refine then_x ?_
      refine blk_hit ?_
      refine hK24 _ ?_; clear hK24 K24
      refine code_seq (fun K32 hK32 => ?_)
      refine code_region ?_
      refine list_cons rfl (op_q (q_load_agg agg_26 35 (.inr ⟨rfl, _, rfl⟩) rfl rfl (by first | decide | omega | exact Nat.le_refl _ | (simp; done) | (simp; omega)) (by first | rfl | exact flat_part (flat_map _ (fun _ => rfl) _) _ _ | exact flat_part (fl_flat _) _ _) (by decide)) ?_)
      refine list_cons rfl (op_q (q_build bt_26 (parts := [(0, _), (1, _)]) rfl rfl (by decide)) ?_)
      refine list_cons rfl (op_q (q_aggne (by decide) agg_26 eqty_26 eqg_26 rfl rfl (by first | exact ⟨_, _, rfl, ⟨_, rfl⟩, ⟨_, _, rfl, ⟨_, rfl⟩, trivial⟩⟩) (by first | exact ⟨_, _, rfl, ⟨_, rfl⟩, ⟨_, _, rfl, ⟨_, rfl⟩, trivial⟩⟩) rfl rfl (by decide)) ?_)
      refine list_nil ?_
      refine hK32 _ ?_; clear hK32 K32
      refine code_cond_d rfl (fun h17 => ?_) (fun h17 => ?_)
      · skip
        (try simp only [Decidable.not_not] at h17); (try have hC : CfP cA aA pA qA := h17); (try have hN : (0 ≤ nC ∧ nC ≤ 9) ∧ FkP pC qC := h17); (try (have hW : ((0 ≤ cD ∧ cD ≤ 127) ∧ FkP pD qD) ∧ 0 < sm9 cD pD qD 10 := h17; have hL0 := hLL; rw [if_pos hW] at hL0))
        exfalso
        first | exact h17 (by rw [show k.toNat = 10 by omega, show pw9 qC 7 - sm9 (digT.getD nC.toNat 0) pC qC 10 + sm9 (digT.getD nC.toNat 0) pC qC 10 = pw9 qC 7 by omega]; exact ⟨(fr_1 hqp).1, (fr_1 hqp).2, trivial⟩)
      (try simp only [Decidable.not_not] at h17); (try have hC : CfP cA aA pA qA := h17); (try have hN : (0 ≤ nC ∧ nC ≤ 9) ∧ FkP pC qC := h17); (try (have hW : ((0 ≤ cD ∧ cD ≤ 127) ∧ FkP pD qD) ∧ 0 < sm9 cD pD qD 10 := h17; have hL0 := hLL; rw [if_pos hW] at hL0))
      refine code_skip ?_
      refine hK21 _ ?_; clear hK21 K21
      refine code_seq (fun K33 hK33 => ?_)
      refine code_seq (fun K34 hK34 => ?_)
      refine code_region ?_
      refine list_cons rfl (op_q (q_move rfl (by decide)) ?_)
      refine list_nil ?_
      refine hK34 _ ?_; clear hK34 K34
      refine code_cond_d rfl (fun h18 => ?_) (fun h18 => ?_)
      · skip
        (try simp only [Decidable.not_not] at h18); (try have hC : CfP cA aA pA qA := h18); (try have hN : (0 ≤ nC ∧ nC ≤ 9) ∧ FkP pC qC := h18); (try (have hW : ((0 ≤ cD ∧ cD ≤ 127) ∧ FkP pD qD) ∧ 0 < sm9 cD pD qD 10 := h18; have hL0 := hLL; rw [if_pos hW] at hL0))
        refine code_seq (fun K35 hK35 => ?_)
        refine code_region ?_
        refine list_cons rfl (op_q (q_build bt_26 (parts := [(0, _), (1, _)]) rfl rfl (by decide)) ?_)
        refine list_cons rfl (op_alloc zt_26 (by decide) (by decide) rfl ?_)
        refine list_cons rfl (op_store (agg_26).2 39 [39] (by intro t ht; simp only [List.mem_cons, List.not_mem_nil, or_false] at ht; subst ht; rfl) (.inr ⟨rfl, _, rfl⟩) rfl rfl rfl rfl (by first | rfl | exact flat_part (flat_map _ (fun _ => rfl) _) _ _ | exact flat_map _ (fun _ => rfl) _) (by first | rfl | (simp [PV.cells]; done)) (by first | decide | omega | exact Nat.le_refl _ | (simp; done) | (simp; omega)) (by decide) rfl ?_)
        refine list_nil ?_
        refine hK35 _ ?_; clear hK35 K35
        refine codeT.imp (σ' := [(2, .val (.bool _)), (3, .val (.int .i64 _)), (4, .val (.int .i64 _)), (5, .val (.int .i64 _)), (6, .val (.int .i64 _)), (7, .box 7 26 _), (8, .val (.bool _)), (19, .val (.int .i64 _)), (20, .val (.int .i64 _)), (21, .val (.int .i64 _)), (22, .box 22 26 _), (23, .val (.bool _)), (29, .own 121 26 2 _ _), (30, .val (.bool _)), (35, .box 35 26 _), (36, .val (.int .i64 _)), (39, .box 39 26 _)]) ?_ (imp_covers ⟨rfl, rfl, rfl, rfl, rfl, rfl, rfl, rfl, rfl, rfl, rfl, rfl, rfl, rfl, rfl, rfl, rfl, trivial⟩)
        refine code_seq (fun K36 hK36 => ?_)
        refine code_seq (fun K37 hK37 => ?_)
        refine code_region ?_
        refine list_cons rfl (op_q (q_assign rfl (by decide)) ?_)
        refine list_nil ?_
        refine hK37 _ ?_; clear hK37 K37
        refine code_block ?_
        refine code_loop (X := Int × Int × Int × Int × List PV × Bool × Int × Int × Int × List PV × Bool × Bool × List PV × Int) (fun x => [(2, .val (.bool false)), (3, .val (.int .i64 x.1)), (4, .val (.int .i64 x.2.1)), (5, .val (.int .i64 x.2.2.1)), (6, .val (.int .i64 x.2.2.2.1)), (7, .box 7 26 x.2.2.2.2.1), (8, .val (.bool x.2.2.2.2.2.1)), (19, .val (.int .i64 x.2.2.2.2.2.2.1)), (20, .val (.int .i64 x.2.2.2.2.2.2.2.1)), (21, .val (.int .i64 x.2.2.2.2.2.2.2.2.1)), (22, .box 22 26 x.2.2.2.2.2.2.2.2.2.1), (23, .val (.bool x.2.2.2.2.2.2.2.2.2.2.1)), (29, .own 121 26 2 LL.length (fl LL)), (30, .val (.bool x.2.2.2.2.2.2.2.2.2.2.2.1)), (39, .box 39 26 x.2.2.2.2.2.2.2.2.2.2.2.2.1), (40, .val (.int .i64 x.2.2.2.2.2.2.2.2.2.2.2.2.2))]) (fun x => 0 ≤ x.2.2.2.2.2.2.2.2.2.2.2.2.2 ∧ x.2.2.2.2.2.2.2.2.2.2.2.2.2 ≤ LL.length ∧ x.2.2.2.2.2.2.2.2.2.2.2.2.1 = [.int .i64 (frA (sm9 cD pD qD x.2.2.2.2.2.2.2.2.2.2.2.2.2.toNat) (sm9 cD pD qD 10)), .int .i64 (frB (sm9 cD pD qD x.2.2.2.2.2.2.2.2.2.2.2.2.2.toNat) (sm9 cD pD qD 10))]) (fun x => (LL.length - x.2.2.2.2.2.2.2.2.2.2.2.2.2).toNat) (_, _, _, _, _, _, _, _, _, _, _, _, _, _) (imp_covers ⟨rfl, rfl, rfl, rfl, rfl, rfl, rfl, rfl, rfl, rfl, rfl, rfl, rfl, rfl, rfl, rfl, trivial⟩) ?_ ?_
        · (try dsimp only)
          refine ⟨by omega, by omega, ?_⟩
          rw [show sm9 cD pD qD (0 : Int).toNat = 0 from rfl, (fr_0 (show 1 ≤ sm9 cD pD qD 10 by omega)).1, (fr_0 (show 1 ≤ sm9 cD pD qD 10 by omega)).2]
          rfl
        · intro x hI
          obtain ⟨c, as_, p, q, chance_c, ok, n, u, v, none_c, there, one, sum_c, k⟩ := x
          replace hI : 0 ≤ k ∧ k ≤ LL.length ∧ sum_c = [.int .i64 (frA (sm9 cD pD qD k.toNat) (sm9 cD pD qD 10)), .int .i64 (frB (sm9 cD pD qD k.toNat) (sm9 cD pD qD 10))] := hI
          show codeT _ _ _ [(2, .val (.bool false)), (3, .val (.int .i64 c)), (4, .val (.int .i64 as_)), (5, .val (.int .i64 p)), (6, .val (.int .i64 q)), (7, .box 7 26 chance_c), (8, .val (.bool ok)), (19, .val (.int .i64 n)), (20, .val (.int .i64 u)), (21, .val (.int .i64 v)), (22, .box 22 26 none_c), (23, .val (.bool there)), (29, .own 121 26 2 LL.length (fl LL)), (30, .val (.bool one)), (39, .box 39 26 sum_c), (40, .val (.int .i64 k))] _
          obtain ⟨i1, i2, rfl⟩ := hI
          have hl10 : LL.length = 10 := by rw [← hL0, chL_len]
          have hsb := sm9_bd (c := cD) hW.1.2 k.toNat
          have hs10 := sm9_bd (c := cD) hW.1.2 10
          have hsp := hW.2
          have hpb := prt_bd (c := cD) (a := digT.getD k.toNat 0) hW.1.2
          refine code_seq (fun K38 hK38 => ?_)
          refine code_seq (fun K39 hK39 => ?_)
          refine code_region ?_
          refine list_cons rfl (op_q (q_move rfl (by decide)) ?_)
          refine list_cons rfl (op_q (q_move rfl (by decide)) ?_)
          refine list_cons rfl (op_q (q_len_sl Tryd.underlying33 rfl rfl (by decide)) ?_)
          refine list_cons rfl (op_q (q_lt rfl rfl (by decide)) ?_)
          refine list_nil ?_
          refine hK39 _ ?_; clear hK39 K39
          refine code_cond_d rfl (fun h19 => ?_) (fun h19 => ?_)
          · skip
            (try simp only [Decidable.not_not] at h19); (try have hC : CfP cA aA pA qA := h19); (try have hN : (0 ≤ nC ∧ nC ≤ 9) ∧ FkP pC qC := h19); (try (have hW : ((0 ≤ cD ∧ cD ≤ 127) ∧ FkP pD qD) ∧ 0 < sm9 cD pD qD 10 := h19; have hL0 := hLL; rw [if_pos hW] at hL0))
            refine code_skip ?_
            refine hK38 _ ?_; clear hK38 K38
            refine code_seq (fun K40 hK40 => ?_)
            refine code_block ?_
            refine any_start fun ob2_0 => ?_
            refine any_op (rd := [39]) ob2_0 rfl rfl rfl (anyT_quiet [(39, _)] ⟨rfl, trivial⟩ rfl (q_load_agg agg_26 39 (.inr ⟨rfl, _, rfl⟩) rfl rfl (by first | decide | omega | exact Nat.le_refl _ | (rw [fl_len]; omega) | (simp; done) | (simp; omega)) (by first | rfl | exact flat_part (flat_map _ (fun _ => rfl) _) _ _ | exact flat_part (fl_flat _) _ _) (by decide))) (fun ob2_1 => ?_)
            refine any_op (rd := [29]) ob2_1 rfl rfl rfl (anyT_quiet [(29, _)] ⟨rfl, trivial⟩ rfl (q_move rfl (by decide))) (fun ob2_2 => ?_)
            refine any_op (rd := [40]) ob2_2 rfl rfl rfl (anyT_quiet [(40, _)] ⟨rfl, trivial⟩ rfl (q_move rfl (by decide))) (fun ob2_3 => ?_)
            refine any_op (rd := [230, 231]) ob2_3 rfl rfl rfl (anyT_quiet [(230, _), (231, _)] ⟨rfl, rfl, trivial⟩ rfl (q_indexAddr_own sl_33 rfl rfl (by omega) (by omega) (by decide))) (fun ob2_4 => ?_)
            refine any_op (rd := [232, 29]) ob2_4 rfl rfl rfl (anyT_quiet [(232, _), (29, _)] ⟨rfl, rfl, trivial⟩ rfl (q_cast (q_load_agg agg_26 29 (.inl rfl) rfl rfl (by first | decide | omega | exact Nat.le_refl _ | (rw [fl_len]; omega) | (simp; done) | (simp; omega)) (by first | rfl | exact flat_part (flat_map _ (fun _ => rfl) _) _ _ | exact flat_part (fl_flat _) _ _) (by decide)) (congrArg (fun z => SV.val (PV.agg z)) (fl_at LL k.toNat (by omega))))) (fun ob2_5 => ?_)
            refine any_end [[], [], [], [1, 2], [1, 2, 3], [0, 1, 2, 3, 4], [0, 1, 2, 3, 4, 5]] ob2_5 (by kernel_rfl) (Nat.le_of_ble_eq_true rfl) (by decide) (by decide) (by kernel_rfl) (by kernel_rfl) (by kernel_rfl) (by kernel_rfl) (by kernel_rfl) ?_
            clear ob2_0 ob2_1 ob2_2 ob2_3 ob2_4 ob2_5
            refine listT.imp (σ' := [(2, _), (3, _), (4, _), (5, _), (6, _), (7, _), (8, _), (19, _), (20, _), (21, _), (22, _), (23, _), (29, _), (30, _), (39, _), (40, _), (223, _), (224, _), (225, _), (226, _), (229, _), (230, _), (231, _), (232, _), (233, _)]) ?_ (imp_covers ⟨rfl, rfl, rfl, rfl, rfl, rfl, rfl, rfl, rfl, rfl, rfl, rfl, rfl, rfl, rfl, rfl, rfl, rfl, rfl, rfl, rfl, rfl, rfl, rfl, rfl, trivial⟩)
            refine list_cons rfl (op_call _ (vPlusX_c (sm9 cD pD qD k.toNat) (prt cD (digT.getD k.toNat 0) pD qD) (sm9 cD pD qD 10) (LL.getD k.toNat (0, 0)) (by rw [← hL0]; exact chL_at _ _ _ _ (by omega)) (by omega) (by omega) (by omega)) rfl rfl (by decide) (by decide) (by decide) rfl ?_)
            rintro _ rfl
            refine list_cons rfl (op_store (agg_26).2 39 [39] (by intro t ht; simp only [List.mem_cons, List.not_mem_nil, or_false] at ht; subst ht; rfl) (.inr ⟨rfl, _, rfl⟩) rfl rfl rfl rfl (by first | rfl | exact flat_part (flat_map _ (fun _ => rfl) _) _ _ | exact flat_map _ (fun _ => rfl) _) (by first | rfl | (simp [PV.cells]; done)) (by first | decide | omega | exact Nat.le_refl _ | (simp; done) | (simp; omega)) (by decide) rfl ?_)
            refine list_nil ?_
            refine blk_n ?_
            refine hK40 _ ?_; clear hK40 K40
            refine codeT.imp (σ' := [(2, .val (.bool _)), (3, .val (.int .i64 _)), (4, .val (.int .i64 _)), (5, .val (.int .i64 _)), (6, .val (.int .i64 _)), (7, .box 7 26 _), (8, .val (.bool _)), (19, .val (.int .i64 _)), (20, .val (.int .i64 _)), (21, .val (.int .i64 _)), (22, .box 22 26 _), (23, .val (.bool _)), (29, .own 121 26 2 _ _), (30, .val (.bool _)), (39, .box 39 26 _), (40, .val (.int .i64 _))]) ?_ (imp_covers ⟨rfl, rfl, rfl, rfl, rfl, rfl, rfl, rfl, rfl, rfl, rfl, rfl, rfl, rfl, rfl, rfl, trivial⟩)
            refine code_region ?_
            refine list_cons rfl (op_q (q_move rfl (by decide)) ?_)
            refine list_cons rfl (op_q (by first | exact q_addI rfl rfl (by decide) (by omega) (by omega) | exact q_ib rfl rfl rfl (by decide)) ?_)
            refine list_cons rfl (op_q (q_assign rfl (by decide)) ?_)
            refine list_nil ?_
            refine then_n ⟨(_, _, _, _, _, _, _, _, _, _, _, _, _, _), imp_covers ⟨rfl, rfl, rfl, rfl, rfl, rfl, rfl, rfl, rfl, rfl, rfl, rfl, rfl, rfl, rfl, rfl, trivial⟩, ?_, ?_⟩
            · (try dsimp only)
              refine ⟨by omega, by omega, ?_⟩
              rw [show (k + 1).toNat = k.toNat + 1 by omega]; rfl
            · (try dsimp only); omega
          (try simp only [Decidable.not_not] at h19); (try have hC : CfP cA aA pA qA := h19); (try have hN : (0 ≤ nC ∧ nC ≤ 9) ∧ FkP pC qC := h19); (try (have hW : ((0 ≤ cD ∧ cD ≤ 127) ∧ FkP pD qD) ∧ 0 < sm9 cD pD qD 10 := h19; have hL0 := hLL; rw [if_pos hW] at hL0))
          refine code_exit ?_
          refine then_x ?_; clear hK38 K38
          refine then_x ?_
          refine blk_hit ?_
          refine hK36 _ ?_; clear hK36 K36
          refine code_seq (fun K41 hK41 => ?_)
          refine code_region ?_
          refine list_cons rfl (op_q (q_move rfl (by decide)) ?_)
          refine list_cons rfl (op_q (q_len_sl Tryd.underlying33 rfl rfl (by decide)) ?_)
          refine list_cons rfl (op_q (q_ne rfl rfl (by decide)) ?_)
          refine list_cons rfl (op_q (q_move rfl (by decide)) ?_)
          refine list_guard_d rfl rfl rfl rfl (by decide) rfl (by decide) (fun h20 => ?_) (fun h20 => ?_)
          · simp only [Bool.false_eq_true, if_true, if_false, Decidable.not_not] at h20
            (try simp only [Decidable.not_not] at h20); (try have hC : CfP cA aA pA qA := h20); (try have hN : (0 ≤ nC ∧ nC ≤ 9) ∧ FkP pC qC := h20); (try (have hW : ((0 ≤ cD ∧ cD ≤ 127) ∧ FkP pD qD) ∧ 0 < sm9 cD pD qD 10 := h20; have hL0 := hLL; rw [if_pos hW] at hL0))
            refine id (op_q (q_load_agg agg_26 39 (.inr ⟨rfl, _, rfl⟩) rfl rfl (by first | decide | omega | exact Nat.le_refl _ | (simp; done) | (simp; omega)) (by first | rfl | exact flat_part (flat_map _ (fun _ => rfl) _) _ _ | exact flat_part (fl_flat _) _ _) (by decide)) ?_)
            refine list_guard_y rfl rfl rfl rfl (by decide) rfl ?_
            refine id (op_q (q_build bt_26 (parts := [(0, _), (1, _)]) rfl rfl (by decide)) ?_)
            refine list_guard_y rfl rfl rfl rfl (by decide) rfl ?_
            refine id (op_q (q_aggne (by decide) agg_26 eqty_26 eqg_26 rfl rfl (by first | exact ⟨_, _, rfl, ⟨_, rfl⟩, ⟨_, _, rfl, ⟨_, rfl⟩, trivial⟩⟩) (by first | exact ⟨_, _, rfl, ⟨_, rfl⟩, ⟨_, _, rfl, ⟨_, rfl⟩, trivial⟩⟩) rfl rfl (by decide)) ?_)
            refine list_cons rfl (op_q (q_pick rfl rfl (by decide)) ?_)
            refine list_nil ?_
            refine hK41 _ ?_; clear hK41 K41
            refine codeT.imp (σ' := [(2, .val (.bool _)), (3, .val (.int .i64 _)), (4, .val (.int .i64 _)), (5, .val (.int .i64 _)), (6, .val (.int .i64 _)), (7, .box 7 26 _), (8, .val (.bool _)), (19, .val (.int .i64 _)), (20, .val (.int .i64 _)), (21, .val (.int .i64 _)), (22, .box 22 26 _), (23, .val (.bool _)), (29, .own 121 26 2 _ _), (30, .val (.bool _)), (39, .box 39 26 _), (40, .val (.int .i64 _)), (242, .val (.bool _))]) ?_ (imp_covers ⟨rfl, rfl, rfl, rfl, rfl, rfl, rfl, rfl, rfl, rfl, rfl, rfl, rfl, rfl, rfl, rfl, rfl, trivial⟩)
            refine code_cond_d rfl (fun h21 => ?_) (fun h21 => ?_)
            · skip
              (try simp only [Decidable.not_not] at h21); (try have hC : CfP cA aA pA qA := h21); (try have hN : (0 ≤ nC ∧ nC ≤ 9) ∧ FkP pC qC := h21); (try (have hW : ((0 ≤ cD ∧ cD ≤ 127) ∧ FkP pD qD) ∧ 0 < sm9 cD pD qD 10 := h21; have hL0 := hLL; rw [if_pos hW] at hL0))
              exfalso
              first | exact h21 (by rw [show k.toNat = 10 by omega]; exact ⟨(fr_1 (by omega)).1, (fr_1 (by omega)).2, trivial⟩)
            (try simp only [Decidable.not_not] at h21); (try have hC : CfP cA aA pA qA := h21); (try have hN : (0 ≤ nC ∧ nC ≤ 9) ∧ FkP pC qC := h21); (try (have hW : ((0 ≤ cD ∧ cD ≤ 127) ∧ FkP pD qD) ∧ 0 < sm9 cD pD qD 10 := h21; have hL0 := hLL; rw [if_pos hW] at hL0))
            refine code_skip ?_
            refine hK33 _ ?_; clear hK33 K33
            refine code_seq (fun K42 hK42 => ?_)
            refine code_region ?_
            refine list_cons rfl (op_q (q_assign rfl (by decide)) ?_)
            refine list_nil ?_
            refine hK42 _ ?_; clear hK42 K42
            refine code_ret ?_
            refine ends_ret (cs := []) rfl rfl rfl rfl trivial ?_
            first | rfl
          simp only [Bool.false_eq_true, if_true, if_false, Decidable.not_not] at h20
          (try simp only [Decidable.not_not] at h20); (try have hC : CfP cA aA pA qA := h20); (try have hN : (0 ≤ nC ∧ nC ≤ 9) ∧ FkP pC qC := h20); (try (have hW : ((0 ≤ cD ∧ cD ≤ 127) ∧ FkP pD qD) ∧ 0 < sm9 cD pD qD 10 := h20; have hL0 := hLL; rw [if_pos hW] at hL0))
          exfalso
          omega
      (try simp only [Decidable.not_not] at h18); (try have hC : CfP cA aA pA qA := h18); (try have hN : (0 ≤ nC ∧ nC ≤ 9) ∧ FkP pC qC := h18); (try (have hW : ((0 ≤ cD ∧ cD ≤ 127) ∧ FkP pD qD) ∧ 0 < sm9 cD pD qD 10 := h18; have hL0 := hLL; rw [if_pos hW] at hL0))
      refine code_skip ?_
      refine hK33 _ ?_; clear hK33 K33
      refine code_seq (fun K43 hK43 => ?_)
      refine code_region ?_
      refine list_cons rfl (op_q (q_assign rfl (by decide)) ?_)
      refine list_nil ?_
      refine hK43 _ ?_; clear hK43 K43
      refine code_ret ?_
      refine ends_ret (cs := []) rfl rfl rfl rfl trivial ?_
      first | rfl
  (try simp only [Decidable.not_not] at h14); (try have hC : CfP cA aA pA qA := h14); (try have hN : (0 ≤ nC ∧ nC ≤ 9) ∧ FkP pC qC := h14); (try (have hW : ((0 ≤ cD ∧ cD ≤ 127) ∧ FkP pD qD) ∧ 0 < sm9 cD pD qD 10 := h14; have hL0 := hLL; rw [if_pos hW] at hL0))
  refine code_skip ?_
  refine hK21 _ ?_; clear hK21 K21
  refine code_seq (fun K44 hK44 => ?_)
  refine code_seq (fun K45 hK45 => ?_)
  refine code_region ?_
  refine list_cons rfl (op_q (q_move rfl (by decide)) ?_)
  refine list_nil ?_
  refine hK45 _ ?_; clear hK45 K45
  refine code_cond_d rfl (fun h22 => ?_) (fun h22 => ?_)
  · skip
    (try simp only [Decidable.not_not] at h22); (try have hC : CfP cA aA pA qA := h22); (try have hN : (0 ≤ nC ∧ nC ≤ 9) ∧ FkP pC qC := h22); (try (have hW : ((0 ≤ cD ∧ cD ≤ 127) ∧ FkP pD qD) ∧ 0 < sm9 cD pD qD 10 := h22; have hL0 := hLL; rw [if_pos hW] at hL0))
    refine code_seq (fun K46 hK46 => ?_)
    refine code_region ?_
    refine list_cons rfl (op_q (q_build bt_26 (parts := [(0, _), (1, _)]) rfl rfl (by decide)) ?_)
    refine list_cons rfl (op_alloc zt_26 (by decide) (by decide) rfl ?_)
    refine list_cons rfl (op_store (agg_26).2 39 [39] (by intro t ht; simp only [List.mem_cons, List.not_mem_nil, or_false] at ht; subst ht; rfl) (.inr ⟨rfl, _, rfl⟩) rfl rfl rfl rfl (by first | rfl | exact flat_part (flat_map _ (fun _ => rfl) _) _ _ | exact flat_map _ (fun _ => rfl) _) (by first | rfl | (simp [PV.cells]; done)) (by first | decide | omega | exact Nat.le_refl _ | (simp; done) | (simp; omega)) (by decide) rfl ?_)
    refine list_nil ?_
    refine hK46 _ ?_; clear hK46 K46
    refine codeT.imp (σ' := [(2, .val (.bool _)), (3, .val (.int .i64 _)), (4, .val (.int .i64 _)), (5, .val (.int .i64 _)), (6, .val (.int .i64 _)), (7, .box 7 26 _), (8, .val (.bool _)), (19, .val (.int .i64 _)), (20, .val (.int .i64 _)), (21, .val (.int .i64 _)), (22, .box 22 26 _), (23, .val (.bool _)), (29, .own 121 26 2 _ _), (30, .val (.bool _)), (39, .box 39 26 _)]) ?_ (imp_covers ⟨rfl, rfl, rfl, rfl, rfl, rfl, rfl, rfl, rfl, rfl, rfl, rfl, rfl, rfl, rfl, trivial⟩)
    refine code_seq (fun K47 hK47 => ?_)
    refine code_seq (fun K48 hK48 => ?_)
    refine code_region ?_
    refine list_cons rfl (op_q (q_assign rfl (by decide)) ?_)
    refine list_nil ?_
    refine hK48 _ ?_; clear hK48 K48
    refine code_block ?_
    refine code_loop (X := Int × Int × Int × Int × List PV × Bool × Int × Int × Int × List PV × Bool × Bool × List PV × Int) (fun x => [(2, .val (.bool false)), (3, .val (.int .i64 x.1)), (4, .val (.int .i64 x.2.1)), (5, .val (.int .i64 x.2.2.1)), (6, .val (.int .i64 x.2.2.2.1)), (7, .box 7 26 x.2.2.2.2.1), (8, .val (.bool x.2.2.2.2.2.1)), (19, .val (.int .i64 x.2.2.2.2.2.2.1)), (20, .val (.int .i64 x.2.2.2.2.2.2.2.1)), (21, .val (.int .i64 x.2.2.2.2.2.2.2.2.1)), (22, .box 22 26 x.2.2.2.2.2.2.2.2.2.1), (23, .val (.bool x.2.2.2.2.2.2.2.2.2.2.1)), (29, .own 121 26 2 LL.length (fl LL)), (30, .val (.bool x.2.2.2.2.2.2.2.2.2.2.2.1)), (39, .box 39 26 x.2.2.2.2.2.2.2.2.2.2.2.2.1), (40, .val (.int .i64 x.2.2.2.2.2.2.2.2.2.2.2.2.2))]) (fun x => 0 ≤ x.2.2.2.2.2.2.2.2.2.2.2.2.2 ∧ x.2.2.2.2.2.2.2.2.2.2.2.2.2 ≤ LL.length ∧ x.2.2.2.2.2.2.2.2.2.2.2.2.1 = [.int .i64 (frA (sm9 cD pD qD x.2.2.2.2.2.2.2.2.2.2.2.2.2.toNat) (sm9 cD pD qD 10)), .int .i64 (frB (sm9 cD pD qD x.2.2.2.2.2.2.2.2.2.2.2.2.2.toNat) (sm9 cD pD qD 10))]) (fun x => (LL.length - x.2.2.2.2.2.2.2.2.2.2.2.2.2).toNat) (_, _, _, _, _, _, _, _, _, _, _, _, _, _) (imp_covers ⟨rfl, rfl, rfl, rfl, rfl, rfl, rfl, rfl, rfl, rfl, rfl, rfl, rfl, rfl, rfl, rfl, trivial⟩) ?_ ?_
    · (try dsimp only)
      refine ⟨by omega, by omega, ?_⟩
      rw [show sm9 cD pD qD (0 : Int).toNat = 0 from rfl, (fr_0 (show 1 ≤ sm9 cD pD qD 10 by omega)).1, (fr_0 (show 1 ≤ sm9 cD pD qD 10 by omega)).2]
      rfl
    · intro x hI
      obtain ⟨c, as_, p, q, chance_c, ok, n, u, v, none_c, there, one, sum_c, k⟩ := x
      replace hI : 0 ≤ k ∧ k ≤ LL.length ∧ sum_c = [.int .i64 (frA (sm9 cD pD qD k.toNat) (sm9 cD pD qD 10)), .int .i64 (frB (sm9 cD pD qD k.toNat) (sm9 cD pD qD 10))] := hI
      show codeT _ _ _ [(2, .val (.bool false)), (3, .val (.int .i64 c)), (4, .val (.int .i64 as_)), (5, .val (.int .i64 p)), (6, .val (.int .i64 q)), (7, .box 7 26 chance_c), (8, .val (.bool ok)), (19, .val (.int .i64 n)), (20, .val (.int .i64 u)), (21, .val (.int .i64 v)), (22, .box 22 26 none_c), (23, .val (.bool there)), (29, .own 121 26 2 LL.length (fl LL)), (30, .val (.bool one)), (39, .box 39 26 sum_c), (40, .val (.int .i64 k))] _
      obtain ⟨i1, i2, rfl⟩ := hI
      have hl10 : LL.length = 10 := by rw [← hL0, chL_len]
      have hsb := sm9_bd (c := cD) hW.1.2 k.toNat
      have hs10 := sm9_bd (c := cD) hW.1.2 10
      have hsp := hW.2
      have hpb := prt_bd (c := cD) (a := digT.getD k.toNat 0) hW.1.2
      refine code_seq (fun K49 hK49 => ?_)
      refine code_seq (fun K50 hK50 => ?_)
      refine code_region ?_
      refine list_cons rfl (op_q (q_move rfl (by decide)) ?_)
      refine list_cons rfl (op_q (q_move rfl (by decide)) ?_)
      refine list_cons rfl (op_q (q_len_sl Tryd.underlying33 rfl rfl (by decide)) ?_)
      refine list_cons rfl (op_q (q_lt rfl rfl (by decide)) ?_)
      refine list_nil ?_
      refine hK50 _ ?_; clear hK50 K50
      refine code_cond_d rfl (fun h23 => ?_) (fun h23 => ?_)
      · skip
        (try simp only [Decidable.not_not] at h23); (try have hC : CfP cA aA pA qA := h23); (try have hN : (0 ≤ nC ∧ nC ≤ 9) ∧ FkP pC qC := h23); (try (have hW : ((0 ≤ cD ∧ cD ≤ 127) ∧ FkP pD qD) ∧ 0 < sm9 cD pD qD 10 := h23; have hL0 := hLL; rw [if_pos hW] at hL0))
        refine code_skip ?_
        refine hK49 _ ?_; clear hK49 K49
        refine code_seq (fun K51 hK51 => ?_)
        refine code_block ?_
        refine any_start fun ob3_0 => ?_
        refine any_op (rd := [39]) ob3_0 rfl rfl rfl (anyT_quiet [(39, _)] ⟨rfl, trivial⟩ rfl (q_load_agg agg_26 39 (.inr ⟨rfl, _, rfl⟩) rfl rfl (by first | decide | omega | exact Nat.le_refl _ | (rw [fl_len]; omega) | (simp; done) | (simp; omega)) (by first | rfl | exact flat_part (flat_map _ (fun _ => rfl) _) _ _ | exact flat_part (fl_flat _) _ _) (by decide))) (fun ob3_1 => ?_)
        refine any_op (rd := [29]) ob3_1 rfl rfl rfl (anyT_quiet [(29, _)] ⟨rfl, trivial⟩ rfl (q_move rfl (by decide))) (fun ob3_2 => ?_)
        refine any_op (rd := [40]) ob3_2 rfl rfl rfl (anyT_quiet [(40, _)] ⟨rfl, trivial⟩ rfl (q_move rfl (by decide))) (fun ob3_3 => ?_)
        refine any_op (rd := [230, 231]) ob3_3 rfl rfl rfl (anyT_quiet [(230, _), (231, _)] ⟨rfl, rfl, trivial⟩ rfl (q_indexAddr_own sl_33 rfl rfl (by omega) (by omega) (by decide))) (fun ob3_4 => ?_)
        refine any_op (rd := [232, 29]) ob3_4 rfl rfl rfl (anyT_quiet [(232, _), (29, _)] ⟨rfl, rfl, trivial⟩ rfl (q_cast (q_load_agg agg_26 29 (.inl rfl) rfl rfl (by first | decide | omega | exact Nat.le_refl _ | (rw [fl_len]; omega) | (simp; done) | (simp; omega)) (by first | rfl | exact flat_part (flat_map _ (fun _ => rfl) _) _ _ | exact flat_part (fl_flat _) _ _) (by decide)) (congrArg (fun z => SV.val (PV.agg z)) (fl_at LL k.toNat (by omega))))) (fun ob3_5 => ?_)
        refine any_end [[], [], [], [1, 2], [1, 2, 3], [0, 1, 2, 3, 4], [0, 1, 2, 3, 4, 5]] ob3_5 (by kernel_rfl) (Nat.le_of_ble_eq_true rfl) (by decide) (by decide) (by kernel_rfl) (by kernel_rfl) (by kernel_rfl) (by kernel_rfl) (by kernel_rfl) ?_
        clear ob3_0 ob3_1 ob3_2 ob3_3 ob3_4 ob3_5
        refine listT.imp (σ' := [(2, _), (3, _), (4, _), (5, _), (6, _), (7, _), (8, _), (19, _), (20, _), (21, _), (22, _), (23, _), (29, _), (30, _), (39, _), (40, _), (223, _), (224, _), (225, _), (226, _), (229, _), (230, _), (231, _), (232, _), (233, _)]) ?_ (imp_covers ⟨rfl, rfl, rfl, rfl, rfl, rfl, rfl, rfl, rfl, rfl, rfl, rfl, rfl, rfl, rfl, rfl, rfl, rfl, rfl, rfl, rfl, rfl, rfl, rfl, rfl, trivial⟩)
        refine list_cons rfl (op_call _ (vPlusX_c (sm9 cD pD qD k.toNat) (prt cD (digT.getD k.toNat 0) pD qD) (sm9 cD pD qD 10) (LL.getD k.toNat (0, 0)) (by rw [← hL0]; exact chL_at _ _ _ _ (by omega)) (by omega) (by omega) (by omega)) rfl rfl (by decide) (by decide) (by decide) rfl ?_)
        rintro _ rfl
        refine list_cons rfl (op_store (agg_26).2 39 [39] (by intro t ht; simp only [List.mem_cons, List.not_mem_nil, or_false] at ht; subst ht; rfl) (.inr ⟨rfl, _, rfl⟩) rfl rfl rfl rfl (by first | rfl | exact flat_part (flat_map _ (fun _ => rfl) _) _ _ | exact flat_map _ (fun _ => rfl) _) (by first | rfl | (simp [PV.cells]; done)) (by first | decide | omega | exact Nat.le_refl _ | (simp; done) | (simp; omega)) (by decide) rfl ?_)
        refine list_nil ?_
        refine blk_n ?_
        refine hK51 _ ?_; clear hK51 K51
        refine codeT.imp (σ' := [(2, .val (.bool _)), (3, .val (.int .i64 _)), (4, .val (.int .i64 _)), (5, .val (.int .i64 _)), (6, .val (.int .i64 _)), (7, .box 7 26 _), (8, .val (.bool _)), (19, .val (.int .i64 _)), (20, .val (.int .i64 _)), (21, .val (.int .i64 _)), (22, .box 22 26 _), (23, .val (.bool _)), (29, .own 121 26 2 _ _), (30, .val (.bool _)), (39, .box 39 26 _), (40, .val (.int .i64 _))]) ?_ (imp_covers ⟨rfl, rfl, rfl, rfl, rfl, rfl, rfl, rfl, rfl, rfl, rfl, rfl, rfl, rfl, rfl, rfl, trivial⟩)
        refine code_region ?_
        refine list_cons rfl (op_q (q_move rfl (by decide)) ?_)
        refine list_cons rfl (op_q (by first | exact q_addI rfl rfl (by decide) (by omega) (by omega) | exact q_ib rfl rfl rfl (by decide)) ?_)
        refine list_cons rfl (op_q (q_assign rfl (by decide)) ?_)
        refine list_nil ?_
        refine then_n ⟨(_, _, _, _, _, _, _, _, _, _, _, _, _, _), imp_covers ⟨rfl, rfl, rfl, rfl, rfl, rfl, rfl, rfl, rfl, rfl, rfl, rfl, rfl, rfl, rfl, rfl, trivial⟩, ?_, ?_⟩
        · (try dsimp only)
          refine ⟨by omega, by omega, ?_⟩
          rw [show (k + 1).toNat = k.toNat + 1 by omega]; rfl
        · (try dsimp only); omega
      (try simp only [Decidable.not_not] at h23); (try have hC : CfP cA aA pA qA := h23); (try have hN : (0 ≤ nC ∧ nC ≤ 9) ∧ FkP pC qC := h23); (try (have hW : ((0 ≤ cD ∧ cD ≤ 127) ∧ FkP pD qD) ∧ 0 < sm9 cD pD qD 10 := h23; have hL0 := hLL; rw [if_pos hW] at hL0))
      refine code_exit ?_
      refine then_x ?_; clear hK49 K49
      refine then_x ?_
      refine blk_hit ?_
      refine hK47 _ ?_; clear hK47 K47
      refine code_seq (fun K52 hK52 => ?_)
      refine code_region ?_
      refine list_cons rfl (op_q (q_move rfl (by decide)) ?_)
      refine list_cons rfl (op_q (q_len_sl Tryd.underlying33 rfl rfl (by decide)) ?_)
      refine list_cons rfl (op_q (q_ne rfl rfl (by decide)) ?_)
      refine list_cons rfl (op_q (q_move rfl (by decide)) ?_)
      refine list_guard_d rfl rfl rfl rfl (by decide) rfl (by decide) (fun h24 => ?_) (fun h24 => ?_)
      · simp only [Bool.false_eq_true, if_true, if_false, Decidable.not_not] at h24
        (try simp only [Decidable.not_not] at h24); (try have hC : CfP cA aA pA qA := h24); (try have hN : (0 ≤ nC ∧ nC ≤ 9) ∧ FkP pC qC := h24); (try (have hW : ((0 ≤ cD ∧ cD ≤ 127) ∧ FkP pD qD) ∧ 0 < sm9 cD pD qD 10 := h24; have hL0 := hLL; rw [if_pos hW] at hL0))
        refine id (op_q (q_load_agg agg_26 39 (.inr ⟨rfl, _, rfl⟩) rfl rfl (by first | decide | omega | exact Nat.le_refl _ | (simp; done) | (simp; omega)) (by first | rfl | exact flat_part (flat_map _ (fun _ => rfl) _) _ _ | exact flat_part (fl_flat _) _ _) (by decide)) ?_)
        refine list_guard_y rfl rfl rfl rfl (by decide) rfl ?_
        refine id (op_q (q_build bt_26 (parts := [(0, _), (1, _)]) rfl rfl (by decide)) ?_)
        refine list_guard_y rfl rfl rfl rfl (by decide) rfl ?_
        refine id (op_q (q_aggne (by decide) agg_26 eqty_26 eqg_26 rfl rfl (by first | exact ⟨_, _, rfl, ⟨_, rfl⟩, ⟨_, _, rfl, ⟨_, rfl⟩, trivial⟩⟩) (by first | exact ⟨_, _, rfl, ⟨_, rfl⟩, ⟨_, _, rfl, ⟨_, rfl⟩, trivial⟩⟩) rfl rfl (by decide)) ?_)
        refine list_cons rfl (op_q (q_pick rfl rfl (by decide)) ?_)
        refine list_nil ?_
        refine hK52 _ ?_; clear hK52 K52
        refine codeT.imp (σ' := [(2, .val (.bool _)), (3, .val (.int .i64 _)), (4, .val (.int .i64 _)), (5, .val (.int .i64 _)), (6, .val (.int .i64 _)), (7, .box 7 26 _), (8, .val (.bool _)), (19, .val (.int .i64 _)), (20, .val (.int .i64 _)), (21, .val (.int .i64 _)), (22, .box 22 26 _), (23, .val (.bool _)), (29, .own 121 26 2 _ _), (30, .val (.bool _)), (39, .box 39 26 _), (40, .val (.int .i64 _)), (242, .val (.bool _))]) ?_ (imp_covers ⟨rfl, rfl, rfl, rfl, rfl, rfl, rfl, rfl, rfl, rfl, rfl, rfl, rfl, rfl, rfl, rfl, rfl, trivial⟩)
        refine code_cond_d rfl (fun h25 => ?_) (fun h25 => ?_)
        · skip
          (try simp only [Decidable.not_not] at h25); (try have hC : CfP cA aA pA qA := h25); (try have hN : (0 ≤ nC ∧ nC ≤ 9) ∧ FkP pC qC := h25); (try (have hW : ((0 ≤ cD ∧ cD ≤ 127) ∧ FkP pD qD) ∧ 0 < sm9 cD pD qD 10 := h25; have hL0 := hLL; rw [if_pos hW] at hL0))
          exfalso
          first | exact h25 (by rw [show k.toNat = 10 by omega]; exact ⟨(fr_1 (by omega)).1, (fr_1 (by omega)).2, trivial⟩)
        (try simp only [Decidable.not_not] at h25); (try have hC : CfP cA aA pA qA := h25); (try have hN : (0 ≤ nC ∧ nC ≤ 9) ∧ FkP pC qC := h25); (try (have hW : ((0 ≤ cD ∧ cD ≤ 127) ∧ FkP pD qD) ∧ 0 < sm9 cD pD qD 10 := h25; have hL0 := hLL; rw [if_pos hW] at hL0))
        refine code_skip ?_
        refine hK44 _ ?_; clear hK44 K44
        refine code_seq (fun K53 hK53 => ?_)
        refine code_region ?_
        refine list_cons rfl (op_q (q_assign rfl (by decide)) ?_)
        refine list_nil ?_
        refine hK53 _ ?_; clear hK53 K53
        refine code_ret ?_
        refine ends_ret (cs := []) rfl rfl rfl rfl trivial ?_
        first | rfl
      simp only [Bool.false_eq_true, if_true, if_false, Decidable.not_not] at h24
      (try simp only [Decidable.not_not] at h24); (try have hC : CfP cA aA pA qA := h24); (try have hN : (0 ≤ nC ∧ nC ≤ 9) ∧ FkP pC qC := h24); (try (have hW : ((0 ≤ cD ∧ cD ≤ 127) ∧ FkP pD qD) ∧ 0 < sm9 cD pD qD 10 := h24; have hL0 := hLL; rw [if_pos hW] at hL0))
      exfalso
      omega
  (try simp only [Decidable.not_not] at h22); (try have hC : CfP cA aA pA qA := h22); (try have hN : (0 ≤ nC ∧ nC ≤ 9) ∧ FkP pC qC := h22); (try (have hW : ((0 ≤ cD ∧ cD ≤ 127) ∧ FkP pD qD) ∧ 0 < sm9 cD pD qD 10 := h22; have hL0 := hLL; rw [if_pos hW] at hL0))
  refine code_skip ?_
  refine hK44 _ ?_; clear hK44 K44
  refine code_seq (fun K54 hK54 => ?_)
  refine code_region ?_
  refine list_cons rfl (op_q (q_assign rfl (by decide)) ?_)
  refine list_nil ?_
  refine hK54 _ ?_; clear hK54 K54
  refine code_ret ?_
  refine ends_ret (cs := []) rfl rfl rfl rfl trivial ?_
  first | rfl

end Go.Proofs.YtmjgkhfjhedpkaaDoor
