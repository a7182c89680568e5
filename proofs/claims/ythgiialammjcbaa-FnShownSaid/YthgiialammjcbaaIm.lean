/- Contracts of functions, walked over the pure layer; each says for which arguments. -/
import Derived.Test.YthgiialammjcbaaImTy
import Derived.Test.YthgiialammjcbaaTf
import Derived.Test.YthgiialammjcbaaSp
import Derived.Test.YthgiialammjcbaaShelf
namespace Go.Proofs.Ythgiialammjcbaa
open Go.RowKit ImTy
set_option linter.unusedVariables false
set_option linter.unusedSimpArgs false

def abcG : List UInt8 := [97, 98, 99, 100, 101, 102, 103]
def ixR (r : Int) : Int := if 97 ≤ r ∧ r ≤ 103 then r - 97 else -1
set_option maxRecDepth 100000 in
theorem ix_ascii (r : Int) (h0 : 0 ≤ r) (h1 : r < 128) : Lib.indexByte abcG r.toNat.toUInt8 = ixR r := by
  have k : below 128 (fun n => intEq (Lib.indexByte abcG n.toUInt8) (ixR (n : Int))) = true := by kernel_rfl
  have := below_ok k r.toNat (by omega)
  rw [intEq_eq, beq_iff_eq] at this
  rwa [Int.toNat_of_nonneg h0] at this
theorem ix_none (c : UInt8) (h : 128 ≤ c.toNat) (l : List UInt8) (hl : ∀ b ∈ l, b.toNat < 128) : Lib.indexByte l c = -1 := by
  induction l with
  | nil => rfl
  | cons b l ih =>
    have hb := hl b (by simp)
    have hne : (b == c) = false := by
      rw [beq_eq_false_iff_ne]; intro e; subst e; omega
    unfold Lib.indexByte
    rw [ih (fun x hx => hl x (by simp [hx])), hne]; rfl
theorem abcG_lt : ∀ b ∈ abcG, b.toNat < 128 := by decide


theorem indexByte_c (s : List UInt8) (b : UInt8) : PCalls Try.prog 44 [.str s, .int .u8 b.toNat] (· = [.val (.int .i64 (Lib.indexByte s b))]) := by
  refine pcalls_flat (enters_of Try.func44 (by kernel_rfl) rfl) fun w vs ha => ?_
  obtain ⟨v0, r0, rfl, ha0, ha⟩ := repArgs_cons ha
  obtain ⟨v1, r1, rfl, ha1, ha⟩ := repArgs_cons ha
  obtain rfl := repArgs_nil ha
  simp only [Rep] at ha0 ha1
  subst ha0; subst ha1
  refine (Try.strings_IndexByte (.mk s.toArray) b.toNat w).mono fun e w' ⟨he, hw⟩ => ⟨[.int .i64 (Lib.indexByte s b)], [.int .i64 (Lib.indexByte s b)], ?_, hw ▸ Below.refl _ _, ⟨_, _, rfl, by simp [Rep], rfl⟩, rfl⟩
  rw [he]; simp [packV]
theorem indexRune_ascii (r : Int) (h0 : 0 ≤ r) (h1 : r < 128) : PCalls Try.prog 42 [.str abcG, .int .i32 r] (· = [.val (.int .i64 (ixR r))]) := by
  refine pcalls_flat (enters_of Try.func42 (by kernel_rfl) rfl) fun w vs ha => ?_
  obtain ⟨v0, r0, rfl, ha0, ha⟩ := repArgs_cons ha
  obtain ⟨v1, r1, rfl, ha1, ha⟩ := repArgs_cons ha
  obtain rfl := repArgs_nil ha
  simp only [Rep] at ha0 ha1
  subst ha0; subst ha1
  refine (Try.strings_IndexRune_ascii (.mk abcG.toArray) r w h0 h1).mono fun e w' ⟨he, hw⟩ => ⟨[.int .i64 (ixR r)], [.int .i64 (ixR r)], ?_, hw ▸ Below.refl _ _, ⟨_, _, rfl, by simp [Rep], rfl⟩, rfl⟩
  rw [he, ix_ascii r h0 h1]; rfl

set_option maxRecDepth 4000 in
theorem impl_IsCell (c : Int) : PCalls Try.prog 20 [.int .i64 c] (· = [.val (.bool (decide (0 ≤ c ∧ c ≤ 127)))]) := by
  refine pcalls_of_code (n := 9) az Try.func20 (by kernel_rfl) rfl rfl (Nat.le_of_ble_eq_true rfl) (by intro t u h; simp [Try.f20] at h) ?_
  refine code_seq (fun K1 hK1 => ?_)
  refine code_region ?_
  refine list_cons rfl (op_q (q_assign rfl (by decide)) ?_)
  refine list_nil ?_
  refine hK1 _ ?_; clear hK1 K1
  refine code_seq (fun K2 hK2 => ?_)
  refine code_region ?_
  refine list_cons rfl (op_q (q_move rfl (by decide)) ?_)
  refine list_cons rfl (op_q (q_ge rfl rfl (by decide)) ?_)
  refine list_cons rfl (op_q (q_move rfl (by decide)) ?_)
  refine list_guard_d rfl rfl rfl rfl (by decide) rfl (by decide) (fun h1 => ?_) (fun h1 => ?_)
  · simp only [Bool.false_eq_true, if_true, if_false, Decidable.not_not] at h1
    refine id (op_q (q_move rfl (by decide)) ?_)
    refine list_guard_y rfl rfl rfl rfl (by decide) rfl ?_
    refine id (op_q (q_lt rfl rfl (by decide)) ?_)
    refine list_cons rfl (op_q (q_pick rfl rfl (by decide)) ?_)
    refine list_cons rfl (op_q (q_assign rfl (by decide)) ?_)
    refine list_nil ?_
    refine hK2 _ ?_; clear hK2 K2
    refine code_ret ?_
    refine ends_ret (cs := []) rfl rfl rfl rfl trivial ?_
    first | (congr 3; exact decide_eq_decide.mpr ⟨fun k => by omega, fun k => by omega⟩) | (rw [decide_eq_false (by omega)])
  · simp only [Bool.false_eq_true, if_true, if_false, Decidable.not_not] at h1
    refine list_guard_n rfl rfl rfl rfl (by decide) rfl ?_
    refine list_cons rfl (op_q (q_pick rfl rfl (by decide)) ?_)
    refine list_cons rfl (op_q (q_assign rfl (by decide)) ?_)
    refine list_nil ?_
    refine hK2 _ ?_; clear hK2 K2
    refine code_ret ?_
    refine ends_ret (cs := []) rfl rfl rfl rfl trivial ?_
    first | (congr 3; exact decide_eq_decide.mpr ⟨fun k => by omega, fun k => by omega⟩) | (rw [decide_eq_false (by omega)])

set_option maxRecDepth 4000 in
theorem impl_IsRow (l : List Int) (hl : l.length ≤ 4611686018427387904) : PCalls Try.prog 30 [.sl l.length (l.map (.int .i64))] (· = [.val (.bool (decide (RowP l)))]) := by
  refine pcalls_of_code (n := 18) az Try.func30 (by kernel_rfl) rfl rfl (Nat.le_of_ble_eq_true rfl) (by intro t u h; simp [Try.f30] at h) ?_
  refine code_seq (fun K1 hK1 => ?_)
  refine code_region ?_
  refine list_cons rfl (op_q (q_assign rfl (by decide)) ?_)
  refine list_nil ?_
  refine hK1 _ ?_; clear hK1 K1
  refine code_seq (fun K2 hK2 => ?_)
  refine code_seq (fun K3 hK3 => ?_)
  refine code_region ?_
  refine list_cons rfl (op_q (q_move rfl (by decide)) ?_)
  refine list_cons rfl (op_q (q_len_sl Try.underlying33 rfl rfl (by decide)) ?_)
  refine list_cons rfl (op_q (q_gt rfl rfl (by decide)) ?_)
  refine list_nil ?_
  refine hK3 _ ?_; clear hK3 K3
  refine code_cond_d rfl (fun h1 => ?_) (fun h1 => ?_)
  · skip
    (try simp only [Decidable.not_not] at h1)
    refine code_seq (fun K4 hK4 => ?_)
    refine code_region ?_
    refine list_cons rfl (op_q (q_assign rfl (by decide)) ?_)
    refine list_nil ?_
    refine hK4 _ ?_; clear hK4 K4
    refine code_ret ?_
    refine then_r ?_; clear hK2 K2
    refine ends_ret (cs := []) rfl rfl rfl rfl trivial ?_
    rw [decide_eq_false (fun e => by have := e.1; omega)]
  · skip
    (try simp only [Decidable.not_not] at h1)
    refine code_skip ?_
    refine hK2 _ ?_; clear hK2 K2
    refine code_seq (fun K5 hK5 => ?_)
    refine code_seq (fun K6 hK6 => ?_)
    refine code_region ?_
    refine list_cons rfl (op_q (q_move rfl (by decide)) ?_)
    refine list_cons rfl (op_q (q_len_sl Try.underlying33 rfl rfl (by decide)) ?_)
    refine list_cons rfl (op_q (q_move rfl (by decide)) ?_)
    refine list_nil ?_
    refine hK6 _ ?_; clear hK6 K6
    refine code_block ?_
    refine code_loop (X := Bool × Int) (fun x => [(0, .par 0 (.sl l.length (l.map (.int .i64)))), (2, .val (.bool x.1)), (8, .par 0 (.sl l.length (l.map (.int .i64)))), (9, .val (.int .i64 l.length)), (10, .val (.int .i64 x.2))]) (fun x => 0 ≤ x.2 ∧ x.2 ≤ l.length ∧ ∀ j, j < x.2.toNat → 0 ≤ l.getD j 0 ∧ l.getD j 0 ≤ 127) (fun x => l.length - x.2.toNat) (_, _) (imp_covers ⟨rfl, rfl, rfl, rfl, rfl, trivial⟩) ?_ ?_
    · (try dsimp only)
      refine ⟨by omega, by omega, fun j hj => by simp at hj⟩
    · intro x hI
      obtain ⟨t2, t10⟩ := x
      replace hI : 0 ≤ t10 ∧ t10 ≤ l.length ∧ ∀ j, j < t10.toNat → 0 ≤ l.getD j 0 ∧ l.getD j 0 ≤ 127 := hI
      show codeT _ _ _ [(0, .par 0 (.sl l.length (l.map (.int .i64)))), (2, .val (.bool t2)), (8, .par 0 (.sl l.length (l.map (.int .i64)))), (9, .val (.int .i64 l.length)), (10, .val (.int .i64 t10))] _
      obtain ⟨i1, i3, i4⟩ := hI
      refine code_seq (fun K7 hK7 => ?_)
      refine code_region ?_
      refine list_cons rfl (op_q (q_lt rfl rfl (by decide)) ?_)
      refine list_nil ?_
      refine hK7 _ ?_; clear hK7 K7
      refine code_seq (fun K8 hK8 => ?_)
      refine code_cond_d rfl (fun h2 => ?_) (fun h2 => ?_)
      · skip
        (try simp only [Decidable.not_not] at h2)
        refine code_skip ?_
        refine hK8 _ ?_; clear hK8 K8
        refine code_seq (fun K9 hK9 => ?_)
        refine code_block ?_
        refine code_seq (fun K10 hK10 => ?_)
        refine code_region ?_
        refine list_cons rfl (op_q (q_indexAddr_rd sl_33 rfl (.inl ⟨_, rfl, rfl⟩) rfl (by omega) (by omega) (by decide)) ?_)
        refine list_cons rfl (op_q (q_load_rd one_3 rfl (.inl ⟨_, (by first | rfl | exact congrArg (SV.rpar _) (drop_map1 _ 0 _ (by first | omega | (simp; omega)))), rfl⟩) (by decide)) ?_)
        refine list_cons rfl (op_q (q_assign rfl (by decide)) ?_)
        refine list_nil ?_
        refine hK10 _ ?_; clear hK10 K10
        refine code_seq (fun K11 hK11 => ?_)
        refine code_region ?_
        refine list_cons rfl (op_q (q_move rfl (by decide)) ?_)
        refine list_cons rfl (op_call _ (impl_IsCell _) rfl rfl (by decide) (by decide) (by decide) rfl ?_)
        rintro _ rfl
        refine list_cons rfl (op_q (by first | exact q_notd rfl (by decide) | exact q_not rfl (by decide)) ?_)
        refine list_nil ?_
        refine hK11 _ ?_; clear hK11 K11
        refine codeT.imp (σ' := [(0, _), (2, _), (4, _), (8, _), (9, _), (10, _), (16, _)]) ?_ (imp_covers ⟨rfl, rfl, rfl, rfl, rfl, rfl, rfl, trivial⟩)
        refine code_cond_d rfl (fun h3 => ?_) (fun h3 => ?_)
        · skip
          (try simp only [Decidable.not_not] at h3)
          refine code_seq (fun K12 hK12 => ?_)
          refine code_region ?_
          refine list_cons rfl (op_q (q_assign rfl (by decide)) ?_)
          refine list_nil ?_
          refine hK12 _ ?_; clear hK12 K12
          refine code_ret ?_
          refine blk_r ?_
          refine then_r ?_; clear hK9 K9
          refine then_r ?_
          refine blk_r ?_
          refine then_r ?_; clear hK5 K5
          refine ends_ret (cs := []) rfl rfl rfl rfl trivial ?_
          rw [decide_eq_false (fun e => h3 (e.at (by omega)))]
        · skip
          (try simp only [Decidable.not_not] at h3)
          refine code_skip ?_
          refine blk_n ?_
          refine hK9 _ ?_; clear hK9 K9
          refine code_region ?_
          refine list_cons rfl (op_q (by first | exact q_addI rfl rfl (by decide) (by omega) (by omega) | exact q_ib rfl rfl rfl (by decide)) ?_)
          refine list_cons rfl (op_q (q_move rfl (by decide)) ?_)
          refine list_nil ?_
          refine then_n ⟨(_, _), imp_covers ⟨rfl, rfl, rfl, rfl, rfl, trivial⟩, ?_, ?_⟩
          · (try dsimp only)
            refine ⟨by omega, by omega, fun j hj => ?_⟩
            by_cases e : j = t10.toNat
            · subst e; exact h3
            · exact i4 j (by omega)
          · (try dsimp only); omega
      · skip
        (try simp only [Decidable.not_not] at h2)
        refine code_exit ?_
        refine then_x ?_; clear hK8 K8
        refine then_x ?_
        refine blk_hit ?_
        refine hK5 _ ?_; clear hK5 K5
        refine code_seq (fun K13 hK13 => ?_)
        refine code_region ?_
        refine list_cons rfl (op_q (q_assign rfl (by decide)) ?_)
        refine list_nil ?_
        refine hK13 _ ?_; clear hK13 K13
        refine code_ret ?_
        refine ends_ret (cs := []) rfl rfl rfl rfl trivial ?_
        rw [decide_eq_true (RowP.of (by omega) fun j hj => i4 j (by omega))]

def PlOk (pl : List UInt8) : Prop := pl.length = 7 ∧ ∀ j, j < pl.length → 97 ≤ (pl.getD j 0).toNat ∧ (pl.getD j 0).toNat ≤ 103
def bitN (n k : Nat) : Bool := Nat.beq (shN n k % 2) 1
def movF (pl : List UInt8) (c : Nat) : Nat → Nat
  | 0 => 0
  | k + 1 => if bitN c ((pl.getD k 0).toNat - 97) then movF pl c k ||| p2 k else movF pl c k
def turnG : List UInt8 := [100, 101, 102, 97, 98, 99, 103]
def mirG : List UInt8 := [97, 102, 101, 100, 99, 98, 103]
theorem turnG_ok : PlOk turnG := ⟨rfl, by decide⟩
theorem mirG_ok : PlOk mirG := ⟨rfl, by decide⟩
theorem movF_lt (pl : List UInt8) (c : Nat) : ∀ k, k ≤ 7 → movF pl c k < 128
  | 0, _ => by simp [movF]
  | k + 1, h => by
    have := movF_lt pl c k (by omega)
    unfold movF
    split
    · have h2 : p2 k < 2 ^ 7 := Nat.pow_lt_pow_right (by omega) (by omega)
      exact @Nat.or_lt_two_pow _ _ 7 (by omega) h2
    · exact this
set_option maxRecDepth 100000 in
theorem mov_turn (c : Nat) (h : c < 128) : movF turnG c 7 = turn7 c := by
  have k : below 128 (fun n => Nat.beq (movF turnG n 7) (turn7 n)) = true := by kernel_rfl
  exact Nat.eq_of_beq_eq_true (below_ok k c h)
set_option maxRecDepth 100000 in
theorem mov_mir (c : Nat) (h : c < 128) : movF mirG c 7 = mir7 c := by
  have k : below 128 (fun n => Nat.beq (movF mirG n 7) (mir7 n)) = true := by kernel_rfl
  exact Nat.eq_of_beq_eq_true (below_ok k c h)
theorem bit_iff (c b : Nat) : ((shN c b &&& 1 : Nat) : Int) = 1 ↔ bitN c b = true := by
  rw [Nat.and_one_is_mod]
  unfold bitN
  constructor
  · intro h; have : shN c b % 2 = 1 := by omega
    rw [this]; rfl
  · intro h; have := Nat.eq_of_beq_eq_true h; omega
def movC (pl : List UInt8) (x : Int) : Int := ((movF pl x.toNat 7 : Nat) : Int)
def movL (pl : List UInt8) (l : List Int) : List Int := l.reverse.map (movC pl)
theorem movC_turn {x : Int} (h : 0 ≤ x ∧ x ≤ 127) : movC turnG x = turnC x := by unfold movC turnC; rw [mov_turn _ (by omega)]
theorem movC_mir {x : Int} (h : 0 ≤ x ∧ x ≤ 127) : movC mirG x = mirC x := by unfold movC mirC; rw [mov_mir _ (by omega)]
theorem movL_turn {l : List Int} (h : RowP l) : movL turnG l = turnL l := by
  unfold movL turnL
  exact List.map_congr_left fun x hx => movC_turn (h.2 x (by simpa using hx))
theorem movL_mir {l : List Int} (h : RowP l) : movL mirG l = mirL l := by
  unfold movL mirL
  exact List.map_congr_left fun x hx => movC_mir (h.2 x (by simpa using hx))
/-- What the loop has of the row moved: the last cells stand, the first ones are zeros. -/
def movZ (pl : List UInt8) (l : List Int) (k : Nat) : List Int := List.replicate (l.length - k) 0 ++ ((l.take k).map (movC pl)).reverse
theorem movZ_set (pl : List UInt8) (l : List Int) {k : Nat} (h : k < l.length) : (movZ pl l k).set (l.length - 1 - k) (movC pl (l.getD k 0)) = movZ pl l (k + 1) := by
  unfold movZ
  rw [List.set_append_left _ _ (by simp; omega), map_take _ 0 _ h, List.reverse_append, show l.length - k = (l.length - (k + 1)) + 1 by omega, List.replicate_succ', List.set_append_right _ _ (by simp; omega)]
  rw [show l.length - 1 - k - (List.replicate (l.length - (k + 1)) (0 : Int)).length = 0 by simp; omega]
  simp
theorem movZ_len (pl : List UInt8) (l : List Int) {k : Nat} (h : k ≤ l.length) : (movZ pl l k).length = l.length := by
  unfold movZ; simp; omega
theorem movZ_put (pl : List UInt8) (l : List Int) {k : Nat} (h : k < l.length) {i : Int} (hi : i = (l.length : Int) - 1 - k) : putAt ((movZ pl l k).map (.int .i64)) (i.toNat * 1) [PV.int .i64 (movC pl (l.getD k 0))] = (movZ pl l (k + 1)).map (.int .i64) := by
  rw [put_map1 (PV.int .i64) _ (by rw [movZ_len pl l (by omega)]; omega), show i.toNat = l.length - 1 - k by omega, movZ_set pl l h]
theorem movZ_end (pl : List UInt8) (l : List Int) : movZ pl l l.length = movL pl l := by
  unfold movZ movL; simp


set_option maxRecDepth 4000 in
theorem impl_hasBar (c b : Int) (hc : 0 ≤ c ∧ c ≤ 127) (hb : 0 ≤ b ∧ b ≤ 62) : PCalls Try.prog 41 [.int .i64 c, .int .i64 b] (· = [.val (.bool (decide (bitN c.toNat b.toNat = true)))]) := by
  refine pcalls_of_code (n := 10) az Try.func41 (by kernel_rfl) rfl rfl (Nat.le_of_ble_eq_true rfl) (by intro t u h; simp [Try.f41] at h) ?_
  have hs := shN_le c.toNat b.toNat
  refine code_seq (fun K1 hK1 => ?_)
  refine code_region ?_
  refine list_cons rfl (op_q (q_assign rfl (by decide)) ?_)
  refine list_nil ?_
  refine hK1 _ ?_; clear hK1 K1
  refine code_seq (fun K2 hK2 => ?_)
  refine code_region ?_
  refine list_cons rfl (op_q (q_move rfl (by decide)) ?_)
  refine list_cons rfl (op_q (q_move rfl (by decide)) ?_)
  refine list_cons rfl (op_q (by first | exact q_shrN rfl rfl (by decide) (by omega) (by omega) (by omega) | exact q_shrI rfl rfl (by decide) (by omega) (by omega) (by omega) | exact q_shr rfl rfl (by omega) (by decide)) ?_)
  refine list_cons rfl (op_q (by first | exact q_andI rfl rfl (by decide) (by omega) (by omega) (by omega) (by omega) | exact q_ib rfl rfl rfl (by decide)) ?_)
  refine list_cons rfl (op_q (q_eq rfl rfl (by decide)) ?_)
  refine list_cons rfl (op_q (q_assign rfl (by decide)) ?_)
  refine list_nil ?_
  refine hK2 _ ?_; clear hK2 K2
  refine code_ret ?_
  refine ends_ret (cs := []) rfl rfl rfl rfl trivial ?_
  congr 3
  exact decide_eq_decide.mpr (bit_iff _ _)

set_option maxRecDepth 4000 in
theorem impl_moveCell (c : Int) (pl : List UInt8) (hp : PlOk pl) : PCalls Try.prog 32 [.int .i64 c, .str pl] (· = [.val (.int .i64 (if 0 ≤ c ∧ c ≤ 127 then movC pl c else 0)), .val (.bool (decide (0 ≤ c ∧ c ≤ 127)))]) := by
  refine pcalls_of_code (n := 27) az Try.func32 (by kernel_rfl) rfl rfl (Nat.le_of_ble_eq_true rfl) (by intro t u h; simp [Try.f32] at h) ?_
  obtain ⟨hpl, hpa⟩ := hp
  refine code_seq (fun K1 hK1 => ?_)
  refine code_region ?_
  refine list_cons rfl (op_q (q_assign rfl (by decide)) ?_)
  refine list_cons rfl (op_q (q_assign rfl (by decide)) ?_)
  refine list_nil ?_
  refine hK1 _ ?_; clear hK1 K1
  refine code_seq (fun K2 hK2 => ?_)
  refine code_seq (fun K3 hK3 => ?_)
  refine code_region ?_
  refine list_cons rfl (op_q (q_move rfl (by decide)) ?_)
  refine list_cons rfl (op_call _ (impl_IsCell _) rfl rfl (by decide) (by decide) (by decide) rfl ?_)
  rintro _ rfl
  refine list_cons rfl (op_q (by first | exact q_notd rfl (by decide) | exact q_not rfl (by decide)) ?_)
  refine list_nil ?_
  refine hK3 _ ?_; clear hK3 K3
  refine codeT.imp (σ' := [(0, _), (1, _), (4, _), (5, _), (11, _)]) ?_ (imp_covers ⟨rfl, rfl, rfl, rfl, rfl, trivial⟩)
  refine code_cond_d rfl (fun h1 => ?_) (fun h1 => ?_)
  · skip
    (try simp only [Decidable.not_not] at h1)
    refine code_seq (fun K4 hK4 => ?_)
    refine code_region ?_
    refine list_cons rfl (op_q (q_assign rfl (by decide)) ?_)
    refine list_cons rfl (op_q (q_assign rfl (by decide)) ?_)
    refine list_nil ?_
    refine hK4 _ ?_; clear hK4 K4
    refine code_ret ?_
    refine then_r ?_; clear hK2 K2
    refine ends_ret (cs := []) rfl rfl rfl rfl trivial ?_
    simp only [if_neg h1, decide_eq_false h1]
  · skip
    (try simp only [Decidable.not_not] at h1)
    refine code_skip ?_
    refine hK2 _ ?_; clear hK2 K2
    refine code_seq (fun K5 hK5 => ?_)
    refine code_region ?_
    refine list_cons rfl (op_q (q_assign rfl (by decide)) ?_)
    refine list_nil ?_
    refine hK5 _ ?_; clear hK5 K5
    refine code_seq (fun K6 hK6 => ?_)
    refine code_seq (fun K7 hK7 => ?_)
    refine code_region ?_
    refine list_cons rfl (op_q (q_move rfl (by decide)) ?_)
    refine list_cons rfl (op_range_str Try.underlying9 rfl (by decide) (by decide) rfl ?_)
    refine list_nil ?_
    refine hK7 _ ?_; clear hK7 K7
    refine code_block ?_
    refine code_loop (X := Int × Bool × Int × Nat) (fun x => [(0, .val (.int .i64 c)), (1, .val (.str pl)), (4, .val (.int .i64 x.1)), (5, .val (.bool x.2.1)), (6, .val (.int .i64 x.2.2.1)), (13, .sit 13 (pl) x.2.2.2)]) (fun x => x.2.2.2 ≤ 7 ∧ x.2.2.1 = ((movF pl c.toNat x.2.2.2 : Nat) : Int)) (fun x => 7 - x.2.2.2) (_, _, _, _) (imp_covers ⟨rfl, rfl, rfl, rfl, rfl, rfl, trivial⟩) ?_ ?_
    · (try dsimp only)
      exact ⟨by omega, rfl⟩
    · intro x hI
      obtain ⟨t4, t5, moved, t13_i⟩ := x
      replace hI : t13_i ≤ 7 ∧ moved = ((movF pl c.toNat t13_i : Nat) : Int) := hI
      show codeT _ _ _ [(0, .val (.int .i64 c)), (1, .val (.str pl)), (4, .val (.int .i64 t4)), (5, .val (.bool t5)), (6, .val (.int .i64 moved)), (13, .sit 13 (pl) t13_i)] _
      obtain ⟨i1, i2⟩ := hI
      have i3 := movF_lt pl c.toNat t13_i i1
      have hpi := hpa t13_i
      have hp2 := p2_le (k := ((t13_i : Nat) : Int).toNat) (by omega)
      refine code_seq (fun K8 hK8 => ?_)
      refine code_region ?_
      refine list_cons rfl (op_nextA (h := 13) (fun j hj => by have := hpa j hj; omega) rfl rfl (by decide) (fun h2 => ?_) (fun h2 => ?_))
      · skip
        refine list_cons rfl (op_q (q_extract rfl rfl (by decide)) ?_)
        refine list_nil ?_
        refine hK8 _ ?_; clear hK8 K8
        refine code_seq (fun K9 hK9 => ?_)
        refine code_cond_f rfl ?_
        refine code_exit ?_
        refine then_x ?_; clear hK9 K9
        refine then_x ?_
        refine blk_hit ?_
        refine hK6 _ ?_; clear hK6 K6
        refine code_seq (fun K10 hK10 => ?_)
        refine code_region ?_
        refine list_cons rfl (op_q (q_move rfl (by decide)) ?_)
        refine list_cons rfl (op_q (q_assign rfl (by decide)) ?_)
        refine list_cons rfl (op_q (q_assign rfl (by decide)) ?_)
        refine list_nil ?_
        refine hK10 _ ?_; clear hK10 K10
        refine code_ret ?_
        refine ends_ret (cs := []) rfl rfl rfl rfl trivial ?_
        have e7 : t13_i = 7 := by omega
        simp only [if_pos h1, decide_eq_true h1, i2, e7]; rfl
      · skip
        refine list_cons rfl (op_q (q_extract rfl rfl (by decide)) ?_)
        refine list_nil ?_
        refine hK8 _ ?_; clear hK8 K8
        refine code_seq (fun K11 hK11 => ?_)
        refine code_cond_t rfl ?_
        refine code_skip ?_
        refine hK11 _ ?_; clear hK11 K11
        refine code_block ?_
        refine code_seq (fun K12 hK12 => ?_)
        refine code_region ?_
        refine list_cons rfl (op_q (q_extract rfl rfl (by decide)) ?_)
        refine list_cons rfl (op_q (q_extract rfl rfl (by decide)) ?_)
        refine list_cons rfl (op_q (q_assign rfl (by decide)) ?_)
        refine list_cons rfl (op_q (q_assign rfl (by decide)) ?_)
        refine list_nil ?_
        refine hK12 _ ?_; clear hK12 K12
        refine code_seq (fun K13 hK13 => ?_)
        refine code_region ?_
        refine list_cons rfl (op_q (q_move rfl (by decide)) ?_)
        refine list_cons rfl (op_q (q_move rfl (by decide)) ?_)
        refine list_cons rfl (op_call _ (indexRune_ascii _ (by omega) (by have := hpi (by omega); omega)) rfl rfl (by decide) (by decide) (by decide) rfl ?_)
        rintro _ rfl
        refine list_cons rfl (op_call _ (impl_hasBar _ _ (by omega) (by have := hpi (by omega); unfold ixR; rw [if_pos (by omega)]; omega)) rfl rfl (by decide) (by decide) (by decide) rfl ?_)
        rintro _ rfl
        refine list_nil ?_
        refine hK13 _ ?_; clear hK13 K13
        refine codeT.imp (σ' := [(0, _), (1, _), (4, _), (5, _), (6, _), (7, _), (8, _), (13, _), (14, _), (21, _)]) ?_ (imp_covers ⟨rfl, rfl, rfl, rfl, rfl, rfl, rfl, rfl, rfl, rfl, trivial⟩)
        refine code_cond_d rfl (fun h3 => ?_) (fun h3 => ?_)
        · skip
          (try simp only [Decidable.not_not] at h3)
          refine code_region ?_
          refine list_cons rfl (op_q (q_move rfl (by decide)) ?_)
          refine list_cons rfl (op_q (q_move rfl (by decide)) ?_)
          refine list_cons rfl (op_q (by first | exact q_shl1 rfl rfl (by decide) (by omega) (by omega) | exact q_shlI rfl rfl (by decide) (by omega) (by omega) (by omega) | exact q_shl rfl rfl (by omega) (by decide)) ?_)
          refine list_cons rfl (op_q (by first | exact q_orI rfl rfl (by decide) (by omega) (by omega) (by omega) (by omega) | exact q_ib rfl rfl rfl (by decide)) ?_)
          refine list_cons rfl (op_q (q_assign rfl (by decide)) ?_)
          refine list_nil ?_
          refine blk_n ?_
          refine then_n ⟨(_, _, _, _), imp_covers ⟨rfl, rfl, rfl, rfl, rfl, rfl, trivial⟩, ?_, ?_⟩
          · (try dsimp only)
            refine ⟨by omega, ?_⟩
            rw [movF]
            have e : ((pl.getD t13_i 0).toNat : Int) - 97 = (((pl.getD t13_i 0).toNat - 97 : Nat) : Int) := by omega
            have hb := h3
            rw [ixR, if_pos (by omega), e, Int.toNat_natCast] at hb
            rw [if_pos hb, i2, Int.toNat_natCast, Int.toNat_natCast, Int.toNat_natCast]
          · (try dsimp only); omega
        · skip
          (try simp only [Decidable.not_not] at h3)
          refine code_skip ?_
          refine blk_n ?_
          refine then_n ⟨(_, _, _, _), imp_covers ⟨rfl, rfl, rfl, rfl, rfl, rfl, trivial⟩, ?_, ?_⟩
          · (try dsimp only)
            refine ⟨by omega, ?_⟩
            rw [movF]
            have e : ((pl.getD t13_i 0).toNat : Int) - 97 = (((pl.getD t13_i 0).toNat - 97 : Nat) : Int) := by omega
            have hb := h3
            rw [ixR, if_pos (by omega), e, Int.toNat_natCast] at hb
            rw [if_neg hb, i2]
          · (try dsimp only); omega

set_option maxRecDepth 4000 in
theorem impl_TurnCell (c : Int) : PCalls Try.prog 21 [.int .i64 c] (· = [.val (.int .i64 (if 0 ≤ c ∧ c ≤ 127 then ((turn7 c.toNat : Nat) : Int) else 0)), .val (.bool (decide (0 ≤ c ∧ c ≤ 127)))]) := by
  refine pcalls_of_code (n := 8) az Try.func21 (by kernel_rfl) rfl rfl (Nat.le_of_ble_eq_true rfl) (by intro t u h; simp [Try.f21] at h) ?_
  refine code_seq (fun K1 hK1 => ?_)
  refine code_region ?_
  refine list_cons rfl (op_q (q_assign rfl (by decide)) ?_)
  refine list_cons rfl (op_q (q_assign rfl (by decide)) ?_)
  refine list_nil ?_
  refine hK1 _ ?_; clear hK1 K1
  refine code_seq (fun K2 hK2 => ?_)
  refine code_region ?_
  refine list_cons rfl (op_q (q_move rfl (by decide)) ?_)
  refine list_cons rfl (op_call _ (impl_moveCell c turnG turnG_ok) rfl rfl (by decide) (by decide) (by decide) rfl ?_)
  rintro _ rfl
  refine list_cons rfl (op_q (q_extract rfl rfl (by decide)) ?_)
  refine list_cons rfl (op_q (q_extract rfl rfl (by decide)) ?_)
  refine list_cons rfl (op_q (q_assign rfl (by decide)) ?_)
  refine list_cons rfl (op_q (q_assign rfl (by decide)) ?_)
  refine list_nil ?_
  refine hK2 _ ?_; clear hK2 K2
  refine codeT.imp (σ' := [(0, _), (2, _), (3, _)]) ?_ (imp_covers ⟨rfl, rfl, rfl, trivial⟩)
  refine code_ret ?_
  refine ends_ret (cs := []) rfl rfl rfl rfl trivial ?_
  by_cases e : 0 ≤ c ∧ c ≤ 127
  · simp only [if_pos e, decide_eq_true e]; rw [movC, mov_turn _ (by omega)]
  · simp only [if_neg e, decide_eq_false e]

end Go.Proofs.Ythgiialammjcbaa
