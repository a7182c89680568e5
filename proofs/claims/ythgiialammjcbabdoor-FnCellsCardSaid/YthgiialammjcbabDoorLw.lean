/- Contracts of functions, walked over the pure layer; each says for which arguments. -/
import Derived.Test.YthgiialammjcbabDoorLwTy
import Derived.Shelf.Strings.BuilderRune
import Derived.Test.YthgiialammjcbabDoorTf
import Derived.Test.YthgiialammjcbabDoorSp
import Derived.Test.YthgiialammjcbabDoorShelf
import Derived.Test.YthgiialammjcbabDoorBl
import Derived.Test.YthgiialammjcbabDoorDr
import Derived.Test.YthgiialammjcbabDoorDr2
import Derived.Test.YthgiialammjcbabDoorDr4
import Derived.Test.YthgiialammjcbabDoorLv
import Derived.Test.YthgiialammjcbabDoorIm
namespace Go.Proofs.YthgiialammjcbabDoor
open Go.RowKit LwTy
set_option linter.unusedVariables false
set_option linter.unusedSimpArgs false

def bEq (a b : Bool) : Bool := match a, b with | true, true => true | false, false => true | _, _ => false
theorem bEq_ok {a b : Bool} (h : bEq a b = true) : a = b := by cases a <;> cases b <;> first | rfl | cases h
def permT (i : Nat) : Nat := match i with | 0 => 3 | 1 => 4 | 2 => 5 | 3 => 0 | 4 => 1 | 5 => 2 | 6 => 6 | i => i
def permM (i : Nat) : Nat := match i with | 1 => 5 | 2 => 4 | 4 => 2 | 5 => 1 | i => i
set_option maxRecDepth 100000 in
theorem turn7_bit (n i : Nat) (h : n < 128) (hi : i < 7) : (turn7 n).testBit i = n.testBit (permT i) := by
  have k : below 128 (fun x => below 7 (fun j => bEq ((turn7 x).testBit j) (x.testBit (permT j)))) = true := by kernel_rfl
  exact bEq_ok (below_ok (below_ok k n h) i hi)
set_option maxRecDepth 100000 in
theorem mir7_bit (n i : Nat) (h : n < 128) (hi : i < 7) : (mir7 n).testBit i = n.testBit (permM i) := by
  have k : below 128 (fun x => below 7 (fun j => bEq ((mir7 x).testBit j) (x.testBit (permM j)))) = true := by kernel_rfl
  exact bEq_ok (below_ok (below_ok k n h) i hi)
theorem c7_all (n : Nat) (h : n < 128) : turn7 n < 128 ∧ mir7 n < 128 ∧ turn7 (turn7 n) = n ∧ mir7 (mir7 n) = n ∧ cnt7 (turn7 n) = cnt7 n ∧ cnt7 (mir7 n) = cnt7 n ∧ (bars7 n).length = cnt7 n ∧ orF (bars7 n) = n := by
  have k : below 128 (fun x => Nat.blt (turn7 x) 128 && (Nat.blt (mir7 x) 128 && (Nat.beq (turn7 (turn7 x)) x && (Nat.beq (mir7 (mir7 x)) x && (Nat.beq (cnt7 (turn7 x)) (cnt7 x) && (Nat.beq (cnt7 (mir7 x)) (cnt7 x) && (Nat.beq (bars7 x).length (cnt7 x) && Nat.beq (orF (bars7 x)) x))))))) = true := by kernel_rfl
  have k := below_ok k n h
  simp only [Bool.and_eq_true] at k
  obtain ⟨k1, k2, k3, k4, k5, k6, k7, k8⟩ := k
  exact ⟨Nat.le_of_ble_eq_true k1, Nat.le_of_ble_eq_true k2, Nat.eq_of_beq_eq_true k3, Nat.eq_of_beq_eq_true k4, Nat.eq_of_beq_eq_true k5, Nat.eq_of_beq_eq_true k6, Nat.eq_of_beq_eq_true k7, Nat.eq_of_beq_eq_true k8⟩
theorem bits7 {a b : Nat} (ha : a < 128) (hb : b < 128) (h : ∀ i, i < 7 → a.testBit i = b.testBit i) : a = b := by
  apply Nat.eq_of_testBit_eq
  intro i
  by_cases hi : i < 7
  · exact h i hi
  · have e : ∀ x : Nat, x < 128 → x.testBit i = false := fun x hx => Nat.testBit_lt_two_pow (Nat.lt_of_lt_of_le hx (Nat.pow_le_pow_right (n := 2) (by omega) (show 7 ≤ i by omega)))
    rw [e a ha, e b hb]
theorem turn_xor {a b : Nat} (ha : a < 128) (hb : b < 128) : turn7 a ^^^ turn7 b = turn7 (a ^^^ b) := by
  have hx : a ^^^ b < 128 := @Nat.xor_lt_two_pow a b 7 (by omega) (by omega)
  refine bits7 (@Nat.xor_lt_two_pow _ _ 7 (c7_all a ha).1 (c7_all b hb).1) (c7_all _ hx).1 fun i hi => ?_
  rw [Nat.testBit_xor, turn7_bit _ _ ha hi, turn7_bit _ _ hb hi, turn7_bit _ _ hx hi, Nat.testBit_xor]
theorem mir_xor {a b : Nat} (ha : a < 128) (hb : b < 128) : mir7 a ^^^ mir7 b = mir7 (a ^^^ b) := by
  have hx : a ^^^ b < 128 := @Nat.xor_lt_two_pow a b 7 (by omega) (by omega)
  refine bits7 (@Nat.xor_lt_two_pow _ _ 7 (c7_all a ha).2.1 (c7_all b hb).2.1) (c7_all _ hx).2.1 fun i hi => ?_
  rw [Nat.testBit_xor, mir7_bit _ _ ha hi, mir7_bit _ _ hb hi, mir7_bit _ _ hx hi, Nat.testBit_xor]
/-! Texts of bars. -/
def subs : Nat → Nat → List (List UInt8)
  | 0, _ => [[]]
  | n + 1, c => subs n (c + 1) ++ (subs n (c + 1)).map (UInt8.ofNat c :: ·)
def ascP : Nat → List UInt8 → Prop
  | _, [] => True
  | lo, b :: t => lo ≤ b.toNat ∧ b.toNat ≤ 103 ∧ ascP (b.toNat + 1) t
theorem nil_subs : ∀ n c, [] ∈ subs n c
  | 0, _ => by simp [subs]
  | n + 1, c => by rw [subs]; exact List.mem_append_left _ (nil_subs n (c + 1))
theorem asc_subs : ∀ (n lo : Nat) (s : List UInt8), lo + n = 104 → ascP lo s → s ∈ subs n lo
  | n, lo, [], _, _ => nil_subs n lo
  | 0, lo, b :: t, e, h => absurd h.1 (by have := h.2.1; omega)
  | n + 1, lo, b :: t, e, h => by
    rw [subs]
    by_cases hb : b.toNat = lo
    · subst hb
      refine List.mem_append_right _ (List.mem_map.2 ⟨t, asc_subs n (b.toNat + 1) t (by omega) h.2.2, ?_⟩)
      rw [UInt8.ofNat_toNat]
    · exact List.mem_append_left _ (asc_subs n (lo + 1) (b :: t) (by omega) ⟨by have := h.1; omega, h.2⟩)
theorem ord_tail {b : UInt8} {t : List UInt8} (h : OrdP (b :: t)) : OrdP t := fun i hi => by
  have k := h (i + 1) (by simp; omega)
  refine ⟨k.1, k.2.1, fun h0 => ?_⟩
  have k2 := k.2.2 (by omega)
  obtain ⟨j, rfl⟩ : ∃ j, i = j + 1 := ⟨i - 1, by omega⟩
  exact k2
theorem ord_asc : ∀ (s : List UInt8) (lo : Nat), OrdP s → (∀ b t, s = b :: t → lo ≤ b.toNat) → ascP lo s
  | [], _, _, _ => trivial
  | b :: t, lo, h, h1 => by
    refine ⟨h1 b t rfl, (h 0 (by simp)).2.1, ord_asc t _ (ord_tail h) fun c r e => ?_⟩
    subst e
    exact (h 1 (by simp)).2.2 (by omega)
theorem bars_ord {s : List UInt8} (h : OrdP s) : bars7 (orF s) = s := by
  have m := asc_subs 7 97 s rfl (ord_asc s 97 h fun b t e => by subst e; exact (h 0 (by simp)).1)
  have k : (subs 7 97).all (fun s => decide (bars7 (orF s) = s)) = true := by kernel_rfl
  exact of_decide_eq_true (List.all_eq_true.1 k s m)
theorem ord_bars {n : Nat} (h : n < 128) : OrdP (bars7 n) := by
  have k : below 128 (fun x => decide (OrdP (bars7 x))) = true := by kernel_rfl
  exact of_decide_eq_true (below_ok k n h)
theorem orF_127 (s : List UInt8) (h : OrdP s) : orF s < 128 := by
  have := orF_lt s h s.length (Nat.le_refl _)
  rwa [List.take_length] at this
section
variable {c a b d : Int} {s : List UInt8}
theorem cT (c : Int) : 0 ≤ (if 0 ≤ c ∧ c ≤ 127 then ((turn7 c.toNat : Nat) : Int) else 0) ∧ (if 0 ≤ c ∧ c ≤ 127 then ((turn7 c.toNat : Nat) : Int) else 0) ≤ 127 := by
  split
  · have := (c7_all c.toNat (by omega)).1; omega
  · omega
theorem cM (c : Int) : 0 ≤ (if 0 ≤ c ∧ c ≤ 127 then ((mir7 c.toNat : Nat) : Int) else 0) ∧ (if 0 ≤ c ∧ c ≤ 127 then ((mir7 c.toNat : Nat) : Int) else 0) ≤ 127 := by
  split
  · have := (c7_all c.toNat (by omega)).2.1; omega
  · omega
theorem cR (s : List UInt8) : 0 ≤ (if OrdP s then ((orF s : Nat) : Int) else 0) ∧ (if OrdP s then ((orF s : Nat) : Int) else 0) ≤ 127 := by
  split
  · rename_i h; have := orF_127 s h; omega
  · omega
theorem turn_twice (k : 0 ≤ c ∧ c ≤ 127) : (if 0 ≤ (if 0 ≤ c ∧ c ≤ 127 then ((turn7 c.toNat : Nat) : Int) else 0) ∧ (if 0 ≤ c ∧ c ≤ 127 then ((turn7 c.toNat : Nat) : Int) else 0) ≤ 127 then ((turn7 (if 0 ≤ c ∧ c ≤ 127 then ((turn7 c.toNat : Nat) : Int) else 0).toNat : Nat) : Int) else 0) = c := by
  rw [if_pos (cT c), if_pos k, Int.toNat_natCast, (c7_all c.toNat (by omega)).2.2.1]; omega
theorem mir_twice (k : 0 ≤ c ∧ c ≤ 127) : (if 0 ≤ (if 0 ≤ c ∧ c ≤ 127 then ((mir7 c.toNat : Nat) : Int) else 0) ∧ (if 0 ≤ c ∧ c ≤ 127 then ((mir7 c.toNat : Nat) : Int) else 0) ≤ 127 then ((mir7 (if 0 ≤ c ∧ c ≤ 127 then ((mir7 c.toNat : Nat) : Int) else 0).toNat : Nat) : Int) else 0) = c := by
  rw [if_pos (cM c), if_pos k, Int.toNat_natCast, (c7_all c.toNat (by omega)).2.2.2.1]; omega
theorem bars_cnt (k : 0 ≤ c ∧ c ≤ 127) : (((if 0 ≤ c ∧ c ≤ 127 then bars7 c.toNat else []).length : Nat) : Int) = (if 0 ≤ c ∧ c ≤ 127 then ((cnt7 c.toNat : Nat) : Int) else 0) := by
  rw [if_pos k, if_pos k, (c7_all c.toNat (by omega)).2.2.2.2.2.2.1]
theorem ord_own (k : 0 ≤ c ∧ c ≤ 127) : OrdP (if 0 ≤ c ∧ c ≤ 127 then bars7 c.toNat else []) := by
  rw [if_pos k]; exact ord_bars (by omega)
theorem parse_own (k : 0 ≤ c ∧ c ≤ 127) : (if OrdP (if 0 ≤ c ∧ c ≤ 127 then bars7 c.toNat else []) then ((orF (if 0 ≤ c ∧ c ≤ 127 then bars7 c.toNat else []) : Nat) : Int) else 0) = c := by
  rw [if_pos (ord_own k), if_pos k, (c7_all c.toNat (by omega)).2.2.2.2.2.2.2]; omega
theorem bars_read (k : OrdP s) : (if 0 ≤ (if OrdP s then ((orF s : Nat) : Int) else 0) ∧ (if OrdP s then ((orF s : Nat) : Int) else 0) ≤ 127 then bars7 (if OrdP s then ((orF s : Nat) : Int) else 0).toNat else []) = s := by
  rw [if_pos (cR s), if_pos k, Int.toNat_natCast, bars_ord k]
theorem dig_cell (k : 0 ≤ d ∧ d ≤ 9) : digOf (if 0 ≤ d ∧ d ≤ 9 then digT.getD d.toNat 0 else 0) = d := by
  rw [if_pos k]; exact digOf_at k.1 k.2 rfl
theorem far_turn (k : (0 ≤ a ∧ a ≤ 127) ∧ (0 ≤ b ∧ b ≤ 127)) : ((cnt7 ((if 0 ≤ a ∧ a ≤ 127 then ((turn7 a.toNat : Nat) : Int) else 0).toNat ^^^ (if 0 ≤ b ∧ b ≤ 127 then ((turn7 b.toNat : Nat) : Int) else 0).toNat) : Nat) : Int) = ((cnt7 (a.toNat ^^^ b.toNat) : Nat) : Int) := by
  have hx : a.toNat ^^^ b.toNat < 128 := @Nat.xor_lt_two_pow _ _ 7 (by omega) (by omega)
  rw [if_pos k.1, if_pos k.2, Int.toNat_natCast, Int.toNat_natCast, turn_xor (by omega) (by omega), (c7_all _ hx).2.2.2.2.1]
theorem far_mir (k : (0 ≤ a ∧ a ≤ 127) ∧ (0 ≤ b ∧ b ≤ 127)) : ((cnt7 ((if 0 ≤ a ∧ a ≤ 127 then ((mir7 a.toNat : Nat) : Int) else 0).toNat ^^^ (if 0 ≤ b ∧ b ≤ 127 then ((mir7 b.toNat : Nat) : Int) else 0).toNat) : Nat) : Int) = ((cnt7 (a.toNat ^^^ b.toNat) : Nat) : Int) := by
  have hx : a.toNat ^^^ b.toNat < 128 := @Nat.xor_lt_two_pow _ _ 7 (by omega) (by omega)
  rw [if_pos k.1, if_pos k.2, Int.toNat_natCast, Int.toNat_natCast, mir_xor (by omega) (by omega), (c7_all _ hx).2.2.2.2.2.1]
theorem far_turnI (k : (0 ≤ a ∧ a ≤ 127) ∧ (0 ≤ b ∧ b ≤ 127)) : (if (0 ≤ (if 0 ≤ a ∧ a ≤ 127 then ((turn7 a.toNat : Nat) : Int) else 0) ∧ (if 0 ≤ a ∧ a ≤ 127 then ((turn7 a.toNat : Nat) : Int) else 0) ≤ 127) ∧ (0 ≤ (if 0 ≤ b ∧ b ≤ 127 then ((turn7 b.toNat : Nat) : Int) else 0) ∧ (if 0 ≤ b ∧ b ≤ 127 then ((turn7 b.toNat : Nat) : Int) else 0) ≤ 127) then ((cnt7 ((if 0 ≤ a ∧ a ≤ 127 then ((turn7 a.toNat : Nat) : Int) else 0).toNat ^^^ (if 0 ≤ b ∧ b ≤ 127 then ((turn7 b.toNat : Nat) : Int) else 0).toNat) : Nat) : Int) else 0) = (if (0 ≤ a ∧ a ≤ 127) ∧ (0 ≤ b ∧ b ≤ 127) then ((cnt7 (a.toNat ^^^ b.toNat) : Nat) : Int) else 0) := by
  have h : (0 ≤ (if 0 ≤ a ∧ a ≤ 127 then ((turn7 a.toNat : Nat) : Int) else 0) ∧ (if 0 ≤ a ∧ a ≤ 127 then ((turn7 a.toNat : Nat) : Int) else 0) ≤ 127) ∧ (0 ≤ (if 0 ≤ b ∧ b ≤ 127 then ((turn7 b.toNat : Nat) : Int) else 0) ∧ (if 0 ≤ b ∧ b ≤ 127 then ((turn7 b.toNat : Nat) : Int) else 0) ≤ 127) := ⟨cT a, cT b⟩
  rw [if_pos h, if_pos k]; exact far_turn k
theorem far_mirI (k : (0 ≤ a ∧ a ≤ 127) ∧ (0 ≤ b ∧ b ≤ 127)) : (if (0 ≤ (if 0 ≤ a ∧ a ≤ 127 then ((mir7 a.toNat : Nat) : Int) else 0) ∧ (if 0 ≤ a ∧ a ≤ 127 then ((mir7 a.toNat : Nat) : Int) else 0) ≤ 127) ∧ (0 ≤ (if 0 ≤ b ∧ b ≤ 127 then ((mir7 b.toNat : Nat) : Int) else 0) ∧ (if 0 ≤ b ∧ b ≤ 127 then ((mir7 b.toNat : Nat) : Int) else 0) ≤ 127) then ((cnt7 ((if 0 ≤ a ∧ a ≤ 127 then ((mir7 a.toNat : Nat) : Int) else 0).toNat ^^^ (if 0 ≤ b ∧ b ≤ 127 then ((mir7 b.toNat : Nat) : Int) else 0).toNat) : Nat) : Int) else 0) = (if (0 ≤ a ∧ a ≤ 127) ∧ (0 ≤ b ∧ b ≤ 127) then ((cnt7 (a.toNat ^^^ b.toNat) : Nat) : Int) else 0) := by
  have h : (0 ≤ (if 0 ≤ a ∧ a ≤ 127 then ((mir7 a.toNat : Nat) : Int) else 0) ∧ (if 0 ≤ a ∧ a ≤ 127 then ((mir7 a.toNat : Nat) : Int) else 0) ≤ 127) ∧ (0 ≤ (if 0 ≤ b ∧ b ≤ 127 then ((mir7 b.toNat : Nat) : Int) else 0) ∧ (if 0 ≤ b ∧ b ≤ 127 then ((mir7 b.toNat : Nat) : Int) else 0) ≤ 127) := ⟨cM a, cM b⟩
  rw [if_pos h, if_pos k]; exact far_mir k
theorem barsI_len (c : Int) : (if 0 ≤ c ∧ c ≤ 127 then bars7 c.toNat else []).length ≤ 4611686018427387904 := by
  split
  · exact Nat.le_trans (bars7_len _) (by decide)
  · simp
end

set_option maxRecDepth 4000 in
theorem rBig_c (code : List UInt8) : PCalls Tryd.prog 5 [.sl code.length (bytesP code)] (· = [.val (.bool (decide (65536 < code.length)))]) := by
  refine pcalls_of_code (n := 6) az Tryd.func5 (by kernel_rfl) rfl rfl (Nat.le_of_ble_eq_true rfl) (by intro t u h; simp [Tryd.f5] at h) ?_
  refine code_seq (fun K1 hK1 => ?_)
  refine code_region ?_
  refine list_cons rfl (op_q (q_assign rfl (by decide)) ?_)
  refine list_nil ?_
  refine hK1 _ ?_; clear hK1 K1
  refine code_seq (fun K2 hK2 => ?_)
  refine code_region ?_
  refine list_cons rfl (op_q (q_move rfl (by decide)) ?_)
  refine list_cons rfl (op_q (q_len_sl Tryd.underlying22 rfl rfl (by decide)) ?_)
  refine list_cons rfl (op_q (q_gt rfl rfl (by decide)) ?_)
  refine list_cons rfl (op_q (q_assign rfl (by decide)) ?_)
  refine list_nil ?_
  refine hK2 _ ?_; clear hK2 K2
  refine code_ret ?_
  refine ends_ret (cs := []) rfl rfl rfl rfl trivial ?_
  first | rfl | (congr 3; exact decide_eq_decide.mpr (by omega))

set_option maxRecDepth 40000 in
set_option maxHeartbeats 32000000 in
theorem FnCells_law (code : List UInt8) (p0 : code.length ≤ 9223372036854775807) : MCalls Tryd.prog 3 true none [.sl code.length (bytesP code)] fun rs _ => rs = [.val (.bool true)] := by
  refine mcalls_of_code (n := 381) az Tryd.func3 (by kernel_rfl) rfl rfl (Nat.le_of_ble_eq_true rfl) (by intro t u h; simp [Tryd.f3] at h) ?_
  refine code_seq (fun K1 hK1 => ?_)
  refine code_region ?_
  refine list_cons rfl (op_q (q_assign rfl (by decide)) ?_)
  refine list_nil ?_
  refine hK1 _ ?_; clear hK1 K1
  refine code_seq (fun K2 hK2 => ?_)
  refine code_seq (fun K3 hK3 => ?_)
  refine code_region ?_
  refine list_cons rfl (op_q (q_move rfl (by decide)) ?_)
  refine list_cons rfl (op_call _ (rBig_c _) rfl rfl (by decide) (by decide) (by decide) rfl ?_)
  rintro _ rfl
  refine list_nil ?_
  refine hK3 _ ?_; clear hK3 K3
  refine codeT.imp (σ' := [(0, .ext _), (2, .val (.bool _)), (63, .val (.bool _))]) ?_ (imp_covers ⟨rfl, rfl, rfl, trivial⟩)
  refine code_cond_d rfl (fun h1 => ?_) (fun h1 => ?_)
  · skip
    (try simp only [Decidable.not_not] at h1)
    refine code_seq (fun K4 hK4 => ?_)
    refine code_region ?_
    refine list_cons rfl (op_q (q_assign rfl (by decide)) ?_)
    refine list_nil ?_
    refine hK4 _ ?_; clear hK4 K4
    refine code_ret ?_
    refine then_r ?_; clear hK2 K2
    refine ends_ret (cs := []) rfl rfl rfl rfl trivial ?_
    first
    | (have k : 0 ≤ c ∧ c ≤ 127 := by assumption
       rw [decide_eq_true (parse_own k)])
    | rfl
  · skip
    (try simp only [Decidable.not_not] at h1)
    refine code_skip ?_
    refine hK2 _ ?_; clear hK2 K2
    refine code_seq (fun K5 hK5 => ?_)
    refine code_region ?_
    refine list_cons rfl (op_q (q_move rfl (by decide)) ?_)
    refine list_cons rfl (op_callM (DrawCellOf_c _ ?_) (.tmp 0) 0 [] [.tmp 64] _ rfl rfl (by intro y hy; cases hy) (by decide) (by decide) (by decide) rfl (by intro h; cases h) ?_)
    · first | assumption | omega | (simp; omega)
    rintro _ _ ⟨d, hd, rfl⟩
    refine list_cons rfl (op_q (q_assign rfl (by decide)) ?_)
    refine list_nil ?_
    refine hK5 _ ?_; clear hK5 K5
    refine codeT.imp (σ' := [(0, .ext _), (2, .val (.bool _)), (3, .val (.int .i64 _))]) ?_ (imp_covers ⟨rfl, rfl, rfl, trivial⟩)
    refine code_seq (fun K6 hK6 => ?_)
    refine code_region ?_
    refine list_cons rfl (op_q (q_move rfl (by decide)) ?_)
    refine list_cons rfl (op_call _ (impl_CellOf _) rfl rfl (by decide) (by decide) (by decide) rfl ?_)
    rintro _ rfl
    refine list_cons rfl (op_q (q_move rfl (by decide)) ?_)
    refine list_cons rfl (op_q (q_extract rfl rfl (by decide)) ?_)
    refine list_cons rfl (op_q (q_extract rfl rfl (by decide)) ?_)
    refine list_cons rfl (op_q (q_assign rfl (by decide)) ?_)
    refine list_cons rfl (op_q (q_assign rfl (by decide)) ?_)
    refine list_nil ?_
    refine hK6 _ ?_; clear hK6 K6
    refine codeT.imp (σ' := [(0, .ext _), (2, .val (.bool _)), (3, .val (.int .i64 _)), (4, .val (.int .i64 _)), (5, .val (.bool _))]) ?_ (imp_covers ⟨rfl, rfl, rfl, rfl, rfl, trivial⟩)
    refine code_seq (fun K7 hK7 => ?_)
    refine code_seq (fun K8 hK8 => ?_)
    refine code_region ?_
    refine list_cons rfl (op_q (q_move rfl (by decide)) ?_)
    refine list_cons rfl (op_call _ (spec_CellOf _) rfl rfl (by decide) (by decide) (by decide) rfl ?_)
    rintro _ rfl
    refine list_cons rfl (op_q (q_move rfl (by decide)) ?_)
    refine list_cons rfl (op_q (q_extract rfl rfl (by decide)) ?_)
    refine list_cons rfl (op_q (q_extract rfl rfl (by decide)) ?_)
    refine list_cons rfl (op_q (q_assign rfl (by decide)) ?_)
    refine list_cons rfl (op_q (q_assign rfl (by decide)) ?_)
    refine list_nil ?_
    refine hK8 _ ?_; clear hK8 K8
    refine codeT.imp (σ' := [(0, .ext _), (2, .val (.bool _)), (3, .val (.int .i64 _)), (4, .val (.int .i64 _)), (5, .val (.bool _)), (6, .val (.int .i64 _)), (7, .val (.bool _))]) ?_ (imp_covers ⟨rfl, rfl, rfl, rfl, rfl, rfl, rfl, trivial⟩)
    refine code_seq (fun K9 hK9 => ?_)
    refine code_region ?_
    refine list_cons rfl (op_q (q_move rfl (by decide)) ?_)
    refine list_cons rfl (op_q (q_move rfl (by decide)) ?_)
    refine list_cons rfl (op_q (q_ne rfl rfl (by decide)) ?_)
    refine list_cons rfl (op_q (q_move rfl (by decide)) ?_)
    refine list_guard_d rfl rfl rfl rfl (by decide) rfl (by decide) (fun h2 => ?_) (fun h2 => ?_)
    · simp only [Bool.false_eq_true, if_true, if_false, Decidable.not_not] at h2
      refine id (op_q (q_move rfl (by decide)) ?_)
      refine list_guard_y rfl rfl rfl rfl (by decide) rfl ?_
      refine id (op_q (q_move rfl (by decide)) ?_)
      refine list_guard_y rfl rfl rfl rfl (by decide) rfl ?_
      refine id (op_q (q_bne Tryd.underlying4 rfl rfl (by decide)) ?_)
      refine list_cons rfl (op_q (q_pick rfl rfl (by decide)) ?_)
      refine list_nil ?_
      refine hK9 _ ?_; clear hK9 K9
      refine codeT.imp (σ' := [(0, .ext _), (2, .val (.bool _)), (3, .val (.int .i64 _)), (4, .val (.int .i64 _)), (5, .val (.bool _)), (6, .val (.int .i64 _)), (7, .val (.bool _)), (83, .val (.bool _))]) ?_ (imp_covers ⟨rfl, rfl, rfl, rfl, rfl, rfl, rfl, rfl, trivial⟩)
      refine code_cond_d rfl (fun h3 => ?_) (fun h3 => ?_)
      · skip
        (try simp only [Decidable.not_not] at h3)
        exfalso
        first | exact absurd rfl h3 | exact h3 trivial | (simp at h3; done)
      · skip
        (try simp only [Decidable.not_not] at h3)
        refine code_skip ?_
        refine hK7 _ ?_; clear hK7 K7
        refine code_seq (fun K10 hK10 => ?_)
        refine code_region ?_
        refine list_cons rfl (op_q (q_move rfl (by decide)) ?_)
        refine list_cons rfl (op_callM (DrawTurnCell_c _ ?_) (.tmp 0) 0 [] [.tmp 84] _ rfl rfl (by intro y hy; cases hy) (by decide) (by decide) (by decide) rfl (by intro h; cases h) ?_)
        · first | assumption | omega | (simp; omega)
        rintro _ _ ⟨c, hc, rfl⟩
        refine list_cons rfl (op_q (q_assign rfl (by decide)) ?_)
        refine list_nil ?_
        refine hK10 _ ?_; clear hK10 K10
        refine codeT.imp (σ' := [(0, .ext _), (2, .val (.bool _)), (3, .val (.int .i64 _)), (4, .val (.int .i64 _)), (5, .val (.bool _)), (6, .val (.int .i64 _)), (7, .val (.bool _)), (8, .val (.int .i64 _))]) ?_ (imp_covers ⟨rfl, rfl, rfl, rfl, rfl, rfl, rfl, rfl, trivial⟩)
        refine code_seq (fun K11 hK11 => ?_)
        refine code_region ?_
        refine list_cons rfl (op_q (q_move rfl (by decide)) ?_)
        refine list_cons rfl (op_call _ (impl_TurnCell _) rfl rfl (by decide) (by decide) (by decide) rfl ?_)
        rintro _ rfl
        refine list_cons rfl (op_q (q_move rfl (by decide)) ?_)
        refine list_cons rfl (op_q (q_extract rfl rfl (by decide)) ?_)
        refine list_cons rfl (op_q (q_extract rfl rfl (by decide)) ?_)
        refine list_cons rfl (op_q (q_assign rfl (by decide)) ?_)
        refine list_cons rfl (op_q (q_assign rfl (by decide)) ?_)
        refine list_nil ?_
        refine hK11 _ ?_; clear hK11 K11
        refine codeT.imp (σ' := [(0, .ext _), (2, .val (.bool _)), (3, .val (.int .i64 _)), (4, .val (.int .i64 _)), (5, .val (.bool _)), (6, .val (.int .i64 _)), (7, .val (.bool _)), (8, .val (.int .i64 _)), (9, .val (.int .i64 _)), (10, .val (.bool _))]) ?_ (imp_covers ⟨rfl, rfl, rfl, rfl, rfl, rfl, rfl, rfl, rfl, rfl, trivial⟩)
        refine code_seq (fun K12 hK12 => ?_)
        refine code_seq (fun K13 hK13 => ?_)
        refine code_region ?_
        refine list_cons rfl (op_q (q_move rfl (by decide)) ?_)
        refine list_cons rfl (op_call _ (spec_TurnCell _) rfl rfl (by decide) (by decide) (by decide) rfl ?_)
        rintro _ rfl
        refine list_cons rfl (op_q (q_move rfl (by decide)) ?_)
        refine list_cons rfl (op_q (q_extract rfl rfl (by decide)) ?_)
        refine list_cons rfl (op_q (q_extract rfl rfl (by decide)) ?_)
        refine list_cons rfl (op_q (q_assign rfl (by decide)) ?_)
        refine list_cons rfl (op_q (q_assign rfl (by decide)) ?_)
        refine list_nil ?_
        refine hK13 _ ?_; clear hK13 K13
        refine codeT.imp (σ' := [(0, .ext _), (2, .val (.bool _)), (3, .val (.int .i64 _)), (4, .val (.int .i64 _)), (5, .val (.bool _)), (6, .val (.int .i64 _)), (7, .val (.bool _)), (8, .val (.int .i64 _)), (9, .val (.int .i64 _)), (10, .val (.bool _)), (11, .val (.int .i64 _)), (12, .val (.bool _))]) ?_ (imp_covers ⟨rfl, rfl, rfl, rfl, rfl, rfl, rfl, rfl, rfl, rfl, rfl, rfl, trivial⟩)
        refine code_seq (fun K14 hK14 => ?_)
        refine code_region ?_
        refine list_cons rfl (op_q (q_move rfl (by decide)) ?_)
        refine list_cons rfl (op_q (q_move rfl (by decide)) ?_)
        refine list_cons rfl (op_q (q_ne rfl rfl (by decide)) ?_)
        refine list_cons rfl (op_q (q_move rfl (by decide)) ?_)
        refine list_guard_d rfl rfl rfl rfl (by decide) rfl (by decide) (fun h4 => ?_) (fun h4 => ?_)
        · simp only [Bool.false_eq_true, if_true, if_false, Decidable.not_not] at h4
          refine id (op_q (q_move rfl (by decide)) ?_)
          refine list_guard_y rfl rfl rfl rfl (by decide) rfl ?_
          refine id (op_q (q_move rfl (by decide)) ?_)
          refine list_guard_y rfl rfl rfl rfl (by decide) rfl ?_
          refine id (op_q (q_bne Tryd.underlying4 rfl rfl (by decide)) ?_)
          refine list_cons rfl (op_q (q_pick rfl rfl (by decide)) ?_)
          refine list_cons rfl (op_q (q_move rfl (by decide)) ?_)
          refine list_guard_d rfl rfl rfl rfl (by decide) rfl (by decide) (fun h5 => ?_) (fun h5 => ?_)
          · simp only [Bool.false_eq_true, if_true, if_false, Decidable.not_not] at h5
            refine id (op_q (q_move rfl (by decide)) ?_)
            refine list_guard_y rfl rfl rfl rfl (by decide) rfl ?_
            refine id (op_q (q_move rfl (by decide)) ?_)
            refine list_guard_y rfl rfl rfl rfl (by decide) rfl ?_
            refine id (op_call _ (impl_IsCell _) rfl rfl (by decide) (by decide) (by decide) rfl ?_)
            rintro _ rfl
            refine list_guard_y rfl rfl rfl rfl (by decide) rfl ?_
            refine id (op_q (q_bne Tryd.underlying4 rfl rfl (by decide)) ?_)
            refine list_cons rfl (op_q (q_pick rfl rfl (by decide)) ?_)
            refine list_nil ?_
            refine hK14 _ ?_; clear hK14 K14
            refine codeT.imp (σ' := [(0, .ext _), (2, .val (.bool _)), (3, .val (.int .i64 _)), (4, .val (.int .i64 _)), (5, .val (.bool _)), (6, .val (.int .i64 _)), (7, .val (.bool _)), (8, .val (.int .i64 _)), (9, .val (.int .i64 _)), (10, .val (.bool _)), (11, .val (.int .i64 _)), (12, .val (.bool _)), (109, .val (.bool _))]) ?_ (imp_covers ⟨rfl, rfl, rfl, rfl, rfl, rfl, rfl, rfl, rfl, rfl, rfl, rfl, rfl, trivial⟩)
            refine code_cond_d rfl (fun h6 => ?_) (fun h6 => ?_)
            · skip
              (try simp only [Decidable.not_not] at h6)
              exfalso
              first | exact absurd rfl h6 | exact h6 trivial | (simp at h6; done)
            · skip
              (try simp only [Decidable.not_not] at h6)
              refine code_skip ?_
              refine hK12 _ ?_; clear hK12 K12
              refine code_seq (fun K15 hK15 => ?_)
              refine code_region ?_
              refine list_cons rfl (op_q (q_move rfl (by decide)) ?_)
              refine list_cons rfl (op_call _ (impl_MirrorCell _) rfl rfl (by decide) (by decide) (by decide) rfl ?_)
              rintro _ rfl
              refine list_cons rfl (op_q (q_move rfl (by decide)) ?_)
              refine list_cons rfl (op_q (q_extract rfl rfl (by decide)) ?_)
              refine list_cons rfl (op_q (q_extract rfl rfl (by decide)) ?_)
              refine list_cons rfl (op_q (q_assign rfl (by decide)) ?_)
              refine list_cons rfl (op_q (q_assign rfl (by decide)) ?_)
              refine list_nil ?_
              refine hK15 _ ?_; clear hK15 K15
              refine codeT.imp (σ' := [(0, .ext _), (2, .val (.bool _)), (3, .val (.int .i64 _)), (4, .val (.int .i64 _)), (5, .val (.bool _)), (6, .val (.int .i64 _)), (7, .val (.bool _)), (8, .val (.int .i64 _)), (9, .val (.int .i64 _)), (10, .val (.bool _)), (11, .val (.int .i64 _)), (12, .val (.bool _)), (13, .val (.int .i64 _)), (14, .val (.bool _))]) ?_ (imp_covers ⟨rfl, rfl, rfl, rfl, rfl, rfl, rfl, rfl, rfl, rfl, rfl, rfl, rfl, rfl, trivial⟩)
              refine code_seq (fun K16 hK16 => ?_)
              refine code_seq (fun K17 hK17 => ?_)
              refine code_region ?_
              refine list_cons rfl (op_q (q_move rfl (by decide)) ?_)
              refine list_cons rfl (op_call _ (spec_MirrorCell _) rfl rfl (by decide) (by decide) (by decide) rfl ?_)
              rintro _ rfl
              refine list_cons rfl (op_q (q_move rfl (by decide)) ?_)
              refine list_cons rfl (op_q (q_extract rfl rfl (by decide)) ?_)
              refine list_cons rfl (op_q (q_extract rfl rfl (by decide)) ?_)
              refine list_cons rfl (op_q (q_assign rfl (by decide)) ?_)
              refine list_cons rfl (op_q (q_assign rfl (by decide)) ?_)
              refine list_nil ?_
              refine hK17 _ ?_; clear hK17 K17
              refine codeT.imp (σ' := [(0, .ext _), (2, .val (.bool _)), (3, .val (.int .i64 _)), (4, .val (.int .i64 _)), (5, .val (.bool _)), (6, .val (.int .i64 _)), (7, .val (.bool _)), (8, .val (.int .i64 _)), (9, .val (.int .i64 _)), (10, .val (.bool _)), (11, .val (.int .i64 _)), (12, .val (.bool _)), (13, .val (.int .i64 _)), (14, .val (.bool _)), (15, .val (.int .i64 _)), (16, .val (.bool _))]) ?_ (imp_covers ⟨rfl, rfl, rfl, rfl, rfl, rfl, rfl, rfl, rfl, rfl, rfl, rfl, rfl, rfl, rfl, rfl, trivial⟩)
              refine code_seq (fun K18 hK18 => ?_)
              refine code_region ?_
              refine list_cons rfl (op_q (q_move rfl (by decide)) ?_)
              refine list_cons rfl (op_q (q_move rfl (by decide)) ?_)
              refine list_cons rfl (op_q (q_ne rfl rfl (by decide)) ?_)
              refine list_cons rfl (op_q (q_move rfl (by decide)) ?_)
              refine list_guard_d rfl rfl rfl rfl (by decide) rfl (by decide) (fun h7 => ?_) (fun h7 => ?_)
              · simp only [Bool.false_eq_true, if_true, if_false, Decidable.not_not] at h7
                refine id (op_q (q_move rfl (by decide)) ?_)
                refine list_guard_y rfl rfl rfl rfl (by decide) rfl ?_
                refine id (op_q (q_move rfl (by decide)) ?_)
                refine list_guard_y rfl rfl rfl rfl (by decide) rfl ?_
                refine id (op_q (q_bne Tryd.underlying4 rfl rfl (by decide)) ?_)
                refine list_cons rfl (op_q (q_pick rfl rfl (by decide)) ?_)
                refine list_cons rfl (op_q (q_move rfl (by decide)) ?_)
                refine list_guard_d rfl rfl rfl rfl (by decide) rfl (by decide) (fun h8 => ?_) (fun h8 => ?_)
                · simp only [Bool.false_eq_true, if_true, if_false, Decidable.not_not] at h8
                  refine id (op_q (q_move rfl (by decide)) ?_)
                  refine list_guard_y rfl rfl rfl rfl (by decide) rfl ?_
                  refine id (op_q (q_move rfl (by decide)) ?_)
                  refine list_guard_y rfl rfl rfl rfl (by decide) rfl ?_
                  refine id (op_q (q_bne Tryd.underlying4 rfl rfl (by decide)) ?_)
                  refine list_cons rfl (op_q (q_pick rfl rfl (by decide)) ?_)
                  refine list_nil ?_
                  refine hK18 _ ?_; clear hK18 K18
                  refine codeT.imp (σ' := [(0, .ext _), (2, .val (.bool _)), (3, .val (.int .i64 _)), (4, .val (.int .i64 _)), (5, .val (.bool _)), (6, .val (.int .i64 _)), (7, .val (.bool _)), (8, .val (.int .i64 _)), (9, .val (.int .i64 _)), (10, .val (.bool _)), (11, .val (.int .i64 _)), (12, .val (.bool _)), (13, .val (.int .i64 _)), (14, .val (.bool _)), (15, .val (.int .i64 _)), (16, .val (.bool _)), (132, .val (.bool _))]) ?_ (imp_covers ⟨rfl, rfl, rfl, rfl, rfl, rfl, rfl, rfl, rfl, rfl, rfl, rfl, rfl, rfl, rfl, rfl, rfl, trivial⟩)
                  refine code_cond_d rfl (fun h9 => ?_) (fun h9 => ?_)
                  · skip
                    (try simp only [Decidable.not_not] at h9)
                    exfalso
                    first | exact absurd rfl h9 | exact h9 trivial | (simp at h9; done)
                  · skip
                    (try simp only [Decidable.not_not] at h9)
                    refine code_skip ?_
                    refine hK16 _ ?_; clear hK16 K16
                    refine code_seq (fun K19 hK19 => ?_)
                    refine code_region ?_
                    refine list_cons rfl (op_q (q_move rfl (by decide)) ?_)
                    refine list_cons rfl (op_call _ (impl_DigitOf _) rfl rfl (by decide) (by decide) (by decide) rfl ?_)
                    rintro _ rfl
                    refine list_cons rfl (op_q (q_move rfl (by decide)) ?_)
                    refine list_cons rfl (op_q (q_extract rfl rfl (by decide)) ?_)
                    refine list_cons rfl (op_q (q_extract rfl rfl (by decide)) ?_)
                    refine list_cons rfl (op_q (q_assign rfl (by decide)) ?_)
                    refine list_cons rfl (op_q (q_assign rfl (by decide)) ?_)
                    refine list_nil ?_
                    refine hK19 _ ?_; clear hK19 K19
                    refine codeT.imp (σ' := [(0, .ext _), (2, .val (.bool _)), (3, .val (.int .i64 _)), (4, .val (.int .i64 _)), (5, .val (.bool _)), (6, .val (.int .i64 _)), (7, .val (.bool _)), (8, .val (.int .i64 _)), (9, .val (.int .i64 _)), (10, .val (.bool _)), (11, .val (.int .i64 _)), (12, .val (.bool _)), (13, .val (.int .i64 _)), (14, .val (.bool _)), (15, .val (.int .i64 _)), (16, .val (.bool _)), (17, .val (.int .i64 _)), (18, .val (.bool _))]) ?_ (imp_covers ⟨rfl, rfl, rfl, rfl, rfl, rfl, rfl, rfl, rfl, rfl, rfl, rfl, rfl, rfl, rfl, rfl, rfl, rfl, trivial⟩)
                    refine code_seq (fun K20 hK20 => ?_)
                    refine code_seq (fun K21 hK21 => ?_)
                    refine code_region ?_
                    refine list_cons rfl (op_q (q_move rfl (by decide)) ?_)
                    refine list_cons rfl (op_call _ (spec_DigitOf _) rfl rfl (by decide) (by decide) (by decide) rfl ?_)
                    rintro _ rfl
                    refine list_cons rfl (op_q (q_move rfl (by decide)) ?_)
                    refine list_cons rfl (op_q (q_extract rfl rfl (by decide)) ?_)
                    refine list_cons rfl (op_q (q_extract rfl rfl (by decide)) ?_)
                    refine list_cons rfl (op_q (q_assign rfl (by decide)) ?_)
                    refine list_cons rfl (op_q (q_assign rfl (by decide)) ?_)
                    refine list_nil ?_
                    refine hK21 _ ?_; clear hK21 K21
                    refine codeT.imp (σ' := [(0, .ext _), (2, .val (.bool _)), (3, .val (.int .i64 _)), (4, .val (.int .i64 _)), (5, .val (.bool _)), (6, .val (.int .i64 _)), (7, .val (.bool _)), (8, .val (.int .i64 _)), (9, .val (.int .i64 _)), (10, .val (.bool _)), (11, .val (.int .i64 _)), (12, .val (.bool _)), (13, .val (.int .i64 _)), (14, .val (.bool _)), (15, .val (.int .i64 _)), (16, .val (.bool _)), (17, .val (.int .i64 _)), (18, .val (.bool _)), (19, .val (.int .i64 _)), (20, .val (.bool _))]) ?_ (imp_covers ⟨rfl, rfl, rfl, rfl, rfl, rfl, rfl, rfl, rfl, rfl, rfl, rfl, rfl, rfl, rfl, rfl, rfl, rfl, rfl, rfl, trivial⟩)
                    refine code_seq (fun K22 hK22 => ?_)
                    refine code_region ?_
                    refine list_cons rfl (op_q (q_move rfl (by decide)) ?_)
                    refine list_cons rfl (op_q (q_move rfl (by decide)) ?_)
                    refine list_cons rfl (op_q (q_ne rfl rfl (by decide)) ?_)
                    refine list_cons rfl (op_q (q_move rfl (by decide)) ?_)
                    refine list_guard_d rfl rfl rfl rfl (by decide) rfl (by decide) (fun h10 => ?_) (fun h10 => ?_)
                    · simp only [Bool.false_eq_true, if_true, if_false, Decidable.not_not] at h10
                      refine id (op_q (q_move rfl (by decide)) ?_)
                      refine list_guard_y rfl rfl rfl rfl (by decide) rfl ?_
                      refine id (op_q (q_move rfl (by decide)) ?_)
                      refine list_guard_y rfl rfl rfl rfl (by decide) rfl ?_
                      refine id (op_q (q_bne Tryd.underlying4 rfl rfl (by decide)) ?_)
                      refine list_cons rfl (op_q (q_pick rfl rfl (by decide)) ?_)
                      refine list_nil ?_
                      refine hK22 _ ?_; clear hK22 K22
                      refine codeT.imp (σ' := [(0, .ext _), (2, .val (.bool _)), (3, .val (.int .i64 _)), (4, .val (.int .i64 _)), (5, .val (.bool _)), (6, .val (.int .i64 _)), (7, .val (.bool _)), (8, .val (.int .i64 _)), (9, .val (.int .i64 _)), (10, .val (.bool _)), (11, .val (.int .i64 _)), (12, .val (.bool _)), (13, .val (.int .i64 _)), (14, .val (.bool _)), (15, .val (.int .i64 _)), (16, .val (.bool _)), (17, .val (.int .i64 _)), (18, .val (.bool _)), (19, .val (.int .i64 _)), (20, .val (.bool _)), (150, .val (.bool _))]) ?_ (imp_covers ⟨rfl, rfl, rfl, rfl, rfl, rfl, rfl, rfl, rfl, rfl, rfl, rfl, rfl, rfl, rfl, rfl, rfl, rfl, rfl, rfl, rfl, trivial⟩)
                      refine code_cond_d rfl (fun h11 => ?_) (fun h11 => ?_)
                      · skip
                        (try simp only [Decidable.not_not] at h11)
                        exfalso
                        first | exact absurd rfl h11 | exact h11 trivial | (simp at h11; done)
                      · skip
                        (try simp only [Decidable.not_not] at h11)
                        refine code_skip ?_
                        refine hK20 _ ?_; clear hK20 K20
                        refine code_seq (fun K23 hK23 => ?_)
                        refine code_region ?_
                        refine list_cons rfl (op_q (q_move rfl (by decide)) ?_)
                        refine list_cons rfl (op_call _ (impl_CountBars _) rfl rfl (by decide) (by decide) (by decide) rfl ?_)
                        rintro _ rfl
                        refine list_cons rfl (op_q (q_move rfl (by decide)) ?_)
                        refine list_cons rfl (op_q (q_extract rfl rfl (by decide)) ?_)
                        refine list_cons rfl (op_q (q_extract rfl rfl (by decide)) ?_)
                        refine list_cons rfl (op_q (q_assign rfl (by decide)) ?_)
                        refine list_cons rfl (op_q (q_assign rfl (by decide)) ?_)
                        refine list_nil ?_
                        refine hK23 _ ?_; clear hK23 K23
                        refine codeT.imp (σ' := [(0, .ext _), (2, .val (.bool _)), (3, .val (.int .i64 _)), (4, .val (.int .i64 _)), (5, .val (.bool _)), (6, .val (.int .i64 _)), (7, .val (.bool _)), (8, .val (.int .i64 _)), (9, .val (.int .i64 _)), (10, .val (.bool _)), (11, .val (.int .i64 _)), (12, .val (.bool _)), (13, .val (.int .i64 _)), (14, .val (.bool _)), (15, .val (.int .i64 _)), (16, .val (.bool _)), (17, .val (.int .i64 _)), (18, .val (.bool _)), (19, .val (.int .i64 _)), (20, .val (.bool _)), (21, .val (.int .i64 _)), (22, .val (.bool _))]) ?_ (imp_covers ⟨rfl, rfl, rfl, rfl, rfl, rfl, rfl, rfl, rfl, rfl, rfl, rfl, rfl, rfl, rfl, rfl, rfl, rfl, rfl, rfl, rfl, rfl, trivial⟩)
                        refine code_seq (fun K24 hK24 => ?_)
                        refine code_seq (fun K25 hK25 => ?_)
                        refine code_region ?_
                        refine list_cons rfl (op_q (q_move rfl (by decide)) ?_)
                        refine list_cons rfl (op_call _ (spec_CountBars _) rfl rfl (by decide) (by decide) (by decide) rfl ?_)
                        rintro _ rfl
                        refine list_cons rfl (op_q (q_move rfl (by decide)) ?_)
                        refine list_cons rfl (op_q (q_extract rfl rfl (by decide)) ?_)
                        refine list_cons rfl (op_q (q_extract rfl rfl (by decide)) ?_)
                        refine list_cons rfl (op_q (q_assign rfl (by decide)) ?_)
                        refine list_cons rfl (op_q (q_assign rfl (by decide)) ?_)
                        refine list_nil ?_
                        refine hK25 _ ?_; clear hK25 K25
                        refine codeT.imp (σ' := [(0, .ext _), (2, .val (.bool _)), (3, .val (.int .i64 _)), (4, .val (.int .i64 _)), (5, .val (.bool _)), (6, .val (.int .i64 _)), (7, .val (.bool _)), (8, .val (.int .i64 _)), (9, .val (.int .i64 _)), (10, .val (.bool _)), (11, .val (.int .i64 _)), (12, .val (.bool _)), (13, .val (.int .i64 _)), (14, .val (.bool _)), (15, .val (.int .i64 _)), (16, .val (.bool _)), (17, .val (.int .i64 _)), (18, .val (.bool _)), (19, .val (.int .i64 _)), (20, .val (.bool _)), (21, .val (.int .i64 _)), (22, .val (.bool _)), (23, .val (.int .i64 _)), (24, .val (.bool _))]) ?_ (imp_covers ⟨rfl, rfl, rfl, rfl, rfl, rfl, rfl, rfl, rfl, rfl, rfl, rfl, rfl, rfl, rfl, rfl, rfl, rfl, rfl, rfl, rfl, rfl, rfl, rfl, trivial⟩)
                        refine code_seq (fun K26 hK26 => ?_)
                        refine code_region ?_
                        refine list_cons rfl (op_q (q_move rfl (by decide)) ?_)
                        refine list_cons rfl (op_q (q_move rfl (by decide)) ?_)
                        refine list_cons rfl (op_q (q_ne rfl rfl (by decide)) ?_)
                        refine list_cons rfl (op_q (q_move rfl (by decide)) ?_)
                        refine list_guard_d rfl rfl rfl rfl (by decide) rfl (by decide) (fun h12 => ?_) (fun h12 => ?_)
                        · simp only [Bool.false_eq_true, if_true, if_false, Decidable.not_not] at h12
                          refine id (op_q (q_move rfl (by decide)) ?_)
                          refine list_guard_y rfl rfl rfl rfl (by decide) rfl ?_
                          refine id (op_q (q_move rfl (by decide)) ?_)
                          refine list_guard_y rfl rfl rfl rfl (by decide) rfl ?_
                          refine id (op_q (q_bne Tryd.underlying4 rfl rfl (by decide)) ?_)
                          refine list_cons rfl (op_q (q_pick rfl rfl (by decide)) ?_)
                          refine list_cons rfl (op_q (q_move rfl (by decide)) ?_)
                          refine list_guard_d rfl rfl rfl rfl (by decide) rfl (by decide) (fun h13 => ?_) (fun h13 => ?_)
                          · simp only [Bool.false_eq_true, if_true, if_false, Decidable.not_not] at h13
                            refine id (op_q (q_move rfl (by decide)) ?_)
                            refine list_guard_y rfl rfl rfl rfl (by decide) rfl ?_
                            refine id (op_q (q_move rfl (by decide)) ?_)
                            refine list_guard_y rfl rfl rfl rfl (by decide) rfl ?_
                            refine id (op_q (q_bne Tryd.underlying4 rfl rfl (by decide)) ?_)
                            refine list_cons rfl (op_q (q_pick rfl rfl (by decide)) ?_)
                            refine list_nil ?_
                            refine hK26 _ ?_; clear hK26 K26
                            refine codeT.imp (σ' := [(0, .ext _), (2, .val (.bool _)), (3, .val (.int .i64 _)), (4, .val (.int .i64 _)), (5, .val (.bool _)), (6, .val (.int .i64 _)), (7, .val (.bool _)), (8, .val (.int .i64 _)), (9, .val (.int .i64 _)), (10, .val (.bool _)), (11, .val (.int .i64 _)), (12, .val (.bool _)), (13, .val (.int .i64 _)), (14, .val (.bool _)), (15, .val (.int .i64 _)), (16, .val (.bool _)), (17, .val (.int .i64 _)), (18, .val (.bool _)), (19, .val (.int .i64 _)), (20, .val (.bool _)), (21, .val (.int .i64 _)), (22, .val (.bool _)), (23, .val (.int .i64 _)), (24, .val (.bool _)), (173, .val (.bool _))]) ?_ (imp_covers ⟨rfl, rfl, rfl, rfl, rfl, rfl, rfl, rfl, rfl, rfl, rfl, rfl, rfl, rfl, rfl, rfl, rfl, rfl, rfl, rfl, rfl, rfl, rfl, rfl, rfl, trivial⟩)
                            refine code_cond_d rfl (fun h14 => ?_) (fun h14 => ?_)
                            · skip
                              (try simp only [Decidable.not_not] at h14)
                              exfalso
                              first | exact absurd rfl h14 | exact h14 trivial | (simp at h14; done)
                            · skip
                              (try simp only [Decidable.not_not] at h14)
                              refine code_skip ?_
                              refine hK24 _ ?_; clear hK24 K24
                              refine code_seq (fun K27 hK27 => ?_)
                              refine code_region ?_
                              refine list_cons rfl (op_q (q_move rfl (by decide)) ?_)
                              refine list_cons rfl (op_call _ (impl_BarsOf _) rfl rfl (by decide) (by decide) (by decide) rfl ?_)
                              rintro _ rfl
                              refine list_cons rfl (op_q (q_move rfl (by decide)) ?_)
                              refine list_cons rfl (op_q (q_extract rfl rfl (by decide)) ?_)
                              refine list_cons rfl (op_q (q_extract rfl rfl (by decide)) ?_)
                              refine list_cons rfl (op_q (q_assign rfl (by decide)) ?_)
                              refine list_cons rfl (op_q (q_assign rfl (by decide)) ?_)
                              refine list_nil ?_
                              refine hK27 _ ?_; clear hK27 K27
                              refine codeT.imp (σ' := [(0, .ext _), (2, .val (.bool _)), (3, .val (.int .i64 _)), (4, .val (.int .i64 _)), (5, .val (.bool _)), (6, .val (.int .i64 _)), (7, .val (.bool _)), (8, .val (.int .i64 _)), (9, .val (.int .i64 _)), (10, .val (.bool _)), (11, .val (.int .i64 _)), (12, .val (.bool _)), (13, .val (.int .i64 _)), (14, .val (.bool _)), (15, .val (.int .i64 _)), (16, .val (.bool _)), (17, .val (.int .i64 _)), (18, .val (.bool _)), (19, .val (.int .i64 _)), (20, .val (.bool _)), (21, .val (.int .i64 _)), (22, .val (.bool _)), (23, .val (.int .i64 _)), (24, .val (.bool _)), (25, .val (.str _)), (26, .val (.bool _))]) ?_ (imp_covers ⟨rfl, rfl, rfl, rfl, rfl, rfl, rfl, rfl, rfl, rfl, rfl, rfl, rfl, rfl, rfl, rfl, rfl, rfl, rfl, rfl, rfl, rfl, rfl, rfl, rfl, rfl, trivial⟩)
                              refine code_seq (fun K28 hK28 => ?_)
                              refine code_seq (fun K29 hK29 => ?_)
                              refine code_region ?_
                              refine list_cons rfl (op_q (q_move rfl (by decide)) ?_)
                              refine list_cons rfl (op_call _ (spec_BarsOf _) rfl rfl (by decide) (by decide) (by decide) rfl ?_)
                              rintro _ rfl
                              refine list_cons rfl (op_q (q_move rfl (by decide)) ?_)
                              refine list_cons rfl (op_q (q_extract rfl rfl (by decide)) ?_)
                              refine list_cons rfl (op_q (q_extract rfl rfl (by decide)) ?_)
                              refine list_cons rfl (op_q (q_assign rfl (by decide)) ?_)
                              refine list_cons rfl (op_q (q_assign rfl (by decide)) ?_)
                              refine list_nil ?_
                              refine hK29 _ ?_; clear hK29 K29
                              refine codeT.imp (σ' := [(0, .ext _), (2, .val (.bool _)), (3, .val (.int .i64 _)), (4, .val (.int .i64 _)), (5, .val (.bool _)), (6, .val (.int .i64 _)), (7, .val (.bool _)), (8, .val (.int .i64 _)), (9, .val (.int .i64 _)), (10, .val (.bool _)), (11, .val (.int .i64 _)), (12, .val (.bool _)), (13, .val (.int .i64 _)), (14, .val (.bool _)), (15, .val (.int .i64 _)), (16, .val (.bool _)), (17, .val (.int .i64 _)), (18, .val (.bool _)), (19, .val (.int .i64 _)), (20, .val (.bool _)), (21, .val (.int .i64 _)), (22, .val (.bool _)), (23, .val (.int .i64 _)), (24, .val (.bool _)), (25, .val (.str _)), (26, .val (.bool _)), (27, .val (.str _)), (28, .val (.bool _))]) ?_ (imp_covers ⟨rfl, rfl, rfl, rfl, rfl, rfl, rfl, rfl, rfl, rfl, rfl, rfl, rfl, rfl, rfl, rfl, rfl, rfl, rfl, rfl, rfl, rfl, rfl, rfl, rfl, rfl, rfl, rfl, trivial⟩)
                              refine code_seq (fun K30 hK30 => ?_)
                              refine code_region ?_
                              refine list_cons rfl (op_q (q_move rfl (by decide)) ?_)
                              refine list_cons rfl (op_q (q_move rfl (by decide)) ?_)
                              refine list_cons rfl (op_q (q_sne rfl rfl (by decide)) ?_)
                              refine list_cons rfl (op_q (q_move rfl (by decide)) ?_)
                              refine list_guard_d rfl rfl rfl rfl (by decide) rfl (by decide) (fun h15 => ?_) (fun h15 => ?_)
                              · simp only [Bool.false_eq_true, if_true, if_false, Decidable.not_not] at h15
                                refine id (op_q (q_move rfl (by decide)) ?_)
                                refine list_guard_y rfl rfl rfl rfl (by decide) rfl ?_
                                refine id (op_q (q_move rfl (by decide)) ?_)
                                refine list_guard_y rfl rfl rfl rfl (by decide) rfl ?_
                                refine id (op_q (q_bne Tryd.underlying4 rfl rfl (by decide)) ?_)
                                refine list_cons rfl (op_q (q_pick rfl rfl (by decide)) ?_)
                                refine list_cons rfl (op_q (q_move rfl (by decide)) ?_)
                                refine list_guard_d rfl rfl rfl rfl (by decide) rfl (by decide) (fun h16 => ?_) (fun h16 => ?_)
                                · simp only [Bool.false_eq_true, if_true, if_false, Decidable.not_not] at h16
                                  refine id (op_q (q_move rfl (by decide)) ?_)
                                  refine list_guard_y rfl rfl rfl rfl (by decide) rfl ?_
                                  refine id (op_q (q_move rfl (by decide)) ?_)
                                  refine list_guard_y rfl rfl rfl rfl (by decide) rfl ?_
                                  refine id (op_q (q_bne Tryd.underlying4 rfl rfl (by decide)) ?_)
                                  refine list_cons rfl (op_q (q_pick rfl rfl (by decide)) ?_)
                                  refine list_cons rfl (op_q (q_move rfl (by decide)) ?_)
                                  refine list_guard_d rfl rfl rfl rfl (by decide) rfl (by decide) (fun h17 => ?_) (fun h17 => ?_)
                                  · simp only [Bool.false_eq_true, if_true, if_false, Decidable.not_not] at h17
                                    refine id (op_q (q_move rfl (by decide)) ?_)
                                    refine list_guard_y rfl rfl rfl rfl (by decide) rfl ?_
                                    refine id (op_q (q_move rfl (by decide)) ?_)
                                    refine list_guard_d rfl rfl rfl rfl (by decide) rfl (by decide) (fun h18 => ?_) (fun h18 => ?_)
                                    · simp only [Bool.false_eq_true, if_true, if_false, Decidable.not_not] at h18
                                      refine id (op_q (q_move rfl (by decide)) ?_)
                                      refine list_guard_y rfl rfl rfl rfl (by decide) rfl ?_
                                      refine id (op_q (q_len_str Tryd.underlying9 rfl (by decide)) ?_)
                                      refine list_guard_y rfl rfl rfl rfl (by decide) rfl ?_
                                      refine id (op_q (q_move rfl (by decide)) ?_)
                                      refine list_guard_y rfl rfl rfl rfl (by decide) rfl ?_
                                      refine id (op_q (q_ne rfl rfl (by decide)) ?_)
                                      refine list_guard_y rfl rfl rfl rfl (by decide) rfl ?_
                                      refine id (op_q (q_pick rfl rfl (by decide)) ?_)
                                      refine list_cons rfl (op_q (q_pick rfl rfl (by decide)) ?_)
                                      refine list_nil ?_
                                      refine hK30 _ ?_; clear hK30 K30
                                      refine codeT.imp (σ' := [(0, .ext _), (2, .val (.bool _)), (3, .val (.int .i64 _)), (4, .val (.int .i64 _)), (5, .val (.bool _)), (6, .val (.int .i64 _)), (7, .val (.bool _)), (8, .val (.int .i64 _)), (9, .val (.int .i64 _)), (10, .val (.bool _)), (11, .val (.int .i64 _)), (12, .val (.bool _)), (13, .val (.int .i64 _)), (14, .val (.bool _)), (15, .val (.int .i64 _)), (16, .val (.bool _)), (17, .val (.int .i64 _)), (18, .val (.bool _)), (19, .val (.int .i64 _)), (20, .val (.bool _)), (21, .val (.int .i64 _)), (22, .val (.bool _)), (23, .val (.int .i64 _)), (24, .val (.bool _)), (25, .val (.str _)), (26, .val (.bool _)), (27, .val (.str _)), (28, .val (.bool _)), (205, .val (.bool _))]) ?_ (imp_covers ⟨rfl, rfl, rfl, rfl, rfl, rfl, rfl, rfl, rfl, rfl, rfl, rfl, rfl, rfl, rfl, rfl, rfl, rfl, rfl, rfl, rfl, rfl, rfl, rfl, rfl, rfl, rfl, rfl, rfl, trivial⟩)
                                      refine code_cond_d rfl (fun h19 => ?_) (fun h19 => ?_)
                                      · skip
                                        (try simp only [Decidable.not_not] at h19)
                                        exfalso
                                        first | exact h19 (bars_cnt (by assumption)) | exact absurd rfl h19 | exact h19 trivial | (simp at h19; done)
                                      · skip
                                        (try simp only [Decidable.not_not] at h19)
                                        refine code_skip ?_
                                        refine hK28 _ ?_; clear hK28 K28
                                        refine code_seq (fun K31 hK31 => ?_)
                                        refine code_region ?_
                                        refine list_cons rfl (op_q (q_move rfl (by decide)) ?_)
                                        refine list_cons rfl (op_callM (DrawParseBars_c _ ?_) (.tmp 0) 0 [] [.tmp 206] _ rfl rfl (by intro y hy; cases hy) (by decide) (by decide) (by decide) rfl (by intro h; cases h) ?_)
                                        · first | assumption | omega | (simp; omega)
                                        rintro _ _ ⟨s, hs, rfl⟩
                                        refine list_cons rfl (op_q (q_assign rfl (by decide)) ?_)
                                        refine list_nil ?_
                                        refine hK31 _ ?_; clear hK31 K31
                                        refine codeT.imp (σ' := [(0, .ext _), (2, .val (.bool _)), (3, .val (.int .i64 _)), (4, .val (.int .i64 _)), (5, .val (.bool _)), (6, .val (.int .i64 _)), (7, .val (.bool _)), (8, .val (.int .i64 _)), (9, .val (.int .i64 _)), (10, .val (.bool _)), (11, .val (.int .i64 _)), (12, .val (.bool _)), (13, .val (.int .i64 _)), (14, .val (.bool _)), (15, .val (.int .i64 _)), (16, .val (.bool _)), (17, .val (.int .i64 _)), (18, .val (.bool _)), (19, .val (.int .i64 _)), (20, .val (.bool _)), (21, .val (.int .i64 _)), (22, .val (.bool _)), (23, .val (.int .i64 _)), (24, .val (.bool _)), (25, .val (.str _)), (26, .val (.bool _)), (27, .val (.str _)), (28, .val (.bool _)), (29, .val (.str _))]) ?_ (imp_covers ⟨rfl, rfl, rfl, rfl, rfl, rfl, rfl, rfl, rfl, rfl, rfl, rfl, rfl, rfl, rfl, rfl, rfl, rfl, rfl, rfl, rfl, rfl, rfl, rfl, rfl, rfl, rfl, rfl, rfl, trivial⟩)
                                        refine code_seq (fun K32 hK32 => ?_)
                                        refine code_region ?_
                                        refine list_cons rfl (op_q (q_move rfl (by decide)) ?_)
                                        refine list_cons rfl (op_call _ (impl_ParseBars _ (by first | omega | exact barsI_len _)) rfl rfl (by decide) (by decide) (by decide) rfl ?_)
                                        rintro _ rfl
                                        refine list_cons rfl (op_q (q_move rfl (by decide)) ?_)
                                        refine list_cons rfl (op_q (q_extract rfl rfl (by decide)) ?_)
                                        refine list_cons rfl (op_q (q_extract rfl rfl (by decide)) ?_)
                                        refine list_cons rfl (op_q (q_assign rfl (by decide)) ?_)
                                        refine list_cons rfl (op_q (q_assign rfl (by decide)) ?_)
                                        refine list_nil ?_
                                        refine hK32 _ ?_; clear hK32 K32
                                        refine codeT.imp (σ' := ((0, .ext _) :: (2, .val (.bool _)) :: (3, .val (.int .i64 _)) :: (4, .val (.int .i64 _)) :: (5, .val (.bool _)) :: (6, .val (.int .i64 _)) :: (7, .val (.bool _)) :: (8, .val (.int .i64 _)) :: (9, .val (.int .i64 _)) :: (10, .val (.bool _)) :: (11, .val (.int .i64 _)) :: (12, .val (.bool _)) :: (13, .val (.int .i64 _)) :: (14, .val (.bool _)) :: (15, .val (.int .i64 _)) :: (16, .val (.bool _)) :: (17, .val (.int .i64 _)) :: (18, .val (.bool _)) :: (19, .val (.int .i64 _)) :: (20, .val (.bool _)) :: (21, .val (.int .i64 _)) :: (22, .val (.bool _)) :: (23, .val (.int .i64 _)) :: (24, .val (.bool _)) :: (25, .val (.str _)) :: (26, .val (.bool _)) :: (27, .val (.str _)) :: (28, .val (.bool _)) :: (29, .val (.str _)) :: (30, .val (.int .i64 _)) :: (31, .val (.bool _)) :: [])) ?_ (imp_covers ⟨rfl, rfl, rfl, rfl, rfl, rfl, rfl, rfl, rfl, rfl, rfl, rfl, rfl, rfl, rfl, rfl, rfl, rfl, rfl, rfl, rfl, rfl, rfl, rfl, rfl, rfl, rfl, rfl, rfl, rfl, rfl, trivial⟩)
                                        refine code_seq (fun K33 hK33 => ?_)
                                        refine code_seq (fun K34 hK34 => ?_)
                                        refine code_region ?_
                                        refine list_cons rfl (op_q (q_move rfl (by decide)) ?_)
                                        refine list_cons rfl (op_call _ (spec_ParseBars _ (by first | omega | (simp; omega))) rfl rfl (by decide) (by decide) (by decide) rfl ?_)
                                        rintro _ rfl
                                        refine list_cons rfl (op_q (q_move rfl (by decide)) ?_)
                                        refine list_cons rfl (op_q (q_extract rfl rfl (by decide)) ?_)
                                        refine list_cons rfl (op_q (q_extract rfl rfl (by decide)) ?_)
                                        refine list_cons rfl (op_q (q_assign rfl (by decide)) ?_)
                                        refine list_cons rfl (op_q (q_assign rfl (by decide)) ?_)
                                        refine list_nil ?_
                                        refine hK34 _ ?_; clear hK34 K34
                                        refine codeT.imp (σ' := ((0, .ext _) :: (2, .val (.bool _)) :: (3, .val (.int .i64 _)) :: (4, .val (.int .i64 _)) :: (5, .val (.bool _)) :: (6, .val (.int .i64 _)) :: (7, .val (.bool _)) :: (8, .val (.int .i64 _)) :: (9, .val (.int .i64 _)) :: (10, .val (.bool _)) :: (11, .val (.int .i64 _)) :: (12, .val (.bool _)) :: (13, .val (.int .i64 _)) :: (14, .val (.bool _)) :: (15, .val (.int .i64 _)) :: (16, .val (.bool _)) :: (17, .val (.int .i64 _)) :: (18, .val (.bool _)) :: (19, .val (.int .i64 _)) :: (20, .val (.bool _)) :: (21, .val (.int .i64 _)) :: (22, .val (.bool _)) :: (23, .val (.int .i64 _)) :: (24, .val (.bool _)) :: (25, .val (.str _)) :: (26, .val (.bool _)) :: (27, .val (.str _)) :: (28, .val (.bool _)) :: (29, .val (.str _)) :: (30, .val (.int .i64 _)) :: (31, .val (.bool _)) :: (32, .val (.int .i64 _)) :: (33, .val (.bool _)) :: [])) ?_ (imp_covers ⟨rfl, rfl, rfl, rfl, rfl, rfl, rfl, rfl, rfl, rfl, rfl, rfl, rfl, rfl, rfl, rfl, rfl, rfl, rfl, rfl, rfl, rfl, rfl, rfl, rfl, rfl, rfl, rfl, rfl, rfl, rfl, rfl, rfl, trivial⟩)
                                        refine code_seq (fun K35 hK35 => ?_)
                                        refine code_region ?_
                                        refine list_cons rfl (op_q (q_move rfl (by decide)) ?_)
                                        refine list_cons rfl (op_q (q_move rfl (by decide)) ?_)
                                        refine list_cons rfl (op_q (q_ne rfl rfl (by decide)) ?_)
                                        refine list_cons rfl (op_q (q_move rfl (by decide)) ?_)
                                        refine list_guard_d rfl rfl rfl rfl (by decide) rfl (by decide) (fun h20 => ?_) (fun h20 => ?_)
                                        · simp only [Bool.false_eq_true, if_true, if_false, Decidable.not_not] at h20
                                          refine id (op_q (q_move rfl (by decide)) ?_)
                                          refine list_guard_y rfl rfl rfl rfl (by decide) rfl ?_
                                          refine id (op_q (q_move rfl (by decide)) ?_)
                                          refine list_guard_y rfl rfl rfl rfl (by decide) rfl ?_
                                          refine id (op_q (q_bne Tryd.underlying4 rfl rfl (by decide)) ?_)
                                          refine list_cons rfl (op_q (q_pick rfl rfl (by decide)) ?_)
                                          refine list_nil ?_
                                          refine hK35 _ ?_; clear hK35 K35
                                          refine codeT.imp (σ' := ((0, .ext _) :: (2, .val (.bool _)) :: (3, .val (.int .i64 _)) :: (4, .val (.int .i64 _)) :: (5, .val (.bool _)) :: (6, .val (.int .i64 _)) :: (7, .val (.bool _)) :: (8, .val (.int .i64 _)) :: (9, .val (.int .i64 _)) :: (10, .val (.bool _)) :: (11, .val (.int .i64 _)) :: (12, .val (.bool _)) :: (13, .val (.int .i64 _)) :: (14, .val (.bool _)) :: (15, .val (.int .i64 _)) :: (16, .val (.bool _)) :: (17, .val (.int .i64 _)) :: (18, .val (.bool _)) :: (19, .val (.int .i64 _)) :: (20, .val (.bool _)) :: (21, .val (.int .i64 _)) :: (22, .val (.bool _)) :: (23, .val (.int .i64 _)) :: (24, .val (.bool _)) :: (25, .val (.str _)) :: (26, .val (.bool _)) :: (27, .val (.str _)) :: (28, .val (.bool _)) :: (29, .val (.str _)) :: (30, .val (.int .i64 _)) :: (31, .val (.bool _)) :: (32, .val (.int .i64 _)) :: (33, .val (.bool _)) :: (225, .val (.bool _)) :: [])) ?_ (imp_covers ⟨rfl, rfl, rfl, rfl, rfl, rfl, rfl, rfl, rfl, rfl, rfl, rfl, rfl, rfl, rfl, rfl, rfl, rfl, rfl, rfl, rfl, rfl, rfl, rfl, rfl, rfl, rfl, rfl, rfl, rfl, rfl, rfl, rfl, rfl, trivial⟩)
                                          refine code_cond_d rfl (fun h21 => ?_) (fun h21 => ?_)
                                          · skip
                                            (try simp only [Decidable.not_not] at h21)
                                            exfalso
                                            first | exact absurd rfl h21 | exact h21 trivial | (simp at h21; done)
                                          · skip
                                            (try simp only [Decidable.not_not] at h21)
                                            refine code_skip ?_
                                            refine hK33 _ ?_; clear hK33 K33
                                            refine code_seq (fun K36 hK36 => ?_)
                                            refine code_region ?_
                                            refine list_cons rfl (op_q (q_move rfl (by decide)) ?_)
                                            refine list_cons rfl (op_callM (DrawFarCells_c _ ?_) (.tmp 0) 0 [] [.tmp 227] _ rfl rfl (by intro y hy; cases hy) (by decide) (by decide) (by decide) rfl (by intro h; cases h) ?_)
                                            · first | assumption | omega | (simp; omega)
                                            rintro _ _ ⟨a, b, ha, hb, rfl⟩
                                            refine list_cons rfl (op_q (q_move rfl (by decide)) ?_)
                                            refine list_cons rfl (op_q (q_extract rfl rfl (by decide)) ?_)
                                            refine list_cons rfl (op_q (q_extract rfl rfl (by decide)) ?_)
                                            refine list_cons rfl (op_q (q_assign rfl (by decide)) ?_)
                                            refine list_cons rfl (op_q (q_assign rfl (by decide)) ?_)
                                            refine list_nil ?_
                                            refine hK36 _ ?_; clear hK36 K36
                                            refine codeT.imp (σ' := ((0, .ext _) :: (2, .val (.bool _)) :: (3, .val (.int .i64 _)) :: (4, .val (.int .i64 _)) :: (5, .val (.bool _)) :: (6, .val (.int .i64 _)) :: (7, .val (.bool _)) :: (8, .val (.int .i64 _)) :: (9, .val (.int .i64 _)) :: (10, .val (.bool _)) :: (11, .val (.int .i64 _)) :: (12, .val (.bool _)) :: (13, .val (.int .i64 _)) :: (14, .val (.bool _)) :: (15, .val (.int .i64 _)) :: (16, .val (.bool _)) :: (17, .val (.int .i64 _)) :: (18, .val (.bool _)) :: (19, .val (.int .i64 _)) :: (20, .val (.bool _)) :: (21, .val (.int .i64 _)) :: (22, .val (.bool _)) :: (23, .val (.int .i64 _)) :: (24, .val (.bool _)) :: (25, .val (.str _)) :: (26, .val (.bool _)) :: (27, .val (.str _)) :: (28, .val (.bool _)) :: (29, .val (.str _)) :: (30, .val (.int .i64 _)) :: (31, .val (.bool _)) :: (32, .val (.int .i64 _)) :: (33, .val (.bool _)) :: (34, .val (.int .i64 _)) :: (35, .val (.int .i64 _)) :: [])) ?_ (imp_covers ⟨rfl, rfl, rfl, rfl, rfl, rfl, rfl, rfl, rfl, rfl, rfl, rfl, rfl, rfl, rfl, rfl, rfl, rfl, rfl, rfl, rfl, rfl, rfl, rfl, rfl, rfl, rfl, rfl, rfl, rfl, rfl, rfl, rfl, rfl, rfl, trivial⟩)
                                            refine code_seq (fun K37 hK37 => ?_)
                                            refine code_region ?_
                                            refine list_cons rfl (op_q (q_move rfl (by decide)) ?_)
                                            refine list_cons rfl (op_q (q_move rfl (by decide)) ?_)
                                            refine list_cons rfl (op_call _ (impl_FarCells _ _) rfl rfl (by decide) (by decide) (by decide) rfl ?_)
                                            rintro _ rfl
                                            refine list_cons rfl (op_q (q_move rfl (by decide)) ?_)
                                            refine list_cons rfl (op_q (q_extract rfl rfl (by decide)) ?_)
                                            refine list_cons rfl (op_q (q_extract rfl rfl (by decide)) ?_)
                                            refine list_cons rfl (op_q (q_assign rfl (by decide)) ?_)
                                            refine list_cons rfl (op_q (q_assign rfl (by decide)) ?_)
                                            refine list_nil ?_
                                            refine hK37 _ ?_; clear hK37 K37
                                            refine codeT.imp (σ' := ((0, .ext _) :: (2, .val (.bool _)) :: (3, .val (.int .i64 _)) :: (4, .val (.int .i64 _)) :: (5, .val (.bool _)) :: (6, .val (.int .i64 _)) :: (7, .val (.bool _)) :: (8, .val (.int .i64 _)) :: (9, .val (.int .i64 _)) :: (10, .val (.bool _)) :: (11, .val (.int .i64 _)) :: (12, .val (.bool _)) :: (13, .val (.int .i64 _)) :: (14, .val (.bool _)) :: (15, .val (.int .i64 _)) :: (16, .val (.bool _)) :: (17, .val (.int .i64 _)) :: (18, .val (.bool _)) :: (19, .val (.int .i64 _)) :: (20, .val (.bool _)) :: (21, .val (.int .i64 _)) :: (22, .val (.bool _)) :: (23, .val (.int .i64 _)) :: (24, .val (.bool _)) :: (25, .val (.str _)) :: (26, .val (.bool _)) :: (27, .val (.str _)) :: (28, .val (.bool _)) :: (29, .val (.str _)) :: (30, .val (.int .i64 _)) :: (31, .val (.bool _)) :: (32, .val (.int .i64 _)) :: (33, .val (.bool _)) :: (34, .val (.int .i64 _)) :: (35, .val (.int .i64 _)) :: (36, .val (.int .i64 _)) :: (37, .val (.bool _)) :: [])) ?_ (imp_covers ⟨rfl, rfl, rfl, rfl, rfl, rfl, rfl, rfl, rfl, rfl, rfl, rfl, rfl, rfl, rfl, rfl, rfl, rfl, rfl, rfl, rfl, rfl, rfl, rfl, rfl, rfl, rfl, rfl, rfl, rfl, rfl, rfl, rfl, rfl, rfl, rfl, rfl, trivial⟩)
                                            refine code_seq (fun K38 hK38 => ?_)
                                            refine code_seq (fun K39 hK39 => ?_)
                                            refine code_region ?_
                                            refine list_cons rfl (op_q (q_move rfl (by decide)) ?_)
                                            refine list_cons rfl (op_q (q_move rfl (by decide)) ?_)
                                            refine list_cons rfl (op_call _ (spec_FarCells _ _) rfl rfl (by decide) (by decide) (by decide) rfl ?_)
                                            rintro _ rfl
                                            refine list_cons rfl (op_q (q_move rfl (by decide)) ?_)
                                            refine list_cons rfl (op_q (q_extract rfl rfl (by decide)) ?_)
                                            refine list_cons rfl (op_q (q_extract rfl rfl (by decide)) ?_)
                                            refine list_cons rfl (op_q (q_assign rfl (by decide)) ?_)
                                            refine list_cons rfl (op_q (q_assign rfl (by decide)) ?_)
                                            refine list_nil ?_
                                            refine hK39 _ ?_; clear hK39 K39
                                            refine codeT.imp (σ' := ((0, .ext _) :: (2, .val (.bool _)) :: (3, .val (.int .i64 _)) :: (4, .val (.int .i64 _)) :: (5, .val (.bool _)) :: (6, .val (.int .i64 _)) :: (7, .val (.bool _)) :: (8, .val (.int .i64 _)) :: (9, .val (.int .i64 _)) :: (10, .val (.bool _)) :: (11, .val (.int .i64 _)) :: (12, .val (.bool _)) :: (13, .val (.int .i64 _)) :: (14, .val (.bool _)) :: (15, .val (.int .i64 _)) :: (16, .val (.bool _)) :: (17, .val (.int .i64 _)) :: (18, .val (.bool _)) :: (19, .val (.int .i64 _)) :: (20, .val (.bool _)) :: (21, .val (.int .i64 _)) :: (22, .val (.bool _)) :: (23, .val (.int .i64 _)) :: (24, .val (.bool _)) :: (25, .val (.str _)) :: (26, .val (.bool _)) :: (27, .val (.str _)) :: (28, .val (.bool _)) :: (29, .val (.str _)) :: (30, .val (.int .i64 _)) :: (31, .val (.bool _)) :: (32, .val (.int .i64 _)) :: (33, .val (.bool _)) :: (34, .val (.int .i64 _)) :: (35, .val (.int .i64 _)) :: (36, .val (.int .i64 _)) :: (37, .val (.bool _)) :: (38, .val (.int .i64 _)) :: (39, .val (.bool _)) :: [])) ?_ (imp_covers ⟨rfl, rfl, rfl, rfl, rfl, rfl, rfl, rfl, rfl, rfl, rfl, rfl, rfl, rfl, rfl, rfl, rfl, rfl, rfl, rfl, rfl, rfl, rfl, rfl, rfl, rfl, rfl, rfl, rfl, rfl, rfl, rfl, rfl, rfl, rfl, rfl, rfl, rfl, rfl, trivial⟩)
                                            refine code_seq (fun K40 hK40 => ?_)
                                            refine code_region ?_
                                            refine list_cons rfl (op_q (q_move rfl (by decide)) ?_)
                                            refine list_cons rfl (op_q (q_move rfl (by decide)) ?_)
                                            refine list_cons rfl (op_q (q_ne rfl rfl (by decide)) ?_)
                                            refine list_cons rfl (op_q (q_move rfl (by decide)) ?_)
                                            refine list_guard_d rfl rfl rfl rfl (by decide) rfl (by decide) (fun h22 => ?_) (fun h22 => ?_)
                                            · simp only [Bool.false_eq_true, if_true, if_false, Decidable.not_not] at h22
                                              refine id (op_q (q_move rfl (by decide)) ?_)
                                              refine list_guard_y rfl rfl rfl rfl (by decide) rfl ?_
                                              refine id (op_q (q_move rfl (by decide)) ?_)
                                              refine list_guard_y rfl rfl rfl rfl (by decide) rfl ?_
                                              refine id (op_q (q_bne Tryd.underlying4 rfl rfl (by decide)) ?_)
                                              refine list_cons rfl (op_q (q_pick rfl rfl (by decide)) ?_)
                                              refine list_nil ?_
                                              refine hK40 _ ?_; clear hK40 K40
                                              refine codeT.imp (σ' := ((0, .ext _) :: (2, .val (.bool _)) :: (3, .val (.int .i64 _)) :: (4, .val (.int .i64 _)) :: (5, .val (.bool _)) :: (6, .val (.int .i64 _)) :: (7, .val (.bool _)) :: (8, .val (.int .i64 _)) :: (9, .val (.int .i64 _)) :: (10, .val (.bool _)) :: (11, .val (.int .i64 _)) :: (12, .val (.bool _)) :: (13, .val (.int .i64 _)) :: (14, .val (.bool _)) :: (15, .val (.int .i64 _)) :: (16, .val (.bool _)) :: (17, .val (.int .i64 _)) :: (18, .val (.bool _)) :: (19, .val (.int .i64 _)) :: (20, .val (.bool _)) :: (21, .val (.int .i64 _)) :: (22, .val (.bool _)) :: (23, .val (.int .i64 _)) :: (24, .val (.bool _)) :: (25, .val (.str _)) :: (26, .val (.bool _)) :: (27, .val (.str _)) :: (28, .val (.bool _)) :: (29, .val (.str _)) :: (30, .val (.int .i64 _)) :: (31, .val (.bool _)) :: (32, .val (.int .i64 _)) :: (33, .val (.bool _)) :: (34, .val (.int .i64 _)) :: (35, .val (.int .i64 _)) :: (36, .val (.int .i64 _)) :: (37, .val (.bool _)) :: (38, .val (.int .i64 _)) :: (39, .val (.bool _)) :: (250, .val (.bool _)) :: [])) ?_ (imp_covers ⟨rfl, rfl, rfl, rfl, rfl, rfl, rfl, rfl, rfl, rfl, rfl, rfl, rfl, rfl, rfl, rfl, rfl, rfl, rfl, rfl, rfl, rfl, rfl, rfl, rfl, rfl, rfl, rfl, rfl, rfl, rfl, rfl, rfl, rfl, rfl, rfl, rfl, rfl, rfl, rfl, trivial⟩)
                                              refine code_cond_d rfl (fun h23 => ?_) (fun h23 => ?_)
                                              · skip
                                                (try simp only [Decidable.not_not] at h23)
                                                exfalso
                                                first | exact absurd rfl h23 | exact h23 trivial | (simp at h23; done)
                                              · skip
                                                (try simp only [Decidable.not_not] at h23)
                                                refine code_skip ?_
                                                refine hK38 _ ?_; clear hK38 K38
                                                refine codeT.imp (σ' := [(2, .val (.bool _)), (3, .val (.int .i64 _)), (4, .val (.int .i64 _)), (5, .val (.bool _)), (8, .val (.int .i64 _)), (9, .val (.int .i64 _)), (10, .val (.bool _)), (13, .val (.int .i64 _)), (25, .val (.str _)), (29, .val (.str _)), (30, .val (.int .i64 _)), (31, .val (.bool _)), (34, .val (.int .i64 _)), (35, .val (.int .i64 _)), (36, .val (.int .i64 _)), (37, .val (.bool _))]) ?_ (imp_covers ⟨rfl, rfl, rfl, rfl, rfl, rfl, rfl, rfl, rfl, rfl, rfl, rfl, rfl, rfl, rfl, rfl, trivial⟩)
                                                refine code_seq_same ?_ ?_
                                                · skip
                                                  refine code_seq (fun K41 hK41 => ?_)
                                                  refine code_region ?_
                                                  refine list_cons rfl (op_q (q_move rfl (by decide)) ?_)
                                                  refine list_nil ?_
                                                  refine hK41 _ ?_; clear hK41 K41
                                                  refine code_cond_d rfl (fun h24 => ?_) (fun h24 => ?_)
                                                  · skip
                                                    (try simp only [Decidable.not_not] at h24)
                                                    refine code_seq (fun K42 hK42 => ?_)
                                                    refine code_region ?_
                                                    refine list_cons rfl (op_q (q_move rfl (by decide)) ?_)
                                                    refine list_cons rfl (op_call _ (impl_TurnCell _) rfl rfl (by decide) (by decide) (by decide) rfl ?_)
                                                    rintro _ rfl
                                                    refine list_cons rfl (op_q (q_move rfl (by decide)) ?_)
                                                    refine list_cons rfl (op_q (q_extract rfl rfl (by decide)) ?_)
                                                    refine list_cons rfl (op_q (q_extract rfl rfl (by decide)) ?_)
                                                    refine list_cons rfl (op_q (q_assign rfl (by decide)) ?_)
                                                    refine list_cons rfl (op_q (q_assign rfl (by decide)) ?_)
                                                    refine list_nil ?_
                                                    refine hK42 _ ?_; clear hK42 K42
                                                    refine codeT.imp (σ' := [(2, .val (.bool _)), (3, .val (.int .i64 _)), (4, .val (.int .i64 _)), (5, .val (.bool _)), (8, .val (.int .i64 _)), (9, .val (.int .i64 _)), (10, .val (.bool _)), (13, .val (.int .i64 _)), (25, .val (.str _)), (29, .val (.str _)), (30, .val (.int .i64 _)), (31, .val (.bool _)), (34, .val (.int .i64 _)), (35, .val (.int .i64 _)), (36, .val (.int .i64 _)), (37, .val (.bool _)), (40, .val (.int .i64 _)), (41, .val (.bool _))]) ?_ (imp_covers ⟨rfl, rfl, rfl, rfl, rfl, rfl, rfl, rfl, rfl, rfl, rfl, rfl, rfl, rfl, rfl, rfl, rfl, rfl, trivial⟩)
                                                    refine code_seq (fun K43 hK43 => ?_)
                                                    refine code_region ?_
                                                    refine list_cons rfl (op_q (q_move rfl (by decide)) ?_)
                                                    refine list_cons rfl (op_call _ (impl_TurnCell _) rfl rfl (by decide) (by decide) (by decide) rfl ?_)
                                                    rintro _ rfl
                                                    refine list_cons rfl (op_q (q_move rfl (by decide)) ?_)
                                                    refine list_cons rfl (op_q (q_extract rfl rfl (by decide)) ?_)
                                                    refine list_cons rfl (op_q (q_extract rfl rfl (by decide)) ?_)
                                                    refine list_cons rfl (op_q (q_assign rfl (by decide)) ?_)
                                                    refine list_cons rfl (op_q (q_assign rfl (by decide)) ?_)
                                                    refine list_nil ?_
                                                    refine hK43 _ ?_; clear hK43 K43
                                                    refine codeT.imp (σ' := [(2, .val (.bool _)), (3, .val (.int .i64 _)), (4, .val (.int .i64 _)), (5, .val (.bool _)), (8, .val (.int .i64 _)), (9, .val (.int .i64 _)), (10, .val (.bool _)), (13, .val (.int .i64 _)), (25, .val (.str _)), (29, .val (.str _)), (30, .val (.int .i64 _)), (31, .val (.bool _)), (34, .val (.int .i64 _)), (35, .val (.int .i64 _)), (36, .val (.int .i64 _)), (37, .val (.bool _)), (40, .val (.int .i64 _)), (41, .val (.bool _)), (42, .val (.int .i64 _)), (43, .val (.bool _))]) ?_ (imp_covers ⟨rfl, rfl, rfl, rfl, rfl, rfl, rfl, rfl, rfl, rfl, rfl, rfl, rfl, rfl, rfl, rfl, rfl, rfl, rfl, rfl, trivial⟩)
                                                    refine code_seq (fun K44 hK44 => ?_)
                                                    refine code_region ?_
                                                    refine list_cons rfl (op_q (q_move rfl (by decide)) ?_)
                                                    refine list_cons rfl (op_q (q_move rfl (by decide)) ?_)
                                                    refine list_cons rfl (op_call _ (impl_FarCells _ _) rfl rfl (by decide) (by decide) (by decide) rfl ?_)
                                                    rintro _ rfl
                                                    refine list_cons rfl (op_q (q_move rfl (by decide)) ?_)
                                                    refine list_cons rfl (op_q (q_extract rfl rfl (by decide)) ?_)
                                                    refine list_cons rfl (op_q (q_extract rfl rfl (by decide)) ?_)
                                                    refine list_cons rfl (op_q (q_assign rfl (by decide)) ?_)
                                                    refine list_cons rfl (op_q (q_assign rfl (by decide)) ?_)
                                                    refine list_nil ?_
                                                    refine hK44 _ ?_; clear hK44 K44
                                                    refine codeT.imp (σ' := [(2, .val (.bool _)), (3, .val (.int .i64 _)), (4, .val (.int .i64 _)), (5, .val (.bool _)), (8, .val (.int .i64 _)), (9, .val (.int .i64 _)), (10, .val (.bool _)), (13, .val (.int .i64 _)), (25, .val (.str _)), (29, .val (.str _)), (30, .val (.int .i64 _)), (31, .val (.bool _)), (34, .val (.int .i64 _)), (35, .val (.int .i64 _)), (36, .val (.int .i64 _)), (37, .val (.bool _)), (40, .val (.int .i64 _)), (41, .val (.bool _)), (42, .val (.int .i64 _)), (43, .val (.bool _)), (44, .val (.int .i64 _)), (45, .val (.bool _))]) ?_ (imp_covers ⟨rfl, rfl, rfl, rfl, rfl, rfl, rfl, rfl, rfl, rfl, rfl, rfl, rfl, rfl, rfl, rfl, rfl, rfl, rfl, rfl, rfl, rfl, trivial⟩)
                                                    refine code_seq (fun K45 hK45 => ?_)
                                                    refine code_region ?_
                                                    refine list_cons rfl (op_q (q_move rfl (by decide)) ?_)
                                                    refine list_cons rfl (op_call _ (impl_MirrorCell _) rfl rfl (by decide) (by decide) (by decide) rfl ?_)
                                                    rintro _ rfl
                                                    refine list_cons rfl (op_q (q_move rfl (by decide)) ?_)
                                                    refine list_cons rfl (op_q (q_extract rfl rfl (by decide)) ?_)
                                                    refine list_cons rfl (op_q (q_extract rfl rfl (by decide)) ?_)
                                                    refine list_cons rfl (op_q (q_assign rfl (by decide)) ?_)
                                                    refine list_cons rfl (op_q (q_assign rfl (by decide)) ?_)
                                                    refine list_nil ?_
                                                    refine hK45 _ ?_; clear hK45 K45
                                                    refine codeT.imp (σ' := [(2, .val (.bool _)), (3, .val (.int .i64 _)), (4, .val (.int .i64 _)), (5, .val (.bool _)), (8, .val (.int .i64 _)), (9, .val (.int .i64 _)), (10, .val (.bool _)), (13, .val (.int .i64 _)), (25, .val (.str _)), (29, .val (.str _)), (30, .val (.int .i64 _)), (31, .val (.bool _)), (34, .val (.int .i64 _)), (35, .val (.int .i64 _)), (36, .val (.int .i64 _)), (37, .val (.bool _)), (40, .val (.int .i64 _)), (41, .val (.bool _)), (42, .val (.int .i64 _)), (43, .val (.bool _)), (44, .val (.int .i64 _)), (45, .val (.bool _)), (46, .val (.int .i64 _)), (47, .val (.bool _))]) ?_ (imp_covers ⟨rfl, rfl, rfl, rfl, rfl, rfl, rfl, rfl, rfl, rfl, rfl, rfl, rfl, rfl, rfl, rfl, rfl, rfl, rfl, rfl, rfl, rfl, rfl, rfl, trivial⟩)
                                                    refine code_seq (fun K46 hK46 => ?_)
                                                    refine code_region ?_
                                                    refine list_cons rfl (op_q (q_move rfl (by decide)) ?_)
                                                    refine list_cons rfl (op_call _ (impl_MirrorCell _) rfl rfl (by decide) (by decide) (by decide) rfl ?_)
                                                    rintro _ rfl
                                                    refine list_cons rfl (op_q (q_move rfl (by decide)) ?_)
                                                    refine list_cons rfl (op_q (q_extract rfl rfl (by decide)) ?_)
                                                    refine list_cons rfl (op_q (q_extract rfl rfl (by decide)) ?_)
                                                    refine list_cons rfl (op_q (q_assign rfl (by decide)) ?_)
                                                    refine list_cons rfl (op_q (q_assign rfl (by decide)) ?_)
                                                    refine list_nil ?_
                                                    refine hK46 _ ?_; clear hK46 K46
                                                    refine codeT.imp (σ' := [(2, .val (.bool _)), (3, .val (.int .i64 _)), (4, .val (.int .i64 _)), (5, .val (.bool _)), (8, .val (.int .i64 _)), (9, .val (.int .i64 _)), (10, .val (.bool _)), (13, .val (.int .i64 _)), (25, .val (.str _)), (29, .val (.str _)), (30, .val (.int .i64 _)), (31, .val (.bool _)), (34, .val (.int .i64 _)), (35, .val (.int .i64 _)), (36, .val (.int .i64 _)), (37, .val (.bool _)), (40, .val (.int .i64 _)), (41, .val (.bool _)), (42, .val (.int .i64 _)), (43, .val (.bool _)), (44, .val (.int .i64 _)), (45, .val (.bool _)), (46, .val (.int .i64 _)), (47, .val (.bool _)), (48, .val (.int .i64 _)), (49, .val (.bool _))]) ?_ (imp_covers ⟨rfl, rfl, rfl, rfl, rfl, rfl, rfl, rfl, rfl, rfl, rfl, rfl, rfl, rfl, rfl, rfl, rfl, rfl, rfl, rfl, rfl, rfl, rfl, rfl, rfl, rfl, trivial⟩)
                                                    refine code_seq (fun K47 hK47 => ?_)
                                                    refine code_region ?_
                                                    refine list_cons rfl (op_q (q_move rfl (by decide)) ?_)
                                                    refine list_cons rfl (op_q (q_move rfl (by decide)) ?_)
                                                    refine list_cons rfl (op_call _ (impl_FarCells _ _) rfl rfl (by decide) (by decide) (by decide) rfl ?_)
                                                    rintro _ rfl
                                                    refine list_cons rfl (op_q (q_move rfl (by decide)) ?_)
                                                    refine list_cons rfl (op_q (q_extract rfl rfl (by decide)) ?_)
                                                    refine list_cons rfl (op_q (q_extract rfl rfl (by decide)) ?_)
                                                    refine list_cons rfl (op_q (q_assign rfl (by decide)) ?_)
                                                    refine list_cons rfl (op_q (q_assign rfl (by decide)) ?_)
                                                    refine list_nil ?_
                                                    refine hK47 _ ?_; clear hK47 K47
                                                    refine codeT.imp (σ' := [(2, .val (.bool _)), (3, .val (.int .i64 _)), (4, .val (.int .i64 _)), (5, .val (.bool _)), (8, .val (.int .i64 _)), (9, .val (.int .i64 _)), (10, .val (.bool _)), (13, .val (.int .i64 _)), (25, .val (.str _)), (29, .val (.str _)), (30, .val (.int .i64 _)), (31, .val (.bool _)), (34, .val (.int .i64 _)), (35, .val (.int .i64 _)), (36, .val (.int .i64 _)), (37, .val (.bool _)), (40, .val (.int .i64 _)), (41, .val (.bool _)), (42, .val (.int .i64 _)), (43, .val (.bool _)), (44, .val (.int .i64 _)), (45, .val (.bool _)), (46, .val (.int .i64 _)), (47, .val (.bool _)), (48, .val (.int .i64 _)), (49, .val (.bool _)), (50, .val (.int .i64 _)), (51, .val (.bool _))]) ?_ (imp_covers ⟨rfl, rfl, rfl, rfl, rfl, rfl, rfl, rfl, rfl, rfl, rfl, rfl, rfl, rfl, rfl, rfl, rfl, rfl, rfl, rfl, rfl, rfl, rfl, rfl, rfl, rfl, rfl, rfl, trivial⟩)
                                                    refine code_seq (fun K48 hK48 => ?_)
                                                    refine code_region ?_
                                                    refine list_cons rfl (op_q (q_move rfl (by decide)) ?_)
                                                    refine list_cons rfl (op_q (by first | exact q_notd rfl (by decide) | exact q_not rfl (by decide)) ?_)
                                                    refine list_cons rfl (op_q (q_move rfl (by decide)) ?_)
                                                    refine list_guard_d rfl rfl rfl rfl (by decide) rfl (by decide) (fun h25 => ?_) (fun h25 => ?_)
                                                    · simp only [Bool.false_eq_true, if_true, if_false, Decidable.not_not] at h25
                                                      refine id (op_q (q_move rfl (by decide)) ?_)
                                                      refine list_guard_y rfl rfl rfl rfl (by decide) rfl ?_
                                                      refine id (op_q (by first | exact q_notd rfl (by decide) | exact q_not rfl (by decide)) ?_)
                                                      refine list_cons rfl (op_q (q_pick rfl rfl (by decide)) ?_)
                                                      refine list_cons rfl (op_q (q_move rfl (by decide)) ?_)
                                                      refine list_guard_d rfl rfl rfl rfl (by decide) rfl (by decide) (fun h26 => ?_) (fun h26 => ?_)
                                                      · simp only [Bool.false_eq_true, if_true, if_false, Decidable.not_not] at h26
                                                        refine id (op_q (q_move rfl (by decide)) ?_)
                                                        refine list_guard_y rfl rfl rfl rfl (by decide) rfl ?_
                                                        refine id (op_q (by first | exact q_notd rfl (by decide) | exact q_not rfl (by decide)) ?_)
                                                        refine list_cons rfl (op_q (q_pick rfl rfl (by decide)) ?_)
                                                        refine list_cons rfl (op_q (q_move rfl (by decide)) ?_)
                                                        refine list_guard_d rfl rfl rfl rfl (by decide) rfl (by decide) (fun h27 => ?_) (fun h27 => ?_)
                                                        · simp only [Bool.false_eq_true, if_true, if_false, Decidable.not_not] at h27
                                                          refine id (op_q (q_move rfl (by decide)) ?_)
                                                          refine list_guard_y rfl rfl rfl rfl (by decide) rfl ?_
                                                          refine id (op_q (by first | exact q_notd rfl (by decide) | exact q_not rfl (by decide)) ?_)
                                                          refine list_cons rfl (op_q (q_pick rfl rfl (by decide)) ?_)
                                                          refine list_cons rfl (op_q (q_move rfl (by decide)) ?_)
                                                          refine list_guard_d rfl rfl rfl rfl (by decide) rfl (by decide) (fun h28 => ?_) (fun h28 => ?_)
                                                          · simp only [Bool.false_eq_true, if_true, if_false, Decidable.not_not] at h28
                                                            refine id (op_q (q_move rfl (by decide)) ?_)
                                                            refine list_guard_y rfl rfl rfl rfl (by decide) rfl ?_
                                                            refine id (op_q (by first | exact q_notd rfl (by decide) | exact q_not rfl (by decide)) ?_)
                                                            refine list_cons rfl (op_q (q_pick rfl rfl (by decide)) ?_)
                                                            refine list_cons rfl (op_q (q_move rfl (by decide)) ?_)
                                                            refine list_guard_d rfl rfl rfl rfl (by decide) rfl (by decide) (fun h29 => ?_) (fun h29 => ?_)
                                                            · simp only [Bool.false_eq_true, if_true, if_false, Decidable.not_not] at h29
                                                              refine id (op_q (q_move rfl (by decide)) ?_)
                                                              refine list_guard_y rfl rfl rfl rfl (by decide) rfl ?_
                                                              refine id (op_q (by first | exact q_notd rfl (by decide) | exact q_not rfl (by decide)) ?_)
                                                              refine list_cons rfl (op_q (q_pick rfl rfl (by decide)) ?_)
                                                              refine list_cons rfl (op_q (q_move rfl (by decide)) ?_)
                                                              refine list_guard_d rfl rfl rfl rfl (by decide) rfl (by decide) (fun h30 => ?_) (fun h30 => ?_)
                                                              · simp only [Bool.false_eq_true, if_true, if_false, Decidable.not_not] at h30
                                                                refine id (op_q (q_move rfl (by decide)) ?_)
                                                                refine list_guard_y rfl rfl rfl rfl (by decide) rfl ?_
                                                                refine id (op_q (q_move rfl (by decide)) ?_)
                                                                refine list_guard_y rfl rfl rfl rfl (by decide) rfl ?_
                                                                refine id (op_q (q_ne rfl rfl (by decide)) ?_)
                                                                refine list_cons rfl (op_q (q_pick rfl rfl (by decide)) ?_)
                                                                refine list_cons rfl (op_q (q_move rfl (by decide)) ?_)
                                                                refine list_guard_d rfl rfl rfl rfl (by decide) rfl (by decide) (fun h31 => ?_) (fun h31 => ?_)
                                                                · simp only [Bool.false_eq_true, if_true, if_false, Decidable.not_not] at h31
                                                                  refine id (op_q (q_move rfl (by decide)) ?_)
                                                                  refine list_guard_y rfl rfl rfl rfl (by decide) rfl ?_
                                                                  refine id (op_q (q_move rfl (by decide)) ?_)
                                                                  refine list_guard_y rfl rfl rfl rfl (by decide) rfl ?_
                                                                  refine id (op_q (q_ne rfl rfl (by decide)) ?_)
                                                                  refine list_cons rfl (op_q (q_pick rfl rfl (by decide)) ?_)
                                                                  refine list_nil ?_
                                                                  refine hK48 _ ?_; clear hK48 K48
                                                                  refine codeT.imp (σ' := [(2, .val (.bool _)), (3, .val (.int .i64 _)), (4, .val (.int .i64 _)), (5, .val (.bool _)), (8, .val (.int .i64 _)), (9, .val (.int .i64 _)), (10, .val (.bool _)), (13, .val (.int .i64 _)), (25, .val (.str _)), (29, .val (.str _)), (30, .val (.int .i64 _)), (31, .val (.bool _)), (34, .val (.int .i64 _)), (35, .val (.int .i64 _)), (36, .val (.int .i64 _)), (37, .val (.bool _)), (40, .val (.int .i64 _)), (41, .val (.bool _)), (42, .val (.int .i64 _)), (43, .val (.bool _)), (44, .val (.int .i64 _)), (45, .val (.bool _)), (46, .val (.int .i64 _)), (47, .val (.bool _)), (48, .val (.int .i64 _)), (49, .val (.bool _)), (50, .val (.int .i64 _)), (51, .val (.bool _)), (315, .val (.bool _))]) ?_ (imp_covers ⟨rfl, rfl, rfl, rfl, rfl, rfl, rfl, rfl, rfl, rfl, rfl, rfl, rfl, rfl, rfl, rfl, rfl, rfl, rfl, rfl, rfl, rfl, rfl, rfl, rfl, rfl, rfl, rfl, rfl, trivial⟩)
                                                                  refine code_cond_d rfl (fun h32 => ?_) (fun h32 => ?_)
                                                                  · skip
                                                                    (try simp only [Decidable.not_not] at h32)
                                                                    exfalso
                                                                    have k : (0 ≤ a ∧ a ≤ 127) ∧ (0 ≤ b ∧ b ≤ 127) := by assumption
                                                                    exact h32 (far_mirI k)
                                                                  · skip
                                                                    (try simp only [Decidable.not_not] at h32)
                                                                    refine code_skip ?_
                                                                    exact then_n (imp_covers ⟨rfl, rfl, rfl, rfl, rfl, rfl, rfl, rfl, rfl, rfl, rfl, rfl, rfl, rfl, rfl, rfl, trivial⟩)
                                                                · simp only [Bool.false_eq_true, if_true, if_false, Decidable.not_not] at h31
                                                                  exfalso
                                                                  have k : (0 ≤ a ∧ a ≤ 127) ∧ (0 ≤ b ∧ b ≤ 127) := by assumption
                                                                  exact h31 (far_turnI k)
                                                              · simp only [Bool.false_eq_true, if_true, if_false, Decidable.not_not] at h30
                                                                exfalso
                                                                have k : (0 ≤ a ∧ a ≤ 127) ∧ (0 ≤ b ∧ b ≤ 127) := by assumption
                                                                exact h30 ⟨⟨(cM a).1, (cM a).2⟩, (cM b).1, (cM b).2⟩
                                                            · simp only [Bool.false_eq_true, if_true, if_false, Decidable.not_not] at h29
                                                              exfalso
                                                              have k : (0 ≤ a ∧ a ≤ 127) ∧ (0 ≤ b ∧ b ≤ 127) := by assumption
                                                              exact h29 k.2
                                                          · simp only [Bool.false_eq_true, if_true, if_false, Decidable.not_not] at h28
                                                            exfalso
                                                            have k : (0 ≤ a ∧ a ≤ 127) ∧ (0 ≤ b ∧ b ≤ 127) := by assumption
                                                            exact h28 k.1
                                                        · simp only [Bool.false_eq_true, if_true, if_false, Decidable.not_not] at h27
                                                          exfalso
                                                          have k : (0 ≤ a ∧ a ≤ 127) ∧ (0 ≤ b ∧ b ≤ 127) := by assumption
                                                          exact h27 ⟨⟨(cT a).1, (cT a).2⟩, (cT b).1, (cT b).2⟩
                                                      · simp only [Bool.false_eq_true, if_true, if_false, Decidable.not_not] at h26
                                                        exfalso
                                                        have k : (0 ≤ a ∧ a ≤ 127) ∧ (0 ≤ b ∧ b ≤ 127) := by assumption
                                                        exact h26 k.2
                                                    · simp only [Bool.false_eq_true, if_true, if_false, Decidable.not_not] at h25
                                                      exfalso
                                                      have k : (0 ≤ a ∧ a ≤ 127) ∧ (0 ≤ b ∧ b ≤ 127) := by assumption
                                                      exact h25 k.1
                                                  · skip
                                                    (try simp only [Decidable.not_not] at h24)
                                                    refine code_skip ?_
                                                    exact then_n (imp_covers ⟨rfl, rfl, rfl, rfl, rfl, rfl, rfl, rfl, rfl, rfl, rfl, rfl, rfl, rfl, rfl, rfl, trivial⟩)
                                                · skip
                                                  refine codeT.imp (σ' := [(2, .val (.bool _)), (3, .val (.int .i64 _)), (4, .val (.int .i64 _)), (5, .val (.bool _)), (8, .val (.int .i64 _)), (9, .val (.int .i64 _)), (10, .val (.bool _)), (13, .val (.int .i64 _)), (25, .val (.str _)), (29, .val (.str _)), (30, .val (.int .i64 _)), (31, .val (.bool _))]) ?_ (imp_covers ⟨rfl, rfl, rfl, rfl, rfl, rfl, rfl, rfl, rfl, rfl, rfl, rfl, trivial⟩)
                                                  refine code_seq_same ?_ ?_
                                                  · skip
                                                    refine code_seq (fun K49 hK49 => ?_)
                                                    refine code_region ?_
                                                    refine list_cons rfl (op_q (q_move rfl (by decide)) ?_)
                                                    refine list_nil ?_
                                                    refine hK49 _ ?_; clear hK49 K49
                                                    refine code_cond_d rfl (fun h33 => ?_) (fun h33 => ?_)
                                                    · skip
                                                      (try simp only [Decidable.not_not] at h33)
                                                      refine code_seq (fun K50 hK50 => ?_)
                                                      refine code_region ?_
                                                      refine list_cons rfl (op_q (q_move rfl (by decide)) ?_)
                                                      refine list_cons rfl (op_call _ (impl_BarsOf _) rfl rfl (by decide) (by decide) (by decide) rfl ?_)
                                                      rintro _ rfl
                                                      refine list_cons rfl (op_q (q_move rfl (by decide)) ?_)
                                                      refine list_cons rfl (op_q (q_extract rfl rfl (by decide)) ?_)
                                                      refine list_cons rfl (op_q (q_extract rfl rfl (by decide)) ?_)
                                                      refine list_cons rfl (op_q (q_assign rfl (by decide)) ?_)
                                                      refine list_cons rfl (op_q (q_assign rfl (by decide)) ?_)
                                                      refine list_nil ?_
                                                      refine hK50 _ ?_; clear hK50 K50
                                                      refine codeT.imp (σ' := [(2, .val (.bool _)), (3, .val (.int .i64 _)), (4, .val (.int .i64 _)), (5, .val (.bool _)), (8, .val (.int .i64 _)), (9, .val (.int .i64 _)), (10, .val (.bool _)), (13, .val (.int .i64 _)), (25, .val (.str _)), (29, .val (.str _)), (30, .val (.int .i64 _)), (31, .val (.bool _)), (52, .val (.str _)), (53, .val (.bool _))]) ?_ (imp_covers ⟨rfl, rfl, rfl, rfl, rfl, rfl, rfl, rfl, rfl, rfl, rfl, rfl, rfl, rfl, trivial⟩)
                                                      refine code_seq (fun K51 hK51 => ?_)
                                                      refine code_region ?_
                                                      refine list_cons rfl (op_q (q_move rfl (by decide)) ?_)
                                                      refine list_cons rfl (op_q (by first | exact q_notd rfl (by decide) | exact q_not rfl (by decide)) ?_)
                                                      refine list_cons rfl (op_q (q_move rfl (by decide)) ?_)
                                                      refine list_guard_d rfl rfl rfl rfl (by decide) rfl (by decide) (fun h34 => ?_) (fun h34 => ?_)
                                                      · simp only [Bool.false_eq_true, if_true, if_false, Decidable.not_not] at h34
                                                        refine id (op_q (q_move rfl (by decide)) ?_)
                                                        refine list_guard_y rfl rfl rfl rfl (by decide) rfl ?_
                                                        refine id (op_q (q_move rfl (by decide)) ?_)
                                                        refine list_guard_y rfl rfl rfl rfl (by decide) rfl ?_
                                                        refine id (op_q (q_sne rfl rfl (by decide)) ?_)
                                                        refine list_cons rfl (op_q (q_pick rfl rfl (by decide)) ?_)
                                                        refine list_nil ?_
                                                        refine hK51 _ ?_; clear hK51 K51
                                                        refine code_cond_d rfl (fun h35 => ?_) (fun h35 => ?_)
                                                        · skip
                                                          (try simp only [Decidable.not_not] at h35)
                                                          exfalso
                                                          exact h35 (bars_read (by assumption))
                                                        · skip
                                                          (try simp only [Decidable.not_not] at h35)
                                                          refine code_skip ?_
                                                          exact then_n (imp_covers ⟨rfl, rfl, rfl, rfl, rfl, rfl, rfl, rfl, rfl, rfl, rfl, rfl, trivial⟩)
                                                      · simp only [Bool.false_eq_true, if_true, if_false, Decidable.not_not] at h34
                                                        exfalso
                                                        exact h34 (cR s)
                                                    · skip
                                                      (try simp only [Decidable.not_not] at h33)
                                                      refine code_skip ?_
                                                      exact then_n (imp_covers ⟨rfl, rfl, rfl, rfl, rfl, rfl, rfl, rfl, rfl, rfl, rfl, rfl, trivial⟩)
                                                  · skip
                                                    refine codeT.imp (σ' := [(2, .val (.bool _)), (3, .val (.int .i64 _)), (4, .val (.int .i64 _)), (5, .val (.bool _)), (8, .val (.int .i64 _)), (9, .val (.int .i64 _)), (10, .val (.bool _)), (13, .val (.int .i64 _)), (25, .val (.str _))]) ?_ (imp_covers ⟨rfl, rfl, rfl, rfl, rfl, rfl, rfl, rfl, rfl, trivial⟩)
                                                    refine code_seq_same ?_ ?_
                                                    · skip
                                                      refine code_seq (fun K52 hK52 => ?_)
                                                      refine code_region ?_
                                                      refine list_cons rfl (op_q (q_move rfl (by decide)) ?_)
                                                      refine list_nil ?_
                                                      refine hK52 _ ?_; clear hK52 K52
                                                      refine code_cond_d rfl (fun h36 => ?_) (fun h36 => ?_)
                                                      · skip
                                                        (try simp only [Decidable.not_not] at h36)
                                                        refine code_seq (fun K53 hK53 => ?_)
                                                        refine code_region ?_
                                                        refine list_cons rfl (op_q (q_move rfl (by decide)) ?_)
                                                        refine list_cons rfl (op_call _ (impl_DigitOf _) rfl rfl (by decide) (by decide) (by decide) rfl ?_)
                                                        rintro _ rfl
                                                        refine list_cons rfl (op_q (q_move rfl (by decide)) ?_)
                                                        refine list_cons rfl (op_q (q_extract rfl rfl (by decide)) ?_)
                                                        refine list_cons rfl (op_q (q_extract rfl rfl (by decide)) ?_)
                                                        refine list_cons rfl (op_q (q_assign rfl (by decide)) ?_)
                                                        refine list_cons rfl (op_q (q_assign rfl (by decide)) ?_)
                                                        refine list_nil ?_
                                                        refine hK53 _ ?_; clear hK53 K53
                                                        refine codeT.imp (σ' := [(2, .val (.bool _)), (3, .val (.int .i64 _)), (4, .val (.int .i64 _)), (5, .val (.bool _)), (8, .val (.int .i64 _)), (9, .val (.int .i64 _)), (10, .val (.bool _)), (13, .val (.int .i64 _)), (25, .val (.str _)), (54, .val (.int .i64 _)), (55, .val (.bool _))]) ?_ (imp_covers ⟨rfl, rfl, rfl, rfl, rfl, rfl, rfl, rfl, rfl, rfl, rfl, trivial⟩)
                                                        refine code_seq (fun K54 hK54 => ?_)
                                                        refine code_region ?_
                                                        refine list_cons rfl (op_q (q_move rfl (by decide)) ?_)
                                                        refine list_cons rfl (op_q (by first | exact q_notd rfl (by decide) | exact q_not rfl (by decide)) ?_)
                                                        refine list_cons rfl (op_q (q_move rfl (by decide)) ?_)
                                                        refine list_guard_d rfl rfl rfl rfl (by decide) rfl (by decide) (fun h37 => ?_) (fun h37 => ?_)
                                                        · simp only [Bool.false_eq_true, if_true, if_false, Decidable.not_not] at h37
                                                          refine id (op_q (q_move rfl (by decide)) ?_)
                                                          refine list_guard_y rfl rfl rfl rfl (by decide) rfl ?_
                                                          refine id (op_q (q_move rfl (by decide)) ?_)
                                                          refine list_guard_y rfl rfl rfl rfl (by decide) rfl ?_
                                                          refine id (op_q (q_ne rfl rfl (by decide)) ?_)
                                                          refine list_cons rfl (op_q (q_pick rfl rfl (by decide)) ?_)
                                                          refine list_nil ?_
                                                          refine hK54 _ ?_; clear hK54 K54
                                                          refine code_cond_d rfl (fun h38 => ?_) (fun h38 => ?_)
                                                          · skip
                                                            (try simp only [Decidable.not_not] at h38)
                                                            exfalso
                                                            rw [dig_cell (d := d) (by assumption)] at h38; split at h38 <;> omega
                                                          · skip
                                                            (try simp only [Decidable.not_not] at h38)
                                                            refine code_skip ?_
                                                            exact then_n (imp_covers ⟨rfl, rfl, rfl, rfl, rfl, rfl, rfl, rfl, rfl, trivial⟩)
                                                        · simp only [Bool.false_eq_true, if_true, if_false, Decidable.not_not] at h37
                                                          exfalso
                                                          rw [dig_cell (d := d) (by assumption)] at h37; omega
                                                      · skip
                                                        (try simp only [Decidable.not_not] at h36)
                                                        refine code_skip ?_
                                                        exact then_n (imp_covers ⟨rfl, rfl, rfl, rfl, rfl, rfl, rfl, rfl, rfl, trivial⟩)
                                                    · skip
                                                      refine code_seq (fun K55 hK55 => ?_)
                                                      refine code_seq (fun K56 hK56 => ?_)
                                                      refine code_region ?_
                                                      refine list_cons rfl (op_q (q_move rfl (by decide)) ?_)
                                                      refine list_cons rfl (op_q (by first | exact q_notd rfl (by decide) | exact q_not rfl (by decide)) ?_)
                                                      refine list_nil ?_
                                                      refine hK56 _ ?_; clear hK56 K56
                                                      refine code_cond_d rfl (fun h39 => ?_) (fun h39 => ?_)
                                                      · skip
                                                        (try simp only [Decidable.not_not] at h39)
                                                        refine code_seq (fun K57 hK57 => ?_)
                                                        refine code_region ?_
                                                        refine list_cons rfl (op_q (q_assign rfl (by decide)) ?_)
                                                        refine list_nil ?_
                                                        refine hK57 _ ?_; clear hK57 K57
                                                        refine code_ret ?_
                                                        refine then_r ?_; clear hK55 K55
                                                        refine ends_ret (cs := []) rfl rfl rfl rfl trivial ?_
                                                        first
                                                        | (have k : 0 ≤ c ∧ c ≤ 127 := by assumption
                                                           rw [decide_eq_true (parse_own k)])
                                                        | rfl
                                                      · skip
                                                        (try simp only [Decidable.not_not] at h39)
                                                        refine code_skip ?_
                                                        refine hK55 _ ?_; clear hK55 K55
                                                        refine code_seq (fun K58 hK58 => ?_)
                                                        refine code_region ?_
                                                        refine list_cons rfl (op_q (q_move rfl (by decide)) ?_)
                                                        refine list_cons rfl (op_call _ (impl_TurnCell _) rfl rfl (by decide) (by decide) (by decide) rfl ?_)
                                                        rintro _ rfl
                                                        refine list_cons rfl (op_q (q_move rfl (by decide)) ?_)
                                                        refine list_cons rfl (op_q (q_extract rfl rfl (by decide)) ?_)
                                                        refine list_cons rfl (op_q (q_extract rfl rfl (by decide)) ?_)
                                                        refine list_cons rfl (op_q (q_assign rfl (by decide)) ?_)
                                                        refine list_cons rfl (op_q (q_assign rfl (by decide)) ?_)
                                                        refine list_nil ?_
                                                        refine hK58 _ ?_; clear hK58 K58
                                                        refine codeT.imp (σ' := [(2, .val (.bool _)), (3, .val (.int .i64 _)), (4, .val (.int .i64 _)), (5, .val (.bool _)), (8, .val (.int .i64 _)), (9, .val (.int .i64 _)), (10, .val (.bool _)), (13, .val (.int .i64 _)), (25, .val (.str _)), (56, .val (.int .i64 _)), (57, .val (.bool _))]) ?_ (imp_covers ⟨rfl, rfl, rfl, rfl, rfl, rfl, rfl, rfl, rfl, rfl, rfl, trivial⟩)
                                                        refine code_seq (fun K59 hK59 => ?_)
                                                        refine code_region ?_
                                                        refine list_cons rfl (op_q (q_move rfl (by decide)) ?_)
                                                        refine list_cons rfl (op_call _ (impl_MirrorCell _) rfl rfl (by decide) (by decide) (by decide) rfl ?_)
                                                        rintro _ rfl
                                                        refine list_cons rfl (op_q (q_move rfl (by decide)) ?_)
                                                        refine list_cons rfl (op_q (q_extract rfl rfl (by decide)) ?_)
                                                        refine list_cons rfl (op_q (q_extract rfl rfl (by decide)) ?_)
                                                        refine list_cons rfl (op_q (q_assign rfl (by decide)) ?_)
                                                        refine list_cons rfl (op_q (q_assign rfl (by decide)) ?_)
                                                        refine list_nil ?_
                                                        refine hK59 _ ?_; clear hK59 K59
                                                        refine codeT.imp (σ' := [(2, .val (.bool _)), (3, .val (.int .i64 _)), (4, .val (.int .i64 _)), (5, .val (.bool _)), (8, .val (.int .i64 _)), (9, .val (.int .i64 _)), (10, .val (.bool _)), (13, .val (.int .i64 _)), (25, .val (.str _)), (56, .val (.int .i64 _)), (57, .val (.bool _)), (58, .val (.int .i64 _)), (59, .val (.bool _))]) ?_ (imp_covers ⟨rfl, rfl, rfl, rfl, rfl, rfl, rfl, rfl, rfl, rfl, rfl, rfl, rfl, trivial⟩)
                                                        refine code_seq (fun K60 hK60 => ?_)
                                                        refine code_region ?_
                                                        refine list_cons rfl (op_q (q_move rfl (by decide)) ?_)
                                                        refine list_cons rfl (op_call _ (impl_ParseBars _ (by first | omega | exact barsI_len _)) rfl rfl (by decide) (by decide) (by decide) rfl ?_)
                                                        rintro _ rfl
                                                        refine list_cons rfl (op_q (q_move rfl (by decide)) ?_)
                                                        refine list_cons rfl (op_q (q_extract rfl rfl (by decide)) ?_)
                                                        refine list_cons rfl (op_q (q_extract rfl rfl (by decide)) ?_)
                                                        refine list_cons rfl (op_q (q_assign rfl (by decide)) ?_)
                                                        refine list_cons rfl (op_q (q_assign rfl (by decide)) ?_)
                                                        refine list_nil ?_
                                                        refine hK60 _ ?_; clear hK60 K60
                                                        refine codeT.imp (σ' := [(2, .val (.bool _)), (3, .val (.int .i64 _)), (4, .val (.int .i64 _)), (5, .val (.bool _)), (8, .val (.int .i64 _)), (9, .val (.int .i64 _)), (10, .val (.bool _)), (13, .val (.int .i64 _)), (25, .val (.str _)), (56, .val (.int .i64 _)), (57, .val (.bool _)), (58, .val (.int .i64 _)), (59, .val (.bool _)), (60, .val (.int .i64 _)), (61, .val (.bool _))]) ?_ (imp_covers ⟨rfl, rfl, rfl, rfl, rfl, rfl, rfl, rfl, rfl, rfl, rfl, rfl, rfl, rfl, rfl, trivial⟩)
                                                        refine code_seq (fun K61 hK61 => ?_)
                                                        refine code_region ?_
                                                        refine list_cons rfl (op_q (q_move rfl (by decide)) ?_)
                                                        refine list_cons rfl (op_q (q_move rfl (by decide)) ?_)
                                                        refine list_guard_d rfl rfl rfl rfl (by decide) rfl (by decide) (fun h40 => ?_) (fun h40 => ?_)
                                                        · simp only [Bool.false_eq_true, if_true, if_false, Decidable.not_not] at h40
                                                          refine id (op_q (q_move rfl (by decide)) ?_)
                                                          refine list_cons rfl (op_q (q_pick rfl rfl (by decide)) ?_)
                                                          refine list_cons rfl (op_q (q_move rfl (by decide)) ?_)
                                                          refine list_guard_d rfl rfl rfl rfl (by decide) rfl (by decide) (fun h41 => ?_) (fun h41 => ?_)
                                                          · simp only [Bool.false_eq_true, if_true, if_false, Decidable.not_not] at h41
                                                            refine id (op_q (q_move rfl (by decide)) ?_)
                                                            refine list_cons rfl (op_q (q_pick rfl rfl (by decide)) ?_)
                                                            refine list_cons rfl (op_q (q_move rfl (by decide)) ?_)
                                                            refine list_guard_d rfl rfl rfl rfl (by decide) rfl (by decide) (fun h42 => ?_) (fun h42 => ?_)
                                                            · simp only [Bool.false_eq_true, if_true, if_false, Decidable.not_not] at h42
                                                              refine id (op_q (q_move rfl (by decide)) ?_)
                                                              refine list_guard_y rfl rfl rfl rfl (by decide) rfl ?_
                                                              refine id (op_q (q_move rfl (by decide)) ?_)
                                                              refine list_guard_y rfl rfl rfl rfl (by decide) rfl ?_
                                                              refine id (op_q (q_eq rfl rfl (by decide)) ?_)
                                                              refine list_cons rfl (op_q (q_pick rfl rfl (by decide)) ?_)
                                                              refine list_cons rfl (op_q (q_move rfl (by decide)) ?_)
                                                              refine list_guard_d rfl rfl rfl rfl (by decide) rfl (by decide) (fun h43 => ?_) (fun h43 => ?_)
                                                              · simp only [Bool.false_eq_true, if_true, if_false, Decidable.not_not] at h43
                                                                refine id (op_q (q_move rfl (by decide)) ?_)
                                                                refine list_guard_y rfl rfl rfl rfl (by decide) rfl ?_
                                                                refine id (op_q (q_move rfl (by decide)) ?_)
                                                                refine list_guard_y rfl rfl rfl rfl (by decide) rfl ?_
                                                                refine id (op_q (q_eq rfl rfl (by decide)) ?_)
                                                                refine list_cons rfl (op_q (q_pick rfl rfl (by decide)) ?_)
                                                                refine list_cons rfl (op_q (q_move rfl (by decide)) ?_)
                                                                refine list_guard_d rfl rfl rfl rfl (by decide) rfl (by decide) (fun h44 => ?_) (fun h44 => ?_)
                                                                · simp only [Bool.false_eq_true, if_true, if_false, Decidable.not_not] at h44
                                                                  refine id (op_q (q_move rfl (by decide)) ?_)
                                                                  refine list_guard_y rfl rfl rfl rfl (by decide) rfl ?_
                                                                  refine id (op_q (q_move rfl (by decide)) ?_)
                                                                  refine list_guard_y rfl rfl rfl rfl (by decide) rfl ?_
                                                                  refine id (op_q (q_eq rfl rfl (by decide)) ?_)
                                                                  refine list_cons rfl (op_q (q_pick rfl rfl (by decide)) ?_)
                                                                  refine list_cons rfl (op_q (q_assign rfl (by decide)) ?_)
                                                                  refine list_nil ?_
                                                                  refine hK61 _ ?_; clear hK61 K61
                                                                  refine codeT.imp (σ' := [(2, .val (.bool _)), (3, .val (.int .i64 _)), (4, .val (.int .i64 _)), (5, .val (.bool _)), (8, .val (.int .i64 _)), (9, .val (.int .i64 _)), (10, .val (.bool _)), (13, .val (.int .i64 _)), (25, .val (.str _)), (56, .val (.int .i64 _)), (57, .val (.bool _)), (58, .val (.int .i64 _)), (59, .val (.bool _)), (60, .val (.int .i64 _)), (61, .val (.bool _))]) ?_ (imp_covers ⟨rfl, rfl, rfl, rfl, rfl, rfl, rfl, rfl, rfl, rfl, rfl, rfl, rfl, rfl, rfl, trivial⟩)
                                                                  refine code_ret ?_
                                                                  refine ends_ret (cs := []) rfl rfl rfl rfl trivial ?_
                                                                  first
                                                                  | (have k : 0 ≤ c ∧ c ≤ 127 := by assumption
                                                                     rw [decide_eq_true (parse_own k)])
                                                                  | rfl
                                                                · simp only [Bool.false_eq_true, if_true, if_false, Decidable.not_not] at h44
                                                                  exfalso
                                                                  have k : 0 ≤ c ∧ c ≤ 127 := by assumption
                                                                  exact h44 (mir_twice k)
                                                              · simp only [Bool.false_eq_true, if_true, if_false, Decidable.not_not] at h43
                                                                exfalso
                                                                have k : 0 ≤ c ∧ c ≤ 127 := by assumption
                                                                exact h43 (turn_twice k)
                                                            · simp only [Bool.false_eq_true, if_true, if_false, Decidable.not_not] at h42
                                                              exfalso
                                                              have k : 0 ≤ c ∧ c ≤ 127 := by assumption
                                                              exact h42 (ord_own k)
                                                          · simp only [Bool.false_eq_true, if_true, if_false, Decidable.not_not] at h41
                                                            exfalso
                                                            have k : 0 ≤ c ∧ c ≤ 127 := by assumption
                                                            exact h41 (cM c)
                                                        · simp only [Bool.false_eq_true, if_true, if_false, Decidable.not_not] at h40
                                                          exfalso
                                                          have k : 0 ≤ c ∧ c ≤ 127 := by assumption
                                                          exact h40 (cT c)
                                            · simp only [Bool.false_eq_true, if_true, if_false, Decidable.not_not] at h22
                                              exfalso
                                              first | exact absurd rfl h22 | exact h22 trivial | (simp at h22; done)
                                        · simp only [Bool.false_eq_true, if_true, if_false, Decidable.not_not] at h20
                                          exfalso
                                          first | exact absurd rfl h20 | exact h20 trivial | (simp at h20; done)
                                    · simp only [Bool.false_eq_true, if_true, if_false, Decidable.not_not] at h18
                                      refine list_guard_nT rfl rfl rfl rfl (by decide) (by decide) ?_
                                      refine list_guard_nT rfl rfl rfl rfl (by decide) (by decide) ?_
                                      refine list_guard_nT rfl rfl rfl rfl (by decide) (by decide) ?_
                                      refine list_guard_y rfl rfl rfl rfl (by decide) rfl ?_
                                      refine id (op_q (q_pick rfl rfl (by decide)) ?_)
                                      refine list_cons rfl (op_q (q_pick rfl rfl (by decide)) ?_)
                                      refine list_nil ?_
                                      refine hK30 _ ?_; clear hK30 K30
                                      refine codeT.imp (σ' := [(0, .ext _), (2, .val (.bool _)), (3, .val (.int .i64 _)), (4, .val (.int .i64 _)), (5, .val (.bool _)), (6, .val (.int .i64 _)), (7, .val (.bool _)), (8, .val (.int .i64 _)), (9, .val (.int .i64 _)), (10, .val (.bool _)), (11, .val (.int .i64 _)), (12, .val (.bool _)), (13, .val (.int .i64 _)), (14, .val (.bool _)), (15, .val (.int .i64 _)), (16, .val (.bool _)), (17, .val (.int .i64 _)), (18, .val (.bool _)), (19, .val (.int .i64 _)), (20, .val (.bool _)), (21, .val (.int .i64 _)), (22, .val (.bool _)), (23, .val (.int .i64 _)), (24, .val (.bool _)), (25, .val (.str _)), (26, .val (.bool _)), (27, .val (.str _)), (28, .val (.bool _)), (205, .val (.bool _))]) ?_ (imp_covers ⟨rfl, rfl, rfl, rfl, rfl, rfl, rfl, rfl, rfl, rfl, rfl, rfl, rfl, rfl, rfl, rfl, rfl, rfl, rfl, rfl, rfl, rfl, rfl, rfl, rfl, rfl, rfl, rfl, rfl, trivial⟩)
                                      refine code_cond_f rfl ?_
                                      refine code_skip ?_
                                      refine hK28 _ ?_; clear hK28 K28
                                      refine code_seq (fun K62 hK62 => ?_)
                                      refine code_region ?_
                                      refine list_cons rfl (op_q (q_move rfl (by decide)) ?_)
                                      refine list_cons rfl (op_callM (DrawParseBars_c _ ?_) (.tmp 0) 0 [] [.tmp 206] _ rfl rfl (by intro y hy; cases hy) (by decide) (by decide) (by decide) rfl (by intro h; cases h) ?_)
                                      · first | assumption | omega | (simp; omega)
                                      rintro _ _ ⟨s, hs, rfl⟩
                                      refine list_cons rfl (op_q (q_assign rfl (by decide)) ?_)
                                      refine list_nil ?_
                                      refine hK62 _ ?_; clear hK62 K62
                                      refine codeT.imp (σ' := [(0, .ext _), (2, .val (.bool _)), (3, .val (.int .i64 _)), (4, .val (.int .i64 _)), (5, .val (.bool _)), (6, .val (.int .i64 _)), (7, .val (.bool _)), (8, .val (.int .i64 _)), (9, .val (.int .i64 _)), (10, .val (.bool _)), (11, .val (.int .i64 _)), (12, .val (.bool _)), (13, .val (.int .i64 _)), (14, .val (.bool _)), (15, .val (.int .i64 _)), (16, .val (.bool _)), (17, .val (.int .i64 _)), (18, .val (.bool _)), (19, .val (.int .i64 _)), (20, .val (.bool _)), (21, .val (.int .i64 _)), (22, .val (.bool _)), (23, .val (.int .i64 _)), (24, .val (.bool _)), (25, .val (.str _)), (26, .val (.bool _)), (27, .val (.str _)), (28, .val (.bool _)), (29, .val (.str _))]) ?_ (imp_covers ⟨rfl, rfl, rfl, rfl, rfl, rfl, rfl, rfl, rfl, rfl, rfl, rfl, rfl, rfl, rfl, rfl, rfl, rfl, rfl, rfl, rfl, rfl, rfl, rfl, rfl, rfl, rfl, rfl, rfl, trivial⟩)
                                      refine code_seq (fun K63 hK63 => ?_)
                                      refine code_region ?_
                                      refine list_cons rfl (op_q (q_move rfl (by decide)) ?_)
                                      refine list_cons rfl (op_call _ (impl_ParseBars _ (by first | omega | exact barsI_len _)) rfl rfl (by decide) (by decide) (by decide) rfl ?_)
                                      rintro _ rfl
                                      refine list_cons rfl (op_q (q_move rfl (by decide)) ?_)
                                      refine list_cons rfl (op_q (q_extract rfl rfl (by decide)) ?_)
                                      refine list_cons rfl (op_q (q_extract rfl rfl (by decide)) ?_)
                                      refine list_cons rfl (op_q (q_assign rfl (by decide)) ?_)
                                      refine list_cons rfl (op_q (q_assign rfl (by decide)) ?_)
                                      refine list_nil ?_
                                      refine hK63 _ ?_; clear hK63 K63
                                      refine codeT.imp (σ' := ((0, .ext _) :: (2, .val (.bool _)) :: (3, .val (.int .i64 _)) :: (4, .val (.int .i64 _)) :: (5, .val (.bool _)) :: (6, .val (.int .i64 _)) :: (7, .val (.bool _)) :: (8, .val (.int .i64 _)) :: (9, .val (.int .i64 _)) :: (10, .val (.bool _)) :: (11, .val (.int .i64 _)) :: (12, .val (.bool _)) :: (13, .val (.int .i64 _)) :: (14, .val (.bool _)) :: (15, .val (.int .i64 _)) :: (16, .val (.bool _)) :: (17, .val (.int .i64 _)) :: (18, .val (.bool _)) :: (19, .val (.int .i64 _)) :: (20, .val (.bool _)) :: (21, .val (.int .i64 _)) :: (22, .val (.bool _)) :: (23, .val (.int .i64 _)) :: (24, .val (.bool _)) :: (25, .val (.str _)) :: (26, .val (.bool _)) :: (27, .val (.str _)) :: (28, .val (.bool _)) :: (29, .val (.str _)) :: (30, .val (.int .i64 _)) :: (31, .val (.bool _)) :: [])) ?_ (imp_covers ⟨rfl, rfl, rfl, rfl, rfl, rfl, rfl, rfl, rfl, rfl, rfl, rfl, rfl, rfl, rfl, rfl, rfl, rfl, rfl, rfl, rfl, rfl, rfl, rfl, rfl, rfl, rfl, rfl, rfl, rfl, rfl, trivial⟩)
                                      refine code_seq (fun K64 hK64 => ?_)
                                      refine code_seq (fun K65 hK65 => ?_)
                                      refine code_region ?_
                                      refine list_cons rfl (op_q (q_move rfl (by decide)) ?_)
                                      refine list_cons rfl (op_call _ (spec_ParseBars _ (by first | omega | (simp; omega))) rfl rfl (by decide) (by decide) (by decide) rfl ?_)
                                      rintro _ rfl
                                      refine list_cons rfl (op_q (q_move rfl (by decide)) ?_)
                                      refine list_cons rfl (op_q (q_extract rfl rfl (by decide)) ?_)
                                      refine list_cons rfl (op_q (q_extract rfl rfl (by decide)) ?_)
                                      refine list_cons rfl (op_q (q_assign rfl (by decide)) ?_)
                                      refine list_cons rfl (op_q (q_assign rfl (by decide)) ?_)
                                      refine list_nil ?_
                                      refine hK65 _ ?_; clear hK65 K65
                                      refine codeT.imp (σ' := ((0, .ext _) :: (2, .val (.bool _)) :: (3, .val (.int .i64 _)) :: (4, .val (.int .i64 _)) :: (5, .val (.bool _)) :: (6, .val (.int .i64 _)) :: (7, .val (.bool _)) :: (8, .val (.int .i64 _)) :: (9, .val (.int .i64 _)) :: (10, .val (.bool _)) :: (11, .val (.int .i64 _)) :: (12, .val (.bool _)) :: (13, .val (.int .i64 _)) :: (14, .val (.bool _)) :: (15, .val (.int .i64 _)) :: (16, .val (.bool _)) :: (17, .val (.int .i64 _)) :: (18, .val (.bool _)) :: (19, .val (.int .i64 _)) :: (20, .val (.bool _)) :: (21, .val (.int .i64 _)) :: (22, .val (.bool _)) :: (23, .val (.int .i64 _)) :: (24, .val (.bool _)) :: (25, .val (.str _)) :: (26, .val (.bool _)) :: (27, .val (.str _)) :: (28, .val (.bool _)) :: (29, .val (.str _)) :: (30, .val (.int .i64 _)) :: (31, .val (.bool _)) :: (32, .val (.int .i64 _)) :: (33, .val (.bool _)) :: [])) ?_ (imp_covers ⟨rfl, rfl, rfl, rfl, rfl, rfl, rfl, rfl, rfl, rfl, rfl, rfl, rfl, rfl, rfl, rfl, rfl, rfl, rfl, rfl, rfl, rfl, rfl, rfl, rfl, rfl, rfl, rfl, rfl, rfl, rfl, rfl, rfl, trivial⟩)
                                      refine code_seq (fun K66 hK66 => ?_)
                                      refine code_region ?_
                                      refine list_cons rfl (op_q (q_move rfl (by decide)) ?_)
                                      refine list_cons rfl (op_q (q_move rfl (by decide)) ?_)
                                      refine list_cons rfl (op_q (q_ne rfl rfl (by decide)) ?_)
                                      refine list_cons rfl (op_q (q_move rfl (by decide)) ?_)
                                      refine list_guard_d rfl rfl rfl rfl (by decide) rfl (by decide) (fun h45 => ?_) (fun h45 => ?_)
                                      · simp only [Bool.false_eq_true, if_true, if_false, Decidable.not_not] at h45
                                        refine id (op_q (q_move rfl (by decide)) ?_)
                                        refine list_guard_y rfl rfl rfl rfl (by decide) rfl ?_
                                        refine id (op_q (q_move rfl (by decide)) ?_)
                                        refine list_guard_y rfl rfl rfl rfl (by decide) rfl ?_
                                        refine id (op_q (q_bne Tryd.underlying4 rfl rfl (by decide)) ?_)
                                        refine list_cons rfl (op_q (q_pick rfl rfl (by decide)) ?_)
                                        refine list_nil ?_
                                        refine hK66 _ ?_; clear hK66 K66
                                        refine codeT.imp (σ' := ((0, .ext _) :: (2, .val (.bool _)) :: (3, .val (.int .i64 _)) :: (4, .val (.int .i64 _)) :: (5, .val (.bool _)) :: (6, .val (.int .i64 _)) :: (7, .val (.bool _)) :: (8, .val (.int .i64 _)) :: (9, .val (.int .i64 _)) :: (10, .val (.bool _)) :: (11, .val (.int .i64 _)) :: (12, .val (.bool _)) :: (13, .val (.int .i64 _)) :: (14, .val (.bool _)) :: (15, .val (.int .i64 _)) :: (16, .val (.bool _)) :: (17, .val (.int .i64 _)) :: (18, .val (.bool _)) :: (19, .val (.int .i64 _)) :: (20, .val (.bool _)) :: (21, .val (.int .i64 _)) :: (22, .val (.bool _)) :: (23, .val (.int .i64 _)) :: (24, .val (.bool _)) :: (25, .val (.str _)) :: (26, .val (.bool _)) :: (27, .val (.str _)) :: (28, .val (.bool _)) :: (29, .val (.str _)) :: (30, .val (.int .i64 _)) :: (31, .val (.bool _)) :: (32, .val (.int .i64 _)) :: (33, .val (.bool _)) :: (225, .val (.bool _)) :: [])) ?_ (imp_covers ⟨rfl, rfl, rfl, rfl, rfl, rfl, rfl, rfl, rfl, rfl, rfl, rfl, rfl, rfl, rfl, rfl, rfl, rfl, rfl, rfl, rfl, rfl, rfl, rfl, rfl, rfl, rfl, rfl, rfl, rfl, rfl, rfl, rfl, rfl, trivial⟩)
                                        refine code_cond_d rfl (fun h46 => ?_) (fun h46 => ?_)
                                        · skip
                                          (try simp only [Decidable.not_not] at h46)
                                          exfalso
                                          first | exact absurd rfl h46 | exact h46 trivial | (simp at h46; done)
                                        · skip
                                          (try simp only [Decidable.not_not] at h46)
                                          refine code_skip ?_
                                          refine hK64 _ ?_; clear hK64 K64
                                          refine code_seq (fun K67 hK67 => ?_)
                                          refine code_region ?_
                                          refine list_cons rfl (op_q (q_move rfl (by decide)) ?_)
                                          refine list_cons rfl (op_callM (DrawFarCells_c _ ?_) (.tmp 0) 0 [] [.tmp 227] _ rfl rfl (by intro y hy; cases hy) (by decide) (by decide) (by decide) rfl (by intro h; cases h) ?_)
                                          · first | assumption | omega | (simp; omega)
                                          rintro _ _ ⟨a, b, ha, hb, rfl⟩
                                          refine list_cons rfl (op_q (q_move rfl (by decide)) ?_)
                                          refine list_cons rfl (op_q (q_extract rfl rfl (by decide)) ?_)
                                          refine list_cons rfl (op_q (q_extract rfl rfl (by decide)) ?_)
                                          refine list_cons rfl (op_q (q_assign rfl (by decide)) ?_)
                                          refine list_cons rfl (op_q (q_assign rfl (by decide)) ?_)
                                          refine list_nil ?_
                                          refine hK67 _ ?_; clear hK67 K67
                                          refine codeT.imp (σ' := ((0, .ext _) :: (2, .val (.bool _)) :: (3, .val (.int .i64 _)) :: (4, .val (.int .i64 _)) :: (5, .val (.bool _)) :: (6, .val (.int .i64 _)) :: (7, .val (.bool _)) :: (8, .val (.int .i64 _)) :: (9, .val (.int .i64 _)) :: (10, .val (.bool _)) :: (11, .val (.int .i64 _)) :: (12, .val (.bool _)) :: (13, .val (.int .i64 _)) :: (14, .val (.bool _)) :: (15, .val (.int .i64 _)) :: (16, .val (.bool _)) :: (17, .val (.int .i64 _)) :: (18, .val (.bool _)) :: (19, .val (.int .i64 _)) :: (20, .val (.bool _)) :: (21, .val (.int .i64 _)) :: (22, .val (.bool _)) :: (23, .val (.int .i64 _)) :: (24, .val (.bool _)) :: (25, .val (.str _)) :: (26, .val (.bool _)) :: (27, .val (.str _)) :: (28, .val (.bool _)) :: (29, .val (.str _)) :: (30, .val (.int .i64 _)) :: (31, .val (.bool _)) :: (32, .val (.int .i64 _)) :: (33, .val (.bool _)) :: (34, .val (.int .i64 _)) :: (35, .val (.int .i64 _)) :: [])) ?_ (imp_covers ⟨rfl, rfl, rfl, rfl, rfl, rfl, rfl, rfl, rfl, rfl, rfl, rfl, rfl, rfl, rfl, rfl, rfl, rfl, rfl, rfl, rfl, rfl, rfl, rfl, rfl, rfl, rfl, rfl, rfl, rfl, rfl, rfl, rfl, rfl, rfl, trivial⟩)
                                          refine code_seq (fun K68 hK68 => ?_)
                                          refine code_region ?_
                                          refine list_cons rfl (op_q (q_move rfl (by decide)) ?_)
                                          refine list_cons rfl (op_q (q_move rfl (by decide)) ?_)
                                          refine list_cons rfl (op_call _ (impl_FarCells _ _) rfl rfl (by decide) (by decide) (by decide) rfl ?_)
                                          rintro _ rfl
                                          refine list_cons rfl (op_q (q_move rfl (by decide)) ?_)
                                          refine list_cons rfl (op_q (q_extract rfl rfl (by decide)) ?_)
                                          refine list_cons rfl (op_q (q_extract rfl rfl (by decide)) ?_)
                                          refine list_cons rfl (op_q (q_assign rfl (by decide)) ?_)
                                          refine list_cons rfl (op_q (q_assign rfl (by decide)) ?_)
                                          refine list_nil ?_
                                          refine hK68 _ ?_; clear hK68 K68
                                          refine codeT.imp (σ' := ((0, .ext _) :: (2, .val (.bool _)) :: (3, .val (.int .i64 _)) :: (4, .val (.int .i64 _)) :: (5, .val (.bool _)) :: (6, .val (.int .i64 _)) :: (7, .val (.bool _)) :: (8, .val (.int .i64 _)) :: (9, .val (.int .i64 _)) :: (10, .val (.bool _)) :: (11, .val (.int .i64 _)) :: (12, .val (.bool _)) :: (13, .val (.int .i64 _)) :: (14, .val (.bool _)) :: (15, .val (.int .i64 _)) :: (16, .val (.bool _)) :: (17, .val (.int .i64 _)) :: (18, .val (.bool _)) :: (19, .val (.int .i64 _)) :: (20, .val (.bool _)) :: (21, .val (.int .i64 _)) :: (22, .val (.bool _)) :: (23, .val (.int .i64 _)) :: (24, .val (.bool _)) :: (25, .val (.str _)) :: (26, .val (.bool _)) :: (27, .val (.str _)) :: (28, .val (.bool _)) :: (29, .val (.str _)) :: (30, .val (.int .i64 _)) :: (31, .val (.bool _)) :: (32, .val (.int .i64 _)) :: (33, .val (.bool _)) :: (34, .val (.int .i64 _)) :: (35, .val (.int .i64 _)) :: (36, .val (.int .i64 _)) :: (37, .val (.bool _)) :: [])) ?_ (imp_covers ⟨rfl, rfl, rfl, rfl, rfl, rfl, rfl, rfl, rfl, rfl, rfl, rfl, rfl, rfl, rfl, rfl, rfl, rfl, rfl, rfl, rfl, rfl, rfl, rfl, rfl, rfl, rfl, rfl, rfl, rfl, rfl, rfl, rfl, rfl, rfl, rfl, rfl, trivial⟩)
                                          refine code_seq (fun K69 hK69 => ?_)
                                          refine code_seq (fun K70 hK70 => ?_)
                                          refine code_region ?_
                                          refine list_cons rfl (op_q (q_move rfl (by decide)) ?_)
                                          refine list_cons rfl (op_q (q_move rfl (by decide)) ?_)
                                          refine list_cons rfl (op_call _ (spec_FarCells _ _) rfl rfl (by decide) (by decide) (by decide) rfl ?_)
                                          rintro _ rfl
                                          refine list_cons rfl (op_q (q_move rfl (by decide)) ?_)
                                          refine list_cons rfl (op_q (q_extract rfl rfl (by decide)) ?_)
                                          refine list_cons rfl (op_q (q_extract rfl rfl (by decide)) ?_)
                                          refine list_cons rfl (op_q (q_assign rfl (by decide)) ?_)
                                          refine list_cons rfl (op_q (q_assign rfl (by decide)) ?_)
                                          refine list_nil ?_
                                          refine hK70 _ ?_; clear hK70 K70
                                          refine codeT.imp (σ' := ((0, .ext _) :: (2, .val (.bool _)) :: (3, .val (.int .i64 _)) :: (4, .val (.int .i64 _)) :: (5, .val (.bool _)) :: (6, .val (.int .i64 _)) :: (7, .val (.bool _)) :: (8, .val (.int .i64 _)) :: (9, .val (.int .i64 _)) :: (10, .val (.bool _)) :: (11, .val (.int .i64 _)) :: (12, .val (.bool _)) :: (13, .val (.int .i64 _)) :: (14, .val (.bool _)) :: (15, .val (.int .i64 _)) :: (16, .val (.bool _)) :: (17, .val (.int .i64 _)) :: (18, .val (.bool _)) :: (19, .val (.int .i64 _)) :: (20, .val (.bool _)) :: (21, .val (.int .i64 _)) :: (22, .val (.bool _)) :: (23, .val (.int .i64 _)) :: (24, .val (.bool _)) :: (25, .val (.str _)) :: (26, .val (.bool _)) :: (27, .val (.str _)) :: (28, .val (.bool _)) :: (29, .val (.str _)) :: (30, .val (.int .i64 _)) :: (31, .val (.bool _)) :: (32, .val (.int .i64 _)) :: (33, .val (.bool _)) :: (34, .val (.int .i64 _)) :: (35, .val (.int .i64 _)) :: (36, .val (.int .i64 _)) :: (37, .val (.bool _)) :: (38, .val (.int .i64 _)) :: (39, .val (.bool _)) :: [])) ?_ (imp_covers ⟨rfl, rfl, rfl, rfl, rfl, rfl, rfl, rfl, rfl, rfl, rfl, rfl, rfl, rfl, rfl, rfl, rfl, rfl, rfl, rfl, rfl, rfl, rfl, rfl, rfl, rfl, rfl, rfl, rfl, rfl, rfl, rfl, rfl, rfl, rfl, rfl, rfl, rfl, rfl, trivial⟩)
                                          refine code_seq (fun K71 hK71 => ?_)
                                          refine code_region ?_
                                          refine list_cons rfl (op_q (q_move rfl (by decide)) ?_)
                                          refine list_cons rfl (op_q (q_move rfl (by decide)) ?_)
                                          refine list_cons rfl (op_q (q_ne rfl rfl (by decide)) ?_)
                                          refine list_cons rfl (op_q (q_move rfl (by decide)) ?_)
                                          refine list_guard_d rfl rfl rfl rfl (by decide) rfl (by decide) (fun h47 => ?_) (fun h47 => ?_)
                                          · simp only [Bool.false_eq_true, if_true, if_false, Decidable.not_not] at h47
                                            refine id (op_q (q_move rfl (by decide)) ?_)
                                            refine list_guard_y rfl rfl rfl rfl (by decide) rfl ?_
                                            refine id (op_q (q_move rfl (by decide)) ?_)
                                            refine list_guard_y rfl rfl rfl rfl (by decide) rfl ?_
                                            refine id (op_q (q_bne Tryd.underlying4 rfl rfl (by decide)) ?_)
                                            refine list_cons rfl (op_q (q_pick rfl rfl (by decide)) ?_)
                                            refine list_nil ?_
                                            refine hK71 _ ?_; clear hK71 K71
                                            refine codeT.imp (σ' := ((0, .ext _) :: (2, .val (.bool _)) :: (3, .val (.int .i64 _)) :: (4, .val (.int .i64 _)) :: (5, .val (.bool _)) :: (6, .val (.int .i64 _)) :: (7, .val (.bool _)) :: (8, .val (.int .i64 _)) :: (9, .val (.int .i64 _)) :: (10, .val (.bool _)) :: (11, .val (.int .i64 _)) :: (12, .val (.bool _)) :: (13, .val (.int .i64 _)) :: (14, .val (.bool _)) :: (15, .val (.int .i64 _)) :: (16, .val (.bool _)) :: (17, .val (.int .i64 _)) :: (18, .val (.bool _)) :: (19, .val (.int .i64 _)) :: (20, .val (.bool _)) :: (21, .val (.int .i64 _)) :: (22, .val (.bool _)) :: (23, .val (.int .i64 _)) :: (24, .val (.bool _)) :: (25, .val (.str _)) :: (26, .val (.bool _)) :: (27, .val (.str _)) :: (28, .val (.bool _)) :: (29, .val (.str _)) :: (30, .val (.int .i64 _)) :: (31, .val (.bool _)) :: (32, .val (.int .i64 _)) :: (33, .val (.bool _)) :: (34, .val (.int .i64 _)) :: (35, .val (.int .i64 _)) :: (36, .val (.int .i64 _)) :: (37, .val (.bool _)) :: (38, .val (.int .i64 _)) :: (39, .val (.bool _)) :: (250, .val (.bool _)) :: [])) ?_ (imp_covers ⟨rfl, rfl, rfl, rfl, rfl, rfl, rfl, rfl, rfl, rfl, rfl, rfl, rfl, rfl, rfl, rfl, rfl, rfl, rfl, rfl, rfl, rfl, rfl, rfl, rfl, rfl, rfl, rfl, rfl, rfl, rfl, rfl, rfl, rfl, rfl, rfl, rfl, rfl, rfl, rfl, trivial⟩)
                                            refine code_cond_d rfl (fun h48 => ?_) (fun h48 => ?_)
                                            · skip
                                              (try simp only [Decidable.not_not] at h48)
                                              exfalso
                                              first | exact absurd rfl h48 | exact h48 trivial | (simp at h48; done)
                                            · skip
                                              (try simp only [Decidable.not_not] at h48)
                                              refine code_skip ?_
                                              refine hK69 _ ?_; clear hK69 K69
                                              refine codeT.imp (σ' := [(2, .val (.bool _)), (3, .val (.int .i64 _)), (4, .val (.int .i64 _)), (5, .val (.bool _)), (8, .val (.int .i64 _)), (9, .val (.int .i64 _)), (10, .val (.bool _)), (13, .val (.int .i64 _)), (25, .val (.str _)), (29, .val (.str _)), (30, .val (.int .i64 _)), (31, .val (.bool _)), (34, .val (.int .i64 _)), (35, .val (.int .i64 _)), (36, .val (.int .i64 _)), (37, .val (.bool _))]) ?_ (imp_covers ⟨rfl, rfl, rfl, rfl, rfl, rfl, rfl, rfl, rfl, rfl, rfl, rfl, rfl, rfl, rfl, rfl, trivial⟩)
                                              refine code_seq_same ?_ ?_
                                              · skip
                                                refine code_seq (fun K72 hK72 => ?_)
                                                refine code_region ?_
                                                refine list_cons rfl (op_q (q_move rfl (by decide)) ?_)
                                                refine list_nil ?_
                                                refine hK72 _ ?_; clear hK72 K72
                                                refine code_cond_d rfl (fun h49 => ?_) (fun h49 => ?_)
                                                · skip
                                                  (try simp only [Decidable.not_not] at h49)
                                                  refine code_seq (fun K73 hK73 => ?_)
                                                  refine code_region ?_
                                                  refine list_cons rfl (op_q (q_move rfl (by decide)) ?_)
                                                  refine list_cons rfl (op_call _ (impl_TurnCell _) rfl rfl (by decide) (by decide) (by decide) rfl ?_)
                                                  rintro _ rfl
                                                  refine list_cons rfl (op_q (q_move rfl (by decide)) ?_)
                                                  refine list_cons rfl (op_q (q_extract rfl rfl (by decide)) ?_)
                                                  refine list_cons rfl (op_q (q_extract rfl rfl (by decide)) ?_)
                                                  refine list_cons rfl (op_q (q_assign rfl (by decide)) ?_)
                                                  refine list_cons rfl (op_q (q_assign rfl (by decide)) ?_)
                                                  refine list_nil ?_
                                                  refine hK73 _ ?_; clear hK73 K73
                                                  refine codeT.imp (σ' := [(2, .val (.bool _)), (3, .val (.int .i64 _)), (4, .val (.int .i64 _)), (5, .val (.bool _)), (8, .val (.int .i64 _)), (9, .val (.int .i64 _)), (10, .val (.bool _)), (13, .val (.int .i64 _)), (25, .val (.str _)), (29, .val (.str _)), (30, .val (.int .i64 _)), (31, .val (.bool _)), (34, .val (.int .i64 _)), (35, .val (.int .i64 _)), (36, .val (.int .i64 _)), (37, .val (.bool _)), (40, .val (.int .i64 _)), (41, .val (.bool _))]) ?_ (imp_covers ⟨rfl, rfl, rfl, rfl, rfl, rfl, rfl, rfl, rfl, rfl, rfl, rfl, rfl, rfl, rfl, rfl, rfl, rfl, trivial⟩)
                                                  refine code_seq (fun K74 hK74 => ?_)
                                                  refine code_region ?_
                                                  refine list_cons rfl (op_q (q_move rfl (by decide)) ?_)
                                                  refine list_cons rfl (op_call _ (impl_TurnCell _) rfl rfl (by decide) (by decide) (by decide) rfl ?_)
                                                  rintro _ rfl
                                                  refine list_cons rfl (op_q (q_move rfl (by decide)) ?_)
                                                  refine list_cons rfl (op_q (q_extract rfl rfl (by decide)) ?_)
                                                  refine list_cons rfl (op_q (q_extract rfl rfl (by decide)) ?_)
                                                  refine list_cons rfl (op_q (q_assign rfl (by decide)) ?_)
                                                  refine list_cons rfl (op_q (q_assign rfl (by decide)) ?_)
                                                  refine list_nil ?_
                                                  refine hK74 _ ?_; clear hK74 K74
                                                  refine codeT.imp (σ' := [(2, .val (.bool _)), (3, .val (.int .i64 _)), (4, .val (.int .i64 _)), (5, .val (.bool _)), (8, .val (.int .i64 _)), (9, .val (.int .i64 _)), (10, .val (.bool _)), (13, .val (.int .i64 _)), (25, .val (.str _)), (29, .val (.str _)), (30, .val (.int .i64 _)), (31, .val (.bool _)), (34, .val (.int .i64 _)), (35, .val (.int .i64 _)), (36, .val (.int .i64 _)), (37, .val (.bool _)), (40, .val (.int .i64 _)), (41, .val (.bool _)), (42, .val (.int .i64 _)), (43, .val (.bool _))]) ?_ (imp_covers ⟨rfl, rfl, rfl, rfl, rfl, rfl, rfl, rfl, rfl, rfl, rfl, rfl, rfl, rfl, rfl, rfl, rfl, rfl, rfl, rfl, trivial⟩)
                                                  refine code_seq (fun K75 hK75 => ?_)
                                                  refine code_region ?_
                                                  refine list_cons rfl (op_q (q_move rfl (by decide)) ?_)
                                                  refine list_cons rfl (op_q (q_move rfl (by decide)) ?_)
                                                  refine list_cons rfl (op_call _ (impl_FarCells _ _) rfl rfl (by decide) (by decide) (by decide) rfl ?_)
                                                  rintro _ rfl
                                                  refine list_cons rfl (op_q (q_move rfl (by decide)) ?_)
                                                  refine list_cons rfl (op_q (q_extract rfl rfl (by decide)) ?_)
                                                  refine list_cons rfl (op_q (q_extract rfl rfl (by decide)) ?_)
                                                  refine list_cons rfl (op_q (q_assign rfl (by decide)) ?_)
                                                  refine list_cons rfl (op_q (q_assign rfl (by decide)) ?_)
                                                  refine list_nil ?_
                                                  refine hK75 _ ?_; clear hK75 K75
                                                  refine codeT.imp (σ' := [(2, .val (.bool _)), (3, .val (.int .i64 _)), (4, .val (.int .i64 _)), (5, .val (.bool _)), (8, .val (.int .i64 _)), (9, .val (.int .i64 _)), (10, .val (.bool _)), (13, .val (.int .i64 _)), (25, .val (.str _)), (29, .val (.str _)), (30, .val (.int .i64 _)), (31, .val (.bool _)), (34, .val (.int .i64 _)), (35, .val (.int .i64 _)), (36, .val (.int .i64 _)), (37, .val (.bool _)), (40, .val (.int .i64 _)), (41, .val (.bool _)), (42, .val (.int .i64 _)), (43, .val (.bool _)), (44, .val (.int .i64 _)), (45, .val (.bool _))]) ?_ (imp_covers ⟨rfl, rfl, rfl, rfl, rfl, rfl, rfl, rfl, rfl, rfl, rfl, rfl, rfl, rfl, rfl, rfl, rfl, rfl, rfl, rfl, rfl, rfl, trivial⟩)
                                                  refine code_seq (fun K76 hK76 => ?_)
                                                  refine code_region ?_
                                                  refine list_cons rfl (op_q (q_move rfl (by decide)) ?_)
                                                  refine list_cons rfl (op_call _ (impl_MirrorCell _) rfl rfl (by decide) (by decide) (by decide) rfl ?_)
                                                  rintro _ rfl
                                                  refine list_cons rfl (op_q (q_move rfl (by decide)) ?_)
                                                  refine list_cons rfl (op_q (q_extract rfl rfl (by decide)) ?_)
                                                  refine list_cons rfl (op_q (q_extract rfl rfl (by decide)) ?_)
                                                  refine list_cons rfl (op_q (q_assign rfl (by decide)) ?_)
                                                  refine list_cons rfl (op_q (q_assign rfl (by decide)) ?_)
                                                  refine list_nil ?_
                                                  refine hK76 _ ?_; clear hK76 K76
                                                  refine codeT.imp (σ' := [(2, .val (.bool _)), (3, .val (.int .i64 _)), (4, .val (.int .i64 _)), (5, .val (.bool _)), (8, .val (.int .i64 _)), (9, .val (.int .i64 _)), (10, .val (.bool _)), (13, .val (.int .i64 _)), (25, .val (.str _)), (29, .val (.str _)), (30, .val (.int .i64 _)), (31, .val (.bool _)), (34, .val (.int .i64 _)), (35, .val (.int .i64 _)), (36, .val (.int .i64 _)), (37, .val (.bool _)), (40, .val (.int .i64 _)), (41, .val (.bool _)), (42, .val (.int .i64 _)), (43, .val (.bool _)), (44, .val (.int .i64 _)), (45, .val (.bool _)), (46, .val (.int .i64 _)), (47, .val (.bool _))]) ?_ (imp_covers ⟨rfl, rfl, rfl, rfl, rfl, rfl, rfl, rfl, rfl, rfl, rfl, rfl, rfl, rfl, rfl, rfl, rfl, rfl, rfl, rfl, rfl, rfl, rfl, rfl, trivial⟩)
                                                  refine code_seq (fun K77 hK77 => ?_)
                                                  refine code_region ?_
                                                  refine list_cons rfl (op_q (q_move rfl (by decide)) ?_)
                                                  refine list_cons rfl (op_call _ (impl_MirrorCell _) rfl rfl (by decide) (by decide) (by decide) rfl ?_)
                                                  rintro _ rfl
                                                  refine list_cons rfl (op_q (q_move rfl (by decide)) ?_)
                                                  refine list_cons rfl (op_q (q_extract rfl rfl (by decide)) ?_)
                                                  refine list_cons rfl (op_q (q_extract rfl rfl (by decide)) ?_)
                                                  refine list_cons rfl (op_q (q_assign rfl (by decide)) ?_)
                                                  refine list_cons rfl (op_q (q_assign rfl (by decide)) ?_)
                                                  refine list_nil ?_
                                                  refine hK77 _ ?_; clear hK77 K77
                                                  refine codeT.imp (σ' := [(2, .val (.bool _)), (3, .val (.int .i64 _)), (4, .val (.int .i64 _)), (5, .val (.bool _)), (8, .val (.int .i64 _)), (9, .val (.int .i64 _)), (10, .val (.bool _)), (13, .val (.int .i64 _)), (25, .val (.str _)), (29, .val (.str _)), (30, .val (.int .i64 _)), (31, .val (.bool _)), (34, .val (.int .i64 _)), (35, .val (.int .i64 _)), (36, .val (.int .i64 _)), (37, .val (.bool _)), (40, .val (.int .i64 _)), (41, .val (.bool _)), (42, .val (.int .i64 _)), (43, .val (.bool _)), (44, .val (.int .i64 _)), (45, .val (.bool _)), (46, .val (.int .i64 _)), (47, .val (.bool _)), (48, .val (.int .i64 _)), (49, .val (.bool _))]) ?_ (imp_covers ⟨rfl, rfl, rfl, rfl, rfl, rfl, rfl, rfl, rfl, rfl, rfl, rfl, rfl, rfl, rfl, rfl, rfl, rfl, rfl, rfl, rfl, rfl, rfl, rfl, rfl, rfl, trivial⟩)
                                                  refine code_seq (fun K78 hK78 => ?_)
                                                  refine code_region ?_
                                                  refine list_cons rfl (op_q (q_move rfl (by decide)) ?_)
                                                  refine list_cons rfl (op_q (q_move rfl (by decide)) ?_)
                                                  refine list_cons rfl (op_call _ (impl_FarCells _ _) rfl rfl (by decide) (by decide) (by decide) rfl ?_)
                                                  rintro _ rfl
                                                  refine list_cons rfl (op_q (q_move rfl (by decide)) ?_)
                                                  refine list_cons rfl (op_q (q_extract rfl rfl (by decide)) ?_)
                                                  refine list_cons rfl (op_q (q_extract rfl rfl (by decide)) ?_)
                                                  refine list_cons rfl (op_q (q_assign rfl (by decide)) ?_)
                                                  refine list_cons rfl (op_q (q_assign rfl (by decide)) ?_)
                                                  refine list_nil ?_
                                                  refine hK78 _ ?_; clear hK78 K78
                                                  refine codeT.imp (σ' := [(2, .val (.bool _)), (3, .val (.int .i64 _)), (4, .val (.int .i64 _)), (5, .val (.bool _)), (8, .val (.int .i64 _)), (9, .val (.int .i64 _)), (10, .val (.bool _)), (13, .val (.int .i64 _)), (25, .val (.str _)), (29, .val (.str _)), (30, .val (.int .i64 _)), (31, .val (.bool _)), (34, .val (.int .i64 _)), (35, .val (.int .i64 _)), (36, .val (.int .i64 _)), (37, .val (.bool _)), (40, .val (.int .i64 _)), (41, .val (.bool _)), (42, .val (.int .i64 _)), (43, .val (.bool _)), (44, .val (.int .i64 _)), (45, .val (.bool _)), (46, .val (.int .i64 _)), (47, .val (.bool _)), (48, .val (.int .i64 _)), (49, .val (.bool _)), (50, .val (.int .i64 _)), (51, .val (.bool _))]) ?_ (imp_covers ⟨rfl, rfl, rfl, rfl, rfl, rfl, rfl, rfl, rfl, rfl, rfl, rfl, rfl, rfl, rfl, rfl, rfl, rfl, rfl, rfl, rfl, rfl, rfl, rfl, rfl, rfl, rfl, rfl, trivial⟩)
                                                  refine code_seq (fun K79 hK79 => ?_)
                                                  refine code_region ?_
                                                  refine list_cons rfl (op_q (q_move rfl (by decide)) ?_)
                                                  refine list_cons rfl (op_q (by first | exact q_notd rfl (by decide) | exact q_not rfl (by decide)) ?_)
                                                  refine list_cons rfl (op_q (q_move rfl (by decide)) ?_)
                                                  refine list_guard_d rfl rfl rfl rfl (by decide) rfl (by decide) (fun h50 => ?_) (fun h50 => ?_)
                                                  · simp only [Bool.false_eq_true, if_true, if_false, Decidable.not_not] at h50
                                                    refine id (op_q (q_move rfl (by decide)) ?_)
                                                    refine list_guard_y rfl rfl rfl rfl (by decide) rfl ?_
                                                    refine id (op_q (by first | exact q_notd rfl (by decide) | exact q_not rfl (by decide)) ?_)
                                                    refine list_cons rfl (op_q (q_pick rfl rfl (by decide)) ?_)
                                                    refine list_cons rfl (op_q (q_move rfl (by decide)) ?_)
                                                    refine list_guard_d rfl rfl rfl rfl (by decide) rfl (by decide) (fun h51 => ?_) (fun h51 => ?_)
                                                    · simp only [Bool.false_eq_true, if_true, if_false, Decidable.not_not] at h51
                                                      refine id (op_q (q_move rfl (by decide)) ?_)
                                                      refine list_guard_y rfl rfl rfl rfl (by decide) rfl ?_
                                                      refine id (op_q (by first | exact q_notd rfl (by decide) | exact q_not rfl (by decide)) ?_)
                                                      refine list_cons rfl (op_q (q_pick rfl rfl (by decide)) ?_)
                                                      refine list_cons rfl (op_q (q_move rfl (by decide)) ?_)
                                                      refine list_guard_d rfl rfl rfl rfl (by decide) rfl (by decide) (fun h52 => ?_) (fun h52 => ?_)
                                                      · simp only [Bool.false_eq_true, if_true, if_false, Decidable.not_not] at h52
                                                        refine id (op_q (q_move rfl (by decide)) ?_)
                                                        refine list_guard_y rfl rfl rfl rfl (by decide) rfl ?_
                                                        refine id (op_q (by first | exact q_notd rfl (by decide) | exact q_not rfl (by decide)) ?_)
                                                        refine list_cons rfl (op_q (q_pick rfl rfl (by decide)) ?_)
                                                        refine list_cons rfl (op_q (q_move rfl (by decide)) ?_)
                                                        refine list_guard_d rfl rfl rfl rfl (by decide) rfl (by decide) (fun h53 => ?_) (fun h53 => ?_)
                                                        · simp only [Bool.false_eq_true, if_true, if_false, Decidable.not_not] at h53
                                                          refine id (op_q (q_move rfl (by decide)) ?_)
                                                          refine list_guard_y rfl rfl rfl rfl (by decide) rfl ?_
                                                          refine id (op_q (by first | exact q_notd rfl (by decide) | exact q_not rfl (by decide)) ?_)
                                                          refine list_cons rfl (op_q (q_pick rfl rfl (by decide)) ?_)
                                                          refine list_cons rfl (op_q (q_move rfl (by decide)) ?_)
                                                          refine list_guard_d rfl rfl rfl rfl (by decide) rfl (by decide) (fun h54 => ?_) (fun h54 => ?_)
                                                          · simp only [Bool.false_eq_true, if_true, if_false, Decidable.not_not] at h54
                                                            refine id (op_q (q_move rfl (by decide)) ?_)
                                                            refine list_guard_y rfl rfl rfl rfl (by decide) rfl ?_
                                                            refine id (op_q (by first | exact q_notd rfl (by decide) | exact q_not rfl (by decide)) ?_)
                                                            refine list_cons rfl (op_q (q_pick rfl rfl (by decide)) ?_)
                                                            refine list_cons rfl (op_q (q_move rfl (by decide)) ?_)
                                                            refine list_guard_d rfl rfl rfl rfl (by decide) rfl (by decide) (fun h55 => ?_) (fun h55 => ?_)
                                                            · simp only [Bool.false_eq_true, if_true, if_false, Decidable.not_not] at h55
                                                              refine id (op_q (q_move rfl (by decide)) ?_)
                                                              refine list_guard_y rfl rfl rfl rfl (by decide) rfl ?_
                                                              refine id (op_q (q_move rfl (by decide)) ?_)
                                                              refine list_guard_y rfl rfl rfl rfl (by decide) rfl ?_
                                                              refine id (op_q (q_ne rfl rfl (by decide)) ?_)
                                                              refine list_cons rfl (op_q (q_pick rfl rfl (by decide)) ?_)
                                                              refine list_cons rfl (op_q (q_move rfl (by decide)) ?_)
                                                              refine list_guard_d rfl rfl rfl rfl (by decide) rfl (by decide) (fun h56 => ?_) (fun h56 => ?_)
                                                              · simp only [Bool.false_eq_true, if_true, if_false, Decidable.not_not] at h56
                                                                refine id (op_q (q_move rfl (by decide)) ?_)
                                                                refine list_guard_y rfl rfl rfl rfl (by decide) rfl ?_
                                                                refine id (op_q (q_move rfl (by decide)) ?_)
                                                                refine list_guard_y rfl rfl rfl rfl (by decide) rfl ?_
                                                                refine id (op_q (q_ne rfl rfl (by decide)) ?_)
                                                                refine list_cons rfl (op_q (q_pick rfl rfl (by decide)) ?_)
                                                                refine list_nil ?_
                                                                refine hK79 _ ?_; clear hK79 K79
                                                                refine codeT.imp (σ' := [(2, .val (.bool _)), (3, .val (.int .i64 _)), (4, .val (.int .i64 _)), (5, .val (.bool _)), (8, .val (.int .i64 _)), (9, .val (.int .i64 _)), (10, .val (.bool _)), (13, .val (.int .i64 _)), (25, .val (.str _)), (29, .val (.str _)), (30, .val (.int .i64 _)), (31, .val (.bool _)), (34, .val (.int .i64 _)), (35, .val (.int .i64 _)), (36, .val (.int .i64 _)), (37, .val (.bool _)), (40, .val (.int .i64 _)), (41, .val (.bool _)), (42, .val (.int .i64 _)), (43, .val (.bool _)), (44, .val (.int .i64 _)), (45, .val (.bool _)), (46, .val (.int .i64 _)), (47, .val (.bool _)), (48, .val (.int .i64 _)), (49, .val (.bool _)), (50, .val (.int .i64 _)), (51, .val (.bool _)), (315, .val (.bool _))]) ?_ (imp_covers ⟨rfl, rfl, rfl, rfl, rfl, rfl, rfl, rfl, rfl, rfl, rfl, rfl, rfl, rfl, rfl, rfl, rfl, rfl, rfl, rfl, rfl, rfl, rfl, rfl, rfl, rfl, rfl, rfl, rfl, trivial⟩)
                                                                refine code_cond_d rfl (fun h57 => ?_) (fun h57 => ?_)
                                                                · skip
                                                                  (try simp only [Decidable.not_not] at h57)
                                                                  exfalso
                                                                  have k : (0 ≤ a ∧ a ≤ 127) ∧ (0 ≤ b ∧ b ≤ 127) := by assumption
                                                                  exact h57 (far_mirI k)
                                                                · skip
                                                                  (try simp only [Decidable.not_not] at h57)
                                                                  refine code_skip ?_
                                                                  exact then_n (imp_covers ⟨rfl, rfl, rfl, rfl, rfl, rfl, rfl, rfl, rfl, rfl, rfl, rfl, rfl, rfl, rfl, rfl, trivial⟩)
                                                              · simp only [Bool.false_eq_true, if_true, if_false, Decidable.not_not] at h56
                                                                exfalso
                                                                have k : (0 ≤ a ∧ a ≤ 127) ∧ (0 ≤ b ∧ b ≤ 127) := by assumption
                                                                exact h56 (far_turnI k)
                                                            · simp only [Bool.false_eq_true, if_true, if_false, Decidable.not_not] at h55
                                                              exfalso
                                                              have k : (0 ≤ a ∧ a ≤ 127) ∧ (0 ≤ b ∧ b ≤ 127) := by assumption
                                                              exact h55 ⟨⟨(cM a).1, (cM a).2⟩, (cM b).1, (cM b).2⟩
                                                          · simp only [Bool.false_eq_true, if_true, if_false, Decidable.not_not] at h54
                                                            exfalso
                                                            have k : (0 ≤ a ∧ a ≤ 127) ∧ (0 ≤ b ∧ b ≤ 127) := by assumption
                                                            exact h54 k.2
                                                        · simp only [Bool.false_eq_true, if_true, if_false, Decidable.not_not] at h53
                                                          exfalso
                                                          have k : (0 ≤ a ∧ a ≤ 127) ∧ (0 ≤ b ∧ b ≤ 127) := by assumption
                                                          exact h53 k.1
                                                      · simp only [Bool.false_eq_true, if_true, if_false, Decidable.not_not] at h52
                                                        exfalso
                                                        have k : (0 ≤ a ∧ a ≤ 127) ∧ (0 ≤ b ∧ b ≤ 127) := by assumption
                                                        exact h52 ⟨⟨(cT a).1, (cT a).2⟩, (cT b).1, (cT b).2⟩
                                                    · simp only [Bool.false_eq_true, if_true, if_false, Decidable.not_not] at h51
                                                      exfalso
                                                      have k : (0 ≤ a ∧ a ≤ 127) ∧ (0 ≤ b ∧ b ≤ 127) := by assumption
                                                      exact h51 k.2
                                                  · simp only [Bool.false_eq_true, if_true, if_false, Decidable.not_not] at h50
                                                    exfalso
                                                    have k : (0 ≤ a ∧ a ≤ 127) ∧ (0 ≤ b ∧ b ≤ 127) := by assumption
                                                    exact h50 k.1
                                                · skip
                                                  (try simp only [Decidable.not_not] at h49)
                                                  refine code_skip ?_
                                                  exact then_n (imp_covers ⟨rfl, rfl, rfl, rfl, rfl, rfl, rfl, rfl, rfl, rfl, rfl, rfl, rfl, rfl, rfl, rfl, trivial⟩)
                                              · skip
                                                refine codeT.imp (σ' := [(2, .val (.bool _)), (3, .val (.int .i64 _)), (4, .val (.int .i64 _)), (5, .val (.bool _)), (8, .val (.int .i64 _)), (9, .val (.int .i64 _)), (10, .val (.bool _)), (13, .val (.int .i64 _)), (25, .val (.str _)), (29, .val (.str _)), (30, .val (.int .i64 _)), (31, .val (.bool _))]) ?_ (imp_covers ⟨rfl, rfl, rfl, rfl, rfl, rfl, rfl, rfl, rfl, rfl, rfl, rfl, trivial⟩)
                                                refine code_seq_same ?_ ?_
                                                · skip
                                                  refine code_seq (fun K80 hK80 => ?_)
                                                  refine code_region ?_
                                                  refine list_cons rfl (op_q (q_move rfl (by decide)) ?_)
                                                  refine list_nil ?_
                                                  refine hK80 _ ?_; clear hK80 K80
                                                  refine code_cond_d rfl (fun h58 => ?_) (fun h58 => ?_)
                                                  · skip
                                                    (try simp only [Decidable.not_not] at h58)
                                                    refine code_seq (fun K81 hK81 => ?_)
                                                    refine code_region ?_
                                                    refine list_cons rfl (op_q (q_move rfl (by decide)) ?_)
                                                    refine list_cons rfl (op_call _ (impl_BarsOf _) rfl rfl (by decide) (by decide) (by decide) rfl ?_)
                                                    rintro _ rfl
                                                    refine list_cons rfl (op_q (q_move rfl (by decide)) ?_)
                                                    refine list_cons rfl (op_q (q_extract rfl rfl (by decide)) ?_)
                                                    refine list_cons rfl (op_q (q_extract rfl rfl (by decide)) ?_)
                                                    refine list_cons rfl (op_q (q_assign rfl (by decide)) ?_)
                                                    refine list_cons rfl (op_q (q_assign rfl (by decide)) ?_)
                                                    refine list_nil ?_
                                                    refine hK81 _ ?_; clear hK81 K81
                                                    refine codeT.imp (σ' := [(2, .val (.bool _)), (3, .val (.int .i64 _)), (4, .val (.int .i64 _)), (5, .val (.bool _)), (8, .val (.int .i64 _)), (9, .val (.int .i64 _)), (10, .val (.bool _)), (13, .val (.int .i64 _)), (25, .val (.str _)), (29, .val (.str _)), (30, .val (.int .i64 _)), (31, .val (.bool _)), (52, .val (.str _)), (53, .val (.bool _))]) ?_ (imp_covers ⟨rfl, rfl, rfl, rfl, rfl, rfl, rfl, rfl, rfl, rfl, rfl, rfl, rfl, rfl, trivial⟩)
                                                    refine code_seq (fun K82 hK82 => ?_)
                                                    refine code_region ?_
                                                    refine list_cons rfl (op_q (q_move rfl (by decide)) ?_)
                                                    refine list_cons rfl (op_q (by first | exact q_notd rfl (by decide) | exact q_not rfl (by decide)) ?_)
                                                    refine list_cons rfl (op_q (q_move rfl (by decide)) ?_)
                                                    refine list_guard_d rfl rfl rfl rfl (by decide) rfl (by decide) (fun h59 => ?_) (fun h59 => ?_)
                                                    · simp only [Bool.false_eq_true, if_true, if_false, Decidable.not_not] at h59
                                                      refine id (op_q (q_move rfl (by decide)) ?_)
                                                      refine list_guard_y rfl rfl rfl rfl (by decide) rfl ?_
                                                      refine id (op_q (q_move rfl (by decide)) ?_)
                                                      refine list_guard_y rfl rfl rfl rfl (by decide) rfl ?_
                                                      refine id (op_q (q_sne rfl rfl (by decide)) ?_)
                                                      refine list_cons rfl (op_q (q_pick rfl rfl (by decide)) ?_)
                                                      refine list_nil ?_
                                                      refine hK82 _ ?_; clear hK82 K82
                                                      refine code_cond_d rfl (fun h60 => ?_) (fun h60 => ?_)
                                                      · skip
                                                        (try simp only [Decidable.not_not] at h60)
                                                        exfalso
                                                        exact h60 (bars_read (by assumption))
                                                      · skip
                                                        (try simp only [Decidable.not_not] at h60)
                                                        refine code_skip ?_
                                                        exact then_n (imp_covers ⟨rfl, rfl, rfl, rfl, rfl, rfl, rfl, rfl, rfl, rfl, rfl, rfl, trivial⟩)
                                                    · simp only [Bool.false_eq_true, if_true, if_false, Decidable.not_not] at h59
                                                      exfalso
                                                      exact h59 (cR s)
                                                  · skip
                                                    (try simp only [Decidable.not_not] at h58)
                                                    refine code_skip ?_
                                                    exact then_n (imp_covers ⟨rfl, rfl, rfl, rfl, rfl, rfl, rfl, rfl, rfl, rfl, rfl, rfl, trivial⟩)
                                                · skip
                                                  refine codeT.imp (σ' := [(2, .val (.bool _)), (3, .val (.int .i64 _)), (4, .val (.int .i64 _)), (5, .val (.bool _)), (8, .val (.int .i64 _)), (9, .val (.int .i64 _)), (10, .val (.bool _)), (13, .val (.int .i64 _)), (25, .val (.str _))]) ?_ (imp_covers ⟨rfl, rfl, rfl, rfl, rfl, rfl, rfl, rfl, rfl, trivial⟩)
                                                  refine code_seq_same ?_ ?_
                                                  · skip
                                                    refine code_seq (fun K83 hK83 => ?_)
                                                    refine code_region ?_
                                                    refine list_cons rfl (op_q (q_move rfl (by decide)) ?_)
                                                    refine list_nil ?_
                                                    refine hK83 _ ?_; clear hK83 K83
                                                    refine code_cond_d rfl (fun h61 => ?_) (fun h61 => ?_)
                                                    · skip
                                                      (try simp only [Decidable.not_not] at h61)
                                                      refine code_seq (fun K84 hK84 => ?_)
                                                      refine code_region ?_
                                                      refine list_cons rfl (op_q (q_move rfl (by decide)) ?_)
                                                      refine list_cons rfl (op_call _ (impl_DigitOf _) rfl rfl (by decide) (by decide) (by decide) rfl ?_)
                                                      rintro _ rfl
                                                      refine list_cons rfl (op_q (q_move rfl (by decide)) ?_)
                                                      refine list_cons rfl (op_q (q_extract rfl rfl (by decide)) ?_)
                                                      refine list_cons rfl (op_q (q_extract rfl rfl (by decide)) ?_)
                                                      refine list_cons rfl (op_q (q_assign rfl (by decide)) ?_)
                                                      refine list_cons rfl (op_q (q_assign rfl (by decide)) ?_)
                                                      refine list_nil ?_
                                                      refine hK84 _ ?_; clear hK84 K84
                                                      refine codeT.imp (σ' := [(2, .val (.bool _)), (3, .val (.int .i64 _)), (4, .val (.int .i64 _)), (5, .val (.bool _)), (8, .val (.int .i64 _)), (9, .val (.int .i64 _)), (10, .val (.bool _)), (13, .val (.int .i64 _)), (25, .val (.str _)), (54, .val (.int .i64 _)), (55, .val (.bool _))]) ?_ (imp_covers ⟨rfl, rfl, rfl, rfl, rfl, rfl, rfl, rfl, rfl, rfl, rfl, trivial⟩)
                                                      refine code_seq (fun K85 hK85 => ?_)
                                                      refine code_region ?_
                                                      refine list_cons rfl (op_q (q_move rfl (by decide)) ?_)
                                                      refine list_cons rfl (op_q (by first | exact q_notd rfl (by decide) | exact q_not rfl (by decide)) ?_)
                                                      refine list_cons rfl (op_q (q_move rfl (by decide)) ?_)
                                                      refine list_guard_d rfl rfl rfl rfl (by decide) rfl (by decide) (fun h62 => ?_) (fun h62 => ?_)
                                                      · simp only [Bool.false_eq_true, if_true, if_false, Decidable.not_not] at h62
                                                        refine id (op_q (q_move rfl (by decide)) ?_)
                                                        refine list_guard_y rfl rfl rfl rfl (by decide) rfl ?_
                                                        refine id (op_q (q_move rfl (by decide)) ?_)
                                                        refine list_guard_y rfl rfl rfl rfl (by decide) rfl ?_
                                                        refine id (op_q (q_ne rfl rfl (by decide)) ?_)
                                                        refine list_cons rfl (op_q (q_pick rfl rfl (by decide)) ?_)
                                                        refine list_nil ?_
                                                        refine hK85 _ ?_; clear hK85 K85
                                                        refine code_cond_d rfl (fun h63 => ?_) (fun h63 => ?_)
                                                        · skip
                                                          (try simp only [Decidable.not_not] at h63)
                                                          exfalso
                                                          rw [dig_cell (d := d) (by assumption)] at h63; split at h63 <;> omega
                                                        · skip
                                                          (try simp only [Decidable.not_not] at h63)
                                                          refine code_skip ?_
                                                          exact then_n (imp_covers ⟨rfl, rfl, rfl, rfl, rfl, rfl, rfl, rfl, rfl, trivial⟩)
                                                      · simp only [Bool.false_eq_true, if_true, if_false, Decidable.not_not] at h62
                                                        exfalso
                                                        rw [dig_cell (d := d) (by assumption)] at h62; omega
                                                    · skip
                                                      (try simp only [Decidable.not_not] at h61)
                                                      refine code_skip ?_
                                                      exact then_n (imp_covers ⟨rfl, rfl, rfl, rfl, rfl, rfl, rfl, rfl, rfl, trivial⟩)
                                                  · skip
                                                    refine code_seq (fun K86 hK86 => ?_)
                                                    refine code_seq (fun K87 hK87 => ?_)
                                                    refine code_region ?_
                                                    refine list_cons rfl (op_q (q_move rfl (by decide)) ?_)
                                                    refine list_cons rfl (op_q (by first | exact q_notd rfl (by decide) | exact q_not rfl (by decide)) ?_)
                                                    refine list_nil ?_
                                                    refine hK87 _ ?_; clear hK87 K87
                                                    refine code_cond_d rfl (fun h64 => ?_) (fun h64 => ?_)
                                                    · skip
                                                      (try simp only [Decidable.not_not] at h64)
                                                      refine code_seq (fun K88 hK88 => ?_)
                                                      refine code_region ?_
                                                      refine list_cons rfl (op_q (q_assign rfl (by decide)) ?_)
                                                      refine list_nil ?_
                                                      refine hK88 _ ?_; clear hK88 K88
                                                      refine code_ret ?_
                                                      refine then_r ?_; clear hK86 K86
                                                      refine ends_ret (cs := []) rfl rfl rfl rfl trivial ?_
                                                      first
                                                      | (have k : 0 ≤ c ∧ c ≤ 127 := by assumption
                                                         rw [decide_eq_true (parse_own k)])
                                                      | rfl
                                                    · skip
                                                      (try simp only [Decidable.not_not] at h64)
                                                      refine code_skip ?_
                                                      refine hK86 _ ?_; clear hK86 K86
                                                      refine code_seq (fun K89 hK89 => ?_)
                                                      refine code_region ?_
                                                      refine list_cons rfl (op_q (q_move rfl (by decide)) ?_)
                                                      refine list_cons rfl (op_call _ (impl_TurnCell _) rfl rfl (by decide) (by decide) (by decide) rfl ?_)
                                                      rintro _ rfl
                                                      refine list_cons rfl (op_q (q_move rfl (by decide)) ?_)
                                                      refine list_cons rfl (op_q (q_extract rfl rfl (by decide)) ?_)
                                                      refine list_cons rfl (op_q (q_extract rfl rfl (by decide)) ?_)
                                                      refine list_cons rfl (op_q (q_assign rfl (by decide)) ?_)
                                                      refine list_cons rfl (op_q (q_assign rfl (by decide)) ?_)
                                                      refine list_nil ?_
                                                      refine hK89 _ ?_; clear hK89 K89
                                                      refine codeT.imp (σ' := [(2, .val (.bool _)), (3, .val (.int .i64 _)), (4, .val (.int .i64 _)), (5, .val (.bool _)), (8, .val (.int .i64 _)), (9, .val (.int .i64 _)), (10, .val (.bool _)), (13, .val (.int .i64 _)), (25, .val (.str _)), (56, .val (.int .i64 _)), (57, .val (.bool _))]) ?_ (imp_covers ⟨rfl, rfl, rfl, rfl, rfl, rfl, rfl, rfl, rfl, rfl, rfl, trivial⟩)
                                                      refine code_seq (fun K90 hK90 => ?_)
                                                      refine code_region ?_
                                                      refine list_cons rfl (op_q (q_move rfl (by decide)) ?_)
                                                      refine list_cons rfl (op_call _ (impl_MirrorCell _) rfl rfl (by decide) (by decide) (by decide) rfl ?_)
                                                      rintro _ rfl
                                                      refine list_cons rfl (op_q (q_move rfl (by decide)) ?_)
                                                      refine list_cons rfl (op_q (q_extract rfl rfl (by decide)) ?_)
                                                      refine list_cons rfl (op_q (q_extract rfl rfl (by decide)) ?_)
                                                      refine list_cons rfl (op_q (q_assign rfl (by decide)) ?_)
                                                      refine list_cons rfl (op_q (q_assign rfl (by decide)) ?_)
                                                      refine list_nil ?_
                                                      refine hK90 _ ?_; clear hK90 K90
                                                      refine codeT.imp (σ' := [(2, .val (.bool _)), (3, .val (.int .i64 _)), (4, .val (.int .i64 _)), (5, .val (.bool _)), (8, .val (.int .i64 _)), (9, .val (.int .i64 _)), (10, .val (.bool _)), (13, .val (.int .i64 _)), (25, .val (.str _)), (56, .val (.int .i64 _)), (57, .val (.bool _)), (58, .val (.int .i64 _)), (59, .val (.bool _))]) ?_ (imp_covers ⟨rfl, rfl, rfl, rfl, rfl, rfl, rfl, rfl, rfl, rfl, rfl, rfl, rfl, trivial⟩)
                                                      refine code_seq (fun K91 hK91 => ?_)
                                                      refine code_region ?_
                                                      refine list_cons rfl (op_q (q_move rfl (by decide)) ?_)
                                                      refine list_cons rfl (op_call _ (impl_ParseBars _ (by first | omega | exact barsI_len _)) rfl rfl (by decide) (by decide) (by decide) rfl ?_)
                                                      rintro _ rfl
                                                      refine list_cons rfl (op_q (q_move rfl (by decide)) ?_)
                                                      refine list_cons rfl (op_q (q_extract rfl rfl (by decide)) ?_)
                                                      refine list_cons rfl (op_q (q_extract rfl rfl (by decide)) ?_)
                                                      refine list_cons rfl (op_q (q_assign rfl (by decide)) ?_)
                                                      refine list_cons rfl (op_q (q_assign rfl (by decide)) ?_)
                                                      refine list_nil ?_
                                                      refine hK91 _ ?_; clear hK91 K91
                                                      refine codeT.imp (σ' := [(2, .val (.bool _)), (3, .val (.int .i64 _)), (4, .val (.int .i64 _)), (5, .val (.bool _)), (8, .val (.int .i64 _)), (9, .val (.int .i64 _)), (10, .val (.bool _)), (13, .val (.int .i64 _)), (25, .val (.str _)), (56, .val (.int .i64 _)), (57, .val (.bool _)), (58, .val (.int .i64 _)), (59, .val (.bool _)), (60, .val (.int .i64 _)), (61, .val (.bool _))]) ?_ (imp_covers ⟨rfl, rfl, rfl, rfl, rfl, rfl, rfl, rfl, rfl, rfl, rfl, rfl, rfl, rfl, rfl, trivial⟩)
                                                      refine code_seq (fun K92 hK92 => ?_)
                                                      refine code_region ?_
                                                      refine list_cons rfl (op_q (q_move rfl (by decide)) ?_)
                                                      refine list_cons rfl (op_q (q_move rfl (by decide)) ?_)
                                                      refine list_guard_d rfl rfl rfl rfl (by decide) rfl (by decide) (fun h65 => ?_) (fun h65 => ?_)
                                                      · simp only [Bool.false_eq_true, if_true, if_false, Decidable.not_not] at h65
                                                        refine id (op_q (q_move rfl (by decide)) ?_)
                                                        refine list_cons rfl (op_q (q_pick rfl rfl (by decide)) ?_)
                                                        refine list_cons rfl (op_q (q_move rfl (by decide)) ?_)
                                                        refine list_guard_d rfl rfl rfl rfl (by decide) rfl (by decide) (fun h66 => ?_) (fun h66 => ?_)
                                                        · simp only [Bool.false_eq_true, if_true, if_false, Decidable.not_not] at h66
                                                          refine id (op_q (q_move rfl (by decide)) ?_)
                                                          refine list_cons rfl (op_q (q_pick rfl rfl (by decide)) ?_)
                                                          refine list_cons rfl (op_q (q_move rfl (by decide)) ?_)
                                                          refine list_guard_d rfl rfl rfl rfl (by decide) rfl (by decide) (fun h67 => ?_) (fun h67 => ?_)
                                                          · simp only [Bool.false_eq_true, if_true, if_false, Decidable.not_not] at h67
                                                            refine id (op_q (q_move rfl (by decide)) ?_)
                                                            refine list_guard_y rfl rfl rfl rfl (by decide) rfl ?_
                                                            refine id (op_q (q_move rfl (by decide)) ?_)
                                                            refine list_guard_y rfl rfl rfl rfl (by decide) rfl ?_
                                                            refine id (op_q (q_eq rfl rfl (by decide)) ?_)
                                                            refine list_cons rfl (op_q (q_pick rfl rfl (by decide)) ?_)
                                                            refine list_cons rfl (op_q (q_move rfl (by decide)) ?_)
                                                            refine list_guard_d rfl rfl rfl rfl (by decide) rfl (by decide) (fun h68 => ?_) (fun h68 => ?_)
                                                            · simp only [Bool.false_eq_true, if_true, if_false, Decidable.not_not] at h68
                                                              refine id (op_q (q_move rfl (by decide)) ?_)
                                                              refine list_guard_y rfl rfl rfl rfl (by decide) rfl ?_
                                                              refine id (op_q (q_move rfl (by decide)) ?_)
                                                              refine list_guard_y rfl rfl rfl rfl (by decide) rfl ?_
                                                              refine id (op_q (q_eq rfl rfl (by decide)) ?_)
                                                              refine list_cons rfl (op_q (q_pick rfl rfl (by decide)) ?_)
                                                              refine list_cons rfl (op_q (q_move rfl (by decide)) ?_)
                                                              refine list_guard_d rfl rfl rfl rfl (by decide) rfl (by decide) (fun h69 => ?_) (fun h69 => ?_)
                                                              · simp only [Bool.false_eq_true, if_true, if_false, Decidable.not_not] at h69
                                                                refine id (op_q (q_move rfl (by decide)) ?_)
                                                                refine list_guard_y rfl rfl rfl rfl (by decide) rfl ?_
                                                                refine id (op_q (q_move rfl (by decide)) ?_)
                                                                refine list_guard_y rfl rfl rfl rfl (by decide) rfl ?_
                                                                refine id (op_q (q_eq rfl rfl (by decide)) ?_)
                                                                refine list_cons rfl (op_q (q_pick rfl rfl (by decide)) ?_)
                                                                refine list_cons rfl (op_q (q_assign rfl (by decide)) ?_)
                                                                refine list_nil ?_
                                                                refine hK92 _ ?_; clear hK92 K92
                                                                refine codeT.imp (σ' := [(2, .val (.bool _)), (3, .val (.int .i64 _)), (4, .val (.int .i64 _)), (5, .val (.bool _)), (8, .val (.int .i64 _)), (9, .val (.int .i64 _)), (10, .val (.bool _)), (13, .val (.int .i64 _)), (25, .val (.str _)), (56, .val (.int .i64 _)), (57, .val (.bool _)), (58, .val (.int .i64 _)), (59, .val (.bool _)), (60, .val (.int .i64 _)), (61, .val (.bool _))]) ?_ (imp_covers ⟨rfl, rfl, rfl, rfl, rfl, rfl, rfl, rfl, rfl, rfl, rfl, rfl, rfl, rfl, rfl, trivial⟩)
                                                                refine code_ret ?_
                                                                refine ends_ret (cs := []) rfl rfl rfl rfl trivial ?_
                                                                first
                                                                | (have k : 0 ≤ c ∧ c ≤ 127 := by assumption
                                                                   rw [decide_eq_true (parse_own k)])
                                                                | rfl
                                                              · simp only [Bool.false_eq_true, if_true, if_false, Decidable.not_not] at h69
                                                                exfalso
                                                                have k : 0 ≤ c ∧ c ≤ 127 := by assumption
                                                                exact h69 (mir_twice k)
                                                            · simp only [Bool.false_eq_true, if_true, if_false, Decidable.not_not] at h68
                                                              exfalso
                                                              have k : 0 ≤ c ∧ c ≤ 127 := by assumption
                                                              exact h68 (turn_twice k)
                                                          · simp only [Bool.false_eq_true, if_true, if_false, Decidable.not_not] at h67
                                                            exfalso
                                                            have k : 0 ≤ c ∧ c ≤ 127 := by assumption
                                                            exact h67 (ord_own k)
                                                        · simp only [Bool.false_eq_true, if_true, if_false, Decidable.not_not] at h66
                                                          exfalso
                                                          have k : 0 ≤ c ∧ c ≤ 127 := by assumption
                                                          exact h66 (cM c)
                                                      · simp only [Bool.false_eq_true, if_true, if_false, Decidable.not_not] at h65
                                                        exfalso
                                                        have k : 0 ≤ c ∧ c ≤ 127 := by assumption
                                                        exact h65 (cT c)
                                          · simp only [Bool.false_eq_true, if_true, if_false, Decidable.not_not] at h47
                                            exfalso
                                            first | exact absurd rfl h47 | exact h47 trivial | (simp at h47; done)
                                      · simp only [Bool.false_eq_true, if_true, if_false, Decidable.not_not] at h45
                                        exfalso
                                        first | exact absurd rfl h45 | exact h45 trivial | (simp at h45; done)
                                  · simp only [Bool.false_eq_true, if_true, if_false, Decidable.not_not] at h17
                                    exfalso
                                    first | exact absurd rfl h17 | exact h17 trivial | (simp at h17; done)
                                · simp only [Bool.false_eq_true, if_true, if_false, Decidable.not_not] at h16
                                  exfalso
                                  first | exact absurd rfl h16 | exact h16 trivial | (simp at h16; done)
                              · simp only [Bool.false_eq_true, if_true, if_false, Decidable.not_not] at h15
                                exfalso
                                first | exact absurd rfl h15 | exact h15 trivial | (simp at h15; done)
                          · simp only [Bool.false_eq_true, if_true, if_false, Decidable.not_not] at h13
                            exfalso
                            first | exact absurd rfl h13 | exact h13 trivial | (simp at h13; done)
                        · simp only [Bool.false_eq_true, if_true, if_false, Decidable.not_not] at h12
                          exfalso
                          first | exact absurd rfl h12 | exact h12 trivial | (simp at h12; done)
                    · simp only [Bool.false_eq_true, if_true, if_false, Decidable.not_not] at h10
                      exfalso
                      first | exact absurd rfl h10 | exact h10 trivial | (simp at h10; done)
                · simp only [Bool.false_eq_true, if_true, if_false, Decidable.not_not] at h8
                  exfalso
                  first | exact absurd rfl h8 | exact h8 trivial | (simp at h8; done)
              · simp only [Bool.false_eq_true, if_true, if_false, Decidable.not_not] at h7
                exfalso
                first | exact absurd rfl h7 | exact h7 trivial | (simp at h7; done)
          · simp only [Bool.false_eq_true, if_true, if_false, Decidable.not_not] at h5
            exfalso
            first | exact absurd rfl h5 | exact h5 trivial | (simp at h5; done)
        · simp only [Bool.false_eq_true, if_true, if_false, Decidable.not_not] at h4
          exfalso
          first | exact absurd rfl h4 | exact h4 trivial | (simp at h4; done)
    · simp only [Bool.false_eq_true, if_true, if_false, Decidable.not_not] at h2
      exfalso
      first | exact absurd rfl h2 | exact h2 trivial | (simp at h2; done)

end Go.Proofs.YthgiialammjcbabDoor
