/- Contracts of functions, walked over the pure layer; each says for which arguments. -/
import Derived.Test.YtfagllolcalfiaaDoork4Ty
import Derived.Test.YtfagllolcalfiaaDoorTf
import Derived.Test.YtfagllolcalfiaaDoork1
import Derived.Test.YtfagllolcalfiaaDoorShelf
import Derived.Test.YtfagllolcalfiaaDoork2
import Derived.Test.YtfagllolcalfiaaDoork3
import Derived.Test.YtfagllolcalfiaaDoorPwMp
namespace Go.Proofs.YtfagllolcalfiaaDoor
open Go.RowKit k4Ty
set_option linter.unusedVariables false
set_option linter.unusedSimpArgs false

theorem andNot_0 {c x : Int} (h0 : -9223372036854775808 ≤ c) (h1 : c ≤ 9223372036854775807) (hx : 0 ≤ x ∧ x ≤ 127) : iandNot .i64 c x = 0 ↔ (0 ≤ c ∧ c ≤ 127) ∧ subN c.toNat x.toNat = true := by
  obtain ⟨n, rfl⟩ : ∃ n : Nat, x = n := ⟨x.toNat, by omega⟩
  by_cases hc : 0 ≤ c
  · obtain ⟨m, rfl⟩ : ∃ m : Nat, c = m := ⟨c.toNat, by omega⟩
    rw [iandNot_nat m n (by omega) (by omega), Int.toNat_natCast, Int.toNat_natCast]
    have key : m ^^^ (m &&& n) = 0 ↔ m &&& n = m := by
      constructor
      · intro h
        apply Nat.eq_of_testBit_eq
        intro i
        have h2 : (m ^^^ (m &&& n)).testBit i = false := by rw [h]; exact Nat.zero_testBit i
        rw [Nat.testBit_xor, Nat.testBit_and] at h2
        rw [Nat.testBit_and]
        revert h2
        cases m.testBit i <;> cases n.testBit i <;> simp
      · intro h; rw [h]; exact Nat.xor_self m
    constructor
    · intro h
      have h2 := key.1 (by omega)
      have h3 : subN m n = true := by unfold subN; rw [h2]; exact Nat.beq_refl m
      have := subN_le h3
      exact ⟨by omega, h3⟩
    · rintro ⟨_, h3⟩
      have := key.2 (Nat.eq_of_beq_eq_true h3)
      omega
  · constructor
    · intro h
      exfalso
      have hb1 : (BitVec.ofInt 64 c).toNat = (c + 18446744073709551616).toNat := by rw [BitVec.toNat_ofInt]; omega
      have hb2 : (BitVec.ofInt 64 ((n : Nat) : Int)).toNat = n := ofInt_nat n (by omega)
      have e : (BitVec.ofInt 64 c &&& ~~~ BitVec.ofInt 64 ((n : Nat) : Int)).toNat = (c + 18446744073709551616).toNat ^^^ ((c + 18446744073709551616).toNat &&& n) := by
        rw [bv_andNot, BitVec.toNat_xor, BitVec.toNat_and, hb1, hb2]
      have h63 : ((c + 18446744073709551616).toNat ^^^ ((c + 18446744073709551616).toNat &&& n)).testBit 63 = true := by
        rw [Nat.testBit_xor, Nat.testBit_and]
        have hn : n.testBit 63 = false := Nat.testBit_lt_two_pow (by omega)
        have hc63 : (c + 18446744073709551616).toNat.testBit 63 = true := by
          rw [Nat.testBit_eq_decide_div_mod_eq]
          have : (c + 18446744073709551616).toNat / 2 ^ 63 = 1 := by
            refine Nat.div_eq_of_lt_le ?_ ?_ <;> omega
          rw [this]; rfl
        rw [hn, hc63]; rfl
      have hge := Nat.ge_two_pow_of_testBit h63
      have hlt : ((c + 18446744073709551616).toNat ^^^ ((c + 18446744073709551616).toNat &&& n)) < 2 ^ 64 := Nat.xor_lt_two_pow (by omega) (Nat.lt_of_le_of_lt Nat.and_le_left (by omega))
      unfold iandNot at h
      rw [show IntKind.i64.bits = 64 from rfl, e] at h
      unfold IntKind.wrap at h
      simp [IntKind.bits] at h
      omega
    · rintro ⟨⟨h3, _⟩, _⟩; omega
theorem andNot_z (c : Int) : iandNot .i64 0 c = 0 := by
  unfold iandNot
  show IntKind.i64.wrap ((0#64 &&& ~~~ BitVec.ofInt 64 c).toNat : Int) = 0
  rw [BitVec.zero_and]; rfl
/-- The cells of a goal's digits. -/
def gcE (l : List Int) : List Int := if DigP l then dcd l else []
theorem gcE_len (l : List Int) : (gcE l).length ≤ 10 := dig_len l
theorem gcE_cells (l : List Int) : CellsP (gcE l) := by
  unfold gcE
  split
  · exact dcd_cells l
  · intro j; simp
theorem gcE_yes {l : List Int} (h : DigP l) : gcE l = dcd l := if_pos h
theorem gcE_no {l : List Int} (h : ¬ DigP l) : gcE l = [] := if_neg h
def onP (e : List Int) (c : Int) : Prop := (0 ≤ c ∧ c ≤ 127) ∧ onN e c.toNat = true
instance (e : List Int) (c : Int) : Decidable (onP e c) := by unfold onP; infer_instance
def onJ (e : List Int) (c : Int) (k : Nat) : Prop := (0 ≤ c ∧ c ≤ 127) ∧ onK e c.toNat k = true
instance (e : List Int) (c : Int) (k : Nat) : Decidable (onJ e c k) := by unfold onJ; infer_instance
def ovI (e : List Int) (c : Int) (k : Nat) : Int := if 0 ≤ c ∧ c ≤ 127 then ((ovK e c.toNat k : Nat) : Int) else 0
def litI (e : List Int) (c : Int) : Int := if onP e c then ((litN e c.toNat : Nat) : Int) else 0
theorem ovI_le {e : List Int} (he : CellsP e) (c : Int) (k : Nat) : 0 ≤ ovI e c k ∧ ovI e c k ≤ 127 := by
  have := ovK_lt he c.toNat k
  unfold ovI
  split <;> omega
theorem litI_le {e : List Int} (he : CellsP e) (c : Int) : 0 ≤ litI e c ∧ litI e c ≤ 127 := by
  have := lit_lt he c.toNat
  unfold litI
  split <;> omega
theorem onJ_up {e : List Int} {c : Int} {k : Nat} (h : (0 ≤ c ∧ c ≤ 127) ∧ subN c.toNat (e.getD k 0).toNat = true) : onJ e c (k + 1) := ⟨h.1, by unfold onK; rw [h.2, Bool.or_true]⟩
theorem onJ_no {e : List Int} {c : Int} {k : Nat} (h : ¬ ((0 ≤ c ∧ c ≤ 127) ∧ subN c.toNat (e.getD k 0).toNat = true)) : onJ e c (k + 1) ↔ onJ e c k := by
  have e1 : onK e c.toNat (k + 1) = (onK e c.toNat k || subN c.toNat (e.getD k 0).toNat) := rfl
  constructor
  · rintro ⟨h1, h2⟩
    rw [e1, Bool.or_eq_true] at h2
    exact ⟨h1, h2.resolve_right fun z => h ⟨h1, z⟩⟩
  · rintro ⟨h1, h2⟩; exact ⟨h1, by rw [e1, h2]; rfl⟩
theorem ovI_up {e : List Int} (he : CellsP e) {c : Int} {k : Nat} (h : (0 ≤ c ∧ c ≤ 127) ∧ subN c.toNat (e.getD k 0).toNat = true) : (((ovI e c k).toNat ||| (e.getD k 0).toNat : Nat) : Int) = ovI e c (k + 1) := by
  unfold ovI
  rw [if_pos h.1, if_pos h.1, ovK, if_pos h.2, Int.toNat_natCast]
theorem ovI_no {e : List Int} {c : Int} {k : Nat} (h : ¬ ((0 ≤ c ∧ c ≤ 127) ∧ subN c.toNat (e.getD k 0).toNat = true)) : ovI e c (k + 1) = ovI e c k := by
  unfold ovI
  split
  · rename_i h1
    rw [ovK, if_neg fun z => h ⟨h1, z⟩]
  · rfl
theorem lit_fin {e : List Int} (he : CellsP e) (c : Int) : iandNot .i64 (ovI e c e.length) c = litI e c := by
  by_cases h : 0 ≤ c ∧ c ≤ 127
  · have hov := ovK_lt he c.toNat e.length
    unfold ovI litI
    rw [if_pos h]
    have e1 := iandNot_nat (ovK e c.toNat e.length) c.toNat (by omega) (by omega)
    rw [Int.toNat_of_nonneg h.1] at e1
    rw [e1]
    split
    · rfl
    · rename_i hn
      have : onN e c.toNat = false := by
        cases h3 : onN e c.toNat with
        | false => rfl
        | true => exact absurd ⟨h, h3⟩ hn
      rw [ovK_none this]; simp
  · unfold ovI litI
    rw [if_neg h, if_neg fun z => h z.1]
    exact andNot_z c
theorem on_way {l : List Int} {c : Int} : onP (gcE l) c ↔ WayP c l := by
  unfold onP WayP
  by_cases h : DigP l
  · rw [gcE_yes h]
    exact ⟨fun z => ⟨h, z.1, z.2⟩, fun z => z.2⟩
  · rw [gcE_no h]
    exact ⟨fun z => by have := z.2; simp [onN, onK] at this, fun z => absurd z.1 h⟩
theorem tE_newI {e : List Int} {V : Nat → PV} {c : Int} (h0 : 0 ≤ c) (h1 : c ≤ 127) : findE (.int .i64) (.int .i64 c) (tE e V (127 - c).toNat) 0 = some none := tE_miss (by omega) fun x h2 h3 _ h4 => by omega
theorem tE_putI {e : List Int} {V : Nat → PV} {c : Int} (h0 : 0 ≤ c) (h1 : c ≤ 127) (ho : onP e c) : tE e V (127 - c).toNat ++ [(.int .i64 c, V c.toNat)] = tE e V (127 - (c - 1)).toNat := by
  rw [show (127 - (c - 1)).toNat = (127 - c).toNat + 1 by omega, tE_succ, show 127 - (127 - c).toNat = c.toNat by omega, if_pos ho.2, Int.toNat_of_nonneg h0]
theorem tE_skipI {e : List Int} {V : Nat → PV} {c : Int} (h0 : 0 ≤ c) (h1 : c ≤ 127) (ho : ¬ onP e c) : tE e V (127 - c).toNat = tE e V (127 - (c - 1)).toNat := by
  rw [show (127 - (c - 1)).toNat = (127 - c).toNat + 1 by omega, tE_succ, show 127 - (127 - c).toNat = c.toNat by omega, if_neg fun z => ho ⟨⟨h0, h1⟩, z⟩]
theorem tE_hitI {e : List Int} {V : Nat → PV} {c : Int} (ho : onP e c) : findE (.int .i64) (.int .i64 c) (tE e V 128) 0 = some (some (ixO (findE (.int .i64) (.int .i64 c) (tE e V 128) 0), V c.toNat)) := tE_hit (by have := ho.1; omega) ho.2 (by omega) (by omega) (by have := ho.1; omega)
theorem tE_missI {e : List Int} {V : Nat → PV} {c : Int} (he : CellsP e) (ho : ¬ onP e c) : findE (.int .i64) (.int .i64 c) (tE e V 128) 0 = some none := tE_miss (by omega) fun x h2 h3 h4 h5 => ho ⟨by omega, by rw [h5, Int.toNat_natCast]; exact h4⟩
theorem nx_okE {e : List Int} {c b : Int} (hb : 0 ≤ b) (h : bitN (litI e c).toNat b.toNat = true) : onP e c ∧ onN e (upN c.toNat b.toNat) = true ∧ c.toNat < upN c.toNat b.toNat ∧ nxK e c.toNat (b + 1).toNat = nxK e c.toNat b.toNat ++ [upN c.toNat b.toNat] := by
  have hp : onP e c := by
    by_cases h1 : onP e c
    · exact h1
    · unfold litI at h
      rw [if_neg h1, bitN_test] at h
      simp at h
  unfold litI at h
  rw [if_pos hp, Int.toNat_natCast] at h
  have h2 := (lit_ok e c.toNat b.toNat).1 h
  have h3 := up_gt (up_ne.1 h2.1)
  refine ⟨hp, h2.2, h3, ?_⟩
  rw [show (b + 1).toNat = b.toNat + 1 by omega, nxK_succ, if_pos h]
theorem nx_noE {e : List Int} {c b : Int} (hb : 0 ≤ b) (hp : onP e c) (h : ¬ bitN (litI e c).toNat b.toNat = true) : nxK e c.toNat (b + 1).toNat = nxK e c.toNat b.toNat := by
  unfold litI at h
  rw [if_pos hp, Int.toNat_natCast] at h
  rw [show (b + 1).toNat = b.toNat + 1 by omega, nxK_succ, if_neg h]
def pvI (x : Int) : PV := .int .i64 x
def pvB (b : Bool) : PV := .bool (decide (b = true))
noncomputable def VN (e : List Int) (x : Nat) : PV := .int .i64 (val fN e x)
noncomputable def VB (f : Nat → List Bool → Bool) (e : List Int) (x : Nat) : PV := .bool (decide (val f e x = true))
theorem flat_pvB (L : List Bool) : PV.flatL (L.map pvB) = true := flat_map pvB (fun _ => rfl) L
def anyB (L : List Bool) : Nat → Bool
  | 0 => false
  | k + 1 => anyB L k || !L.getD k true
theorem anyB_all : ∀ (L : List Bool), anyB L L.length = L.any fun b => !b := fun L => by
  have key : ∀ k, k ≤ L.length → anyB L k = (L.take k).any fun b => !b := by
    intro k
    induction k with
    | zero => intro _; rfl
    | succ k ih =>
      intro hk
      rw [anyB, ih (by omega), List.take_add_one, List.getElem?_eq_getElem (by omega), List.any_append, List.getD_eq_getElem?_getD, List.getElem?_eq_getElem (by omega)]
      simp
  rw [key _ (Nat.le_refl _), List.take_length]
theorem anyB_up (L : List Bool) {i : Nat} (h : L.getD i true = false) : ∀ k, i < k → anyB L k = true
  | 0, hk => by omega
  | k + 1, hk => by
    unfold anyB
    by_cases e : i = k
    · subst e; rw [h]; simp
    · rw [anyB_up L h k (by omega)]; rfl
theorem dr_pvB (L : List Bool) {k : Nat} (h : k < L.length) : (L.map pvB).drop (k * 1) = .bool (decide (L.getD k true = true)) :: (L.map pvB).drop (k + 1) := drop_map1 pvB true L h


set_option maxRecDepth 4000 in
theorem indexG_c (l : List Int) (n : Int) (hl : l.length ≤ 4611686018427387904) : PCalls Tryd.prog 105 [.sl l.length (l.map (.int .i64)), .int .i64 n] (fun rs => ∃ i : Int, rs = [.val (.int .i64 i)] ∧ (0 ≤ i ↔ hasK l n l.length = true)) := by
  refine pcalls_of_code (n := 19) az Tryd.func105 (by kernel_rfl) rfl rfl (Nat.le_of_ble_eq_true rfl) (by intro t u h; simp [Tryd.f105] at h) ?_
  refine code_seq (fun K1 hK1 => ?_)
  refine code_region ?_
  refine list_cons rfl (op_q (q_assign rfl (by decide)) ?_)
  refine list_nil ?_
  refine hK1 _ ?_; clear hK1 K1
  refine code_seq (fun K2 hK2 => ?_)
  refine code_seq (fun K3 hK3 => ?_)
  refine code_region ?_
  refine list_cons rfl (op_q (q_move rfl (by decide)) ?_)
  refine list_cons rfl (op_q (q_len_sl Tryd.underlying24 rfl rfl (by decide)) ?_)
  refine list_cons rfl (op_q (q_move rfl (by decide)) ?_)
  refine list_nil ?_
  refine hK3 _ ?_; clear hK3 K3
  refine code_block ?_
  refine code_loop (X := Int × Int) (fun x => [(0, .par 0 (.sl l.length (l.map (.int .i64)))), (1, .val (.int .i64 n)), (4, .val (.int .i64 x.1)), (7, .val (.int .i64 l.length)), (8, .val (.int .i64 x.2))]) (fun x => 0 ≤ x.2 ∧ x.2 ≤ l.length ∧ hasK l n x.2.toNat = false) (fun x => (l.length - x.2).toNat) (_, _) (imp_covers ⟨rfl, rfl, rfl, rfl, rfl, trivial⟩) ?_ ?_
  · (try dsimp only)
    exact ⟨by omega, by omega, rfl⟩
  · intro x hI
    obtain ⟨t4, t8⟩ := x
    replace hI : 0 ≤ t8 ∧ t8 ≤ l.length ∧ hasK l n t8.toNat = false := hI
    show codeT _ _ _ [(0, .par 0 (.sl l.length (l.map (.int .i64)))), (1, .val (.int .i64 n)), (4, .val (.int .i64 t4)), (7, .val (.int .i64 l.length)), (8, .val (.int .i64 t8))] _
    obtain ⟨i1, i2, i3⟩ := hI
    refine code_seq (fun K4 hK4 => ?_)
    refine code_region ?_
    refine list_cons rfl (op_q (q_lt rfl rfl (by decide)) ?_)
    refine list_nil ?_
    refine hK4 _ ?_; clear hK4 K4
    refine code_seq (fun K5 hK5 => ?_)
    refine code_cond_d rfl (fun h1 => ?_) (fun h1 => ?_)
    · skip
      (try simp only [Decidable.not_not] at h1)
      refine code_skip ?_
      refine hK5 _ ?_; clear hK5 K5
      refine code_seq (fun K6 hK6 => ?_)
      refine code_block ?_
      refine code_seq (fun K7 hK7 => ?_)
      refine code_region ?_
      refine list_cons rfl (op_q (q_move rfl (by decide)) ?_)
      refine list_cons rfl (op_q (q_assign rfl (by decide)) ?_)
      refine list_nil ?_
      refine hK7 _ ?_; clear hK7 K7
      refine code_seq (fun K8 hK8 => ?_)
      refine code_region ?_
      refine list_cons rfl (op_q (q_move rfl (by decide)) ?_)
      refine list_cons rfl (op_q (q_move rfl (by decide)) ?_)
      refine list_cons rfl (op_q (q_move rfl (by decide)) ?_)
      refine list_cons rfl (op_q (q_indexAddr_rd sl_24 rfl (.inl ⟨_, rfl, rfl⟩) rfl (by omega) (by omega) (by decide)) ?_)
      refine list_cons rfl (op_q (q_load_rd one_3 rfl (.inl ⟨_, (by first | rfl | exact congrArg (SV.rpar _) (drop_map1 _ 0 _ (by first | omega | (simp; omega)))), rfl⟩) (by decide)) ?_)
      refine list_cons rfl (op_q (q_eq rfl rfl (by decide)) ?_)
      refine list_nil ?_
      refine hK8 _ ?_; clear hK8 K8
      refine codeT.imp (σ' := [(0, _), (1, _), (4, _), (5, _), (7, _), (8, _), (16, _)]) ?_ (imp_covers ⟨rfl, rfl, rfl, rfl, rfl, rfl, rfl, trivial⟩)
      refine code_cond_d rfl (fun h2 => ?_) (fun h2 => ?_)
      · skip
        (try simp only [Decidable.not_not] at h2)
        refine code_seq (fun K9 hK9 => ?_)
        refine code_region ?_
        refine list_cons rfl (op_q (q_move rfl (by decide)) ?_)
        refine list_cons rfl (op_q (q_assign rfl (by decide)) ?_)
        refine list_nil ?_
        refine hK9 _ ?_; clear hK9 K9
        refine code_ret ?_
        refine blk_r ?_
        refine then_r ?_; clear hK6 K6
        refine then_r ?_
        refine blk_r ?_
        refine then_r ?_; clear hK2 K2
        refine ends_ret (cs := []) rfl rfl rfl rfl trivial ?_
        first
          | (refine ⟨_, rfl, fun _ => ?_, fun _ => by omega⟩
             have : ∀ m, t8.toNat < m → hasK l n m = true := by
               intro m
               induction m with
               | zero => intro h; omega
               | succ m ih =>
                 intro h
                 rw [hasK]
                 by_cases e : t8.toNat = m
                 · rw [← e, decide_eq_true (h2).symm]; simp
                 · rw [ih (by omega)]; rfl
             exact this _ (by omega))
          | (refine ⟨_, rfl, fun h => by omega, fun h => ?_⟩
             rw [show l.length = t8.toNat by omega, i3] at h; cases h)
      (try simp only [Decidable.not_not] at h2)
      refine code_skip ?_
      refine blk_n ?_
      refine hK6 _ ?_; clear hK6 K6
      refine code_region ?_
      refine list_cons rfl (op_q (by first | exact q_addI rfl rfl (by decide) (by omega) (by omega) | exact q_ib rfl rfl rfl (by decide)) ?_)
      refine list_cons rfl (op_q (q_move rfl (by decide)) ?_)
      refine list_nil ?_
      refine then_n ⟨(_, _), imp_covers ⟨rfl, rfl, rfl, rfl, rfl, trivial⟩, ?_, ?_⟩
      · (try dsimp only)
        exact ⟨by omega, by omega, by rw [show (t8 + 1).toNat = t8.toNat + 1 by omega, hasK, i3, decide_eq_false (fun e => h2 e.symm)]; rfl⟩
      · (try dsimp only); omega
    (try simp only [Decidable.not_not] at h1)
    refine code_exit ?_
    refine then_x ?_; clear hK5 K5
    refine then_x ?_
    refine blk_hit ?_
    refine hK2 _ ?_; clear hK2 K2
    refine code_seq (fun K10 hK10 => ?_)
    refine code_region ?_
    refine list_cons rfl (op_q (q_assign rfl (by decide)) ?_)
    refine list_nil ?_
    refine hK10 _ ?_; clear hK10 K10
    refine code_ret ?_
    refine ends_ret (cs := []) rfl rfl rfl rfl trivial ?_
    first
      | (refine ⟨_, rfl, fun _ => ?_, fun _ => by omega⟩
         have : ∀ m, t8.toNat < m → hasK l n m = true := by
           intro m
           induction m with
           | zero => intro h; omega
           | succ m ih =>
             intro h
             rw [hasK]
             by_cases e : t8.toNat = m
             · rw [← e, decide_eq_true (h1).symm]; simp
             · rw [ih (by omega)]; rfl
         exact this _ (by omega))
      | (refine ⟨_, rfl, fun h => by omega, fun h => ?_⟩
         rw [show l.length = t8.toNat by omega, i3] at h; cases h)

set_option maxRecDepth 4000 in
theorem containsG_c (l : List Int) (n : Int) (hl : l.length ≤ 4611686018427387904) : PCalls Tryd.prog 79 [.sl l.length (l.map (.int .i64)), .int .i64 n] (· = [.val (.bool (decide (hasK l n l.length = true)))]) := by
  refine pcalls_of_code (n := 9) az Tryd.func79 (by kernel_rfl) rfl rfl (Nat.le_of_ble_eq_true rfl) (by intro t u h; simp [Tryd.f79] at h) ?_
  refine code_seq (fun K1 hK1 => ?_)
  refine code_region ?_
  refine list_cons rfl (op_q (q_assign rfl (by decide)) ?_)
  refine list_nil ?_
  refine hK1 _ ?_; clear hK1 K1
  refine code_seq (fun K2 hK2 => ?_)
  refine code_region ?_
  refine list_cons rfl (op_q (q_move rfl (by decide)) ?_)
  refine list_cons rfl (op_q (q_move rfl (by decide)) ?_)
  refine list_cons rfl (op_call _ (indexG_c _ _ (by omega)) rfl rfl (by decide) (by decide) (by decide) rfl ?_)
  rintro _ ⟨ix, rfl, hix⟩
  refine list_cons rfl (op_q (q_ge rfl rfl (by decide)) ?_)
  refine list_cons rfl (op_q (q_assign rfl (by decide)) ?_)
  refine list_nil ?_
  refine hK2 _ ?_; clear hK2 K2
  refine codeT.imp (σ' := [(0, _), (1, _), (4, _)]) ?_ (imp_covers ⟨rfl, rfl, rfl, trivial⟩)
  refine code_ret ?_
  refine ends_ret (cs := []) rfl rfl rfl rfl trivial ?_
  congr 3
  exact decide_eq_decide.mpr hix

theorem fillG (l : List Int) {k : Nat} (h : k < l.length) : putAt (((l.take k).map digC ++ List.replicate (l.length - k) 0).map (PV.int .i64)) (k * 1) [PV.int .i64 (digT.getD (l.getD k 0).toNat 0)] = (((l.take (k + 1)).map digC ++ List.replicate (l.length - (k + 1)) 0).map (PV.int .i64)) := by
  rw [put_map1 (PV.int .i64) _ (by simp; omega), map_take digC 0 l h, List.set_append_right _ _ (by simp; omega), show k - ((l.take k).map digC).length = 0 by simp; omega, show l.length - k = l.length - (k + 1) + 1 by omega, List.replicate_succ, List.set_cons_zero]
  simp [digC]

set_option maxRecDepth 8000 in
set_option maxHeartbeats 2000000 in
theorem impl_digitCellsG (l : List Int) (h10 : l.length ≤ 10) (hd : ∀ j, j < l.length → 0 ≤ l.getD j 0 ∧ l.getD j 0 ≤ 9) : PCalls Tryd.prog 103 [.sl l.length (l.map (.int .i64))] (· = [.own 0 3 1 (dcd l).length ((dcd l).map (.int .i64)), .val (.bool true)]) := by
  refine pcalls_of_code (n := 33) az Tryd.func103 (by kernel_rfl) rfl rfl (Nat.le_of_ble_eq_true rfl) (by intro t u h; simp [Tryd.f103] at h) ?_
  refine code_seq (fun K1 hK1 => ?_)
  refine code_region ?_
  refine list_cons rfl (op_q (q_assign rfl (by decide)) ?_)
  refine list_cons rfl (op_q (q_assign rfl (by decide)) ?_)
  refine list_nil ?_
  refine hK1 _ ?_; clear hK1 K1
  refine code_seq (fun K2 hK2 => ?_)
  refine code_region ?_
  refine list_cons rfl (op_q (q_move rfl (by decide)) ?_)
  refine list_cons rfl (op_q (q_len_sl Tryd.underlying24 rfl rfl (by decide)) ?_)
  refine list_cons rfl (op_make sl_24 rfl rfl (by omega) (by decide) (by decide) rfl ?_)
  refine list_cons rfl (op_q (q_assign rfl (by decide)) ?_)
  refine list_nil ?_
  refine hK2 _ ?_; clear hK2 K2
  refine code_seq (fun K3 hK3 => ?_)
  refine code_seq (fun K4 hK4 => ?_)
  refine code_region ?_
  refine list_cons rfl (op_q (q_move rfl (by decide)) ?_)
  refine list_cons rfl (op_q (q_len_sl Tryd.underlying24 rfl rfl (by decide)) ?_)
  refine list_cons rfl (op_q (q_move rfl (by decide)) ?_)
  refine list_nil ?_
  refine hK4 _ ?_; clear hK4 K4
  refine code_block ?_
  refine code_loop (X := PV × Bool × Nat × List PV × Int) (fun x => [(0, .par 0 (.sl l.length (l.map (.int .i64)))), (2, .val x.1), (3, .val (.bool x.2.1)), (4, .own 11 3 1 x.2.2.1 x.2.2.2.1), (12, .par 0 (.sl l.length (l.map (.int .i64)))), (13, .val (.int .i64 l.length)), (14, .val (.int .i64 x.2.2.2.2))]) (fun x => 0 ≤ x.2.2.2.2 ∧ x.2.2.2.2 ≤ l.length ∧ x.2.2.1 = l.length ∧ x.2.2.2.1 = ((l.take x.2.2.2.2.toNat).map digC ++ List.replicate (l.length - x.2.2.2.2.toNat) 0).map (.int .i64)) (fun x => (l.length - x.2.2.2.2).toNat) (_, _, _, _, _) (imp_covers ⟨rfl, rfl, rfl, rfl, rfl, rfl, rfl, trivial⟩) ?_ ?_
  · (try dsimp only)
    exact ⟨by omega, by omega, rfl, zeros_map1 (PV.int .i64) 0 l.length⟩
  · intro x hI
    obtain ⟨t2_p, t3, cells_n, cells_c, t14⟩ := x
    replace hI : 0 ≤ t14 ∧ t14 ≤ l.length ∧ cells_n = l.length ∧ cells_c = ((l.take t14.toNat).map digC ++ List.replicate (l.length - t14.toNat) 0).map (.int .i64) := hI
    show codeT _ _ _ [(0, .par 0 (.sl l.length (l.map (.int .i64)))), (2, .val t2_p), (3, .val (.bool t3)), (4, .own 11 3 1 cells_n cells_c), (12, .par 0 (.sl l.length (l.map (.int .i64)))), (13, .val (.int .i64 l.length)), (14, .val (.int .i64 t14))] _
    obtain ⟨i1, i2, rfl, rfl⟩ := hI
    have hdt := fun h => hd t14.toNat h
    refine code_seq (fun K5 hK5 => ?_)
    refine code_region ?_
    refine list_cons rfl (op_q (q_lt rfl rfl (by decide)) ?_)
    refine list_nil ?_
    refine hK5 _ ?_; clear hK5 K5
    refine code_seq (fun K6 hK6 => ?_)
    refine code_cond_d rfl (fun h1 => ?_) (fun h1 => ?_)
    · skip
      (try simp only [Decidable.not_not] at h1)
      refine code_skip ?_
      refine hK6 _ ?_; clear hK6 K6
      refine code_seq (fun K7 hK7 => ?_)
      refine code_block ?_
      refine code_seq (fun K8 hK8 => ?_)
      refine code_region ?_
      refine list_cons rfl (op_q (q_move rfl (by decide)) ?_)
      refine list_cons rfl (op_q (q_indexAddr_rd sl_24 rfl (.inl ⟨_, rfl, rfl⟩) rfl (by omega) (by omega) (by decide)) ?_)
      refine list_cons rfl (op_q (q_load_rd one_3 rfl (.inl ⟨_, (by first | rfl | exact congrArg (SV.rpar _) (drop_map1 _ 0 _ (by first | omega | (simp; omega)))), rfl⟩) (by decide)) ?_)
      refine list_cons rfl (op_q (q_assign rfl (by decide)) ?_)
      refine list_cons rfl (op_q (q_assign rfl (by decide)) ?_)
      refine list_nil ?_
      refine hK8 _ ?_; clear hK8 K8
      refine code_seq (fun K9 hK9 => ?_)
      refine code_region ?_
      refine list_cons rfl (op_q (q_move rfl (by decide)) ?_)
      refine list_cons rfl (op_call _ (impl_CellOf _) rfl rfl (by decide) (by decide) (by decide) rfl ?_)
      rintro _ rfl
      refine list_cons rfl (op_q (q_move rfl (by decide)) ?_)
      refine list_cons rfl (op_q (q_extract rfl rfl (by decide)) ?_)
      refine list_cons rfl (op_q (q_extract rfl rfl (by decide)) ?_)
      refine list_cons rfl (op_q (q_assign rfl (by decide)) ?_)
      refine list_cons rfl (op_q (q_assign rfl (by decide)) ?_)
      refine list_nil ?_
      refine hK9 _ ?_; clear hK9 K9
      refine codeT.imp (σ' := [(0, _), (2, _), (3, _), (4, _), (5, _), (6, _), (7, _), (8, _), (12, _), (13, _), (14, _)]) ?_ (imp_covers ⟨rfl, rfl, rfl, rfl, rfl, rfl, rfl, rfl, rfl, rfl, rfl, trivial⟩)
      refine code_seq (fun K10 hK10 => ?_)
      refine code_seq (fun K11 hK11 => ?_)
      refine code_region ?_
      refine list_cons rfl (op_q (q_move rfl (by decide)) ?_)
      refine list_cons rfl (op_q (by first | exact q_notd rfl (by decide) | exact q_not rfl (by decide)) ?_)
      refine list_nil ?_
      refine hK11 _ ?_; clear hK11 K11
      refine code_cond_d rfl (fun h2 => ?_) (fun h2 => ?_)
      · skip
        (try simp only [Decidable.not_not] at h2)
        refine code_seq (fun K12 hK12 => ?_)
        refine code_region ?_
        refine list_cons rfl (op_buildSlice sl_24 (parts := []) rfl rfl rfl (by decide) (by decide) (by decide) rfl ?_)
        refine list_cons rfl (op_q (q_assign rfl (by decide)) ?_)
        refine list_cons rfl (op_q (q_assign rfl (by decide)) ?_)
        refine list_nil ?_
        refine hK12 _ ?_; clear hK12 K12
        refine code_ret ?_
        refine then_r ?_; clear hK10 K10
        refine blk_r ?_
        refine then_r ?_; clear hK7 K7
        refine then_r ?_
        refine blk_r ?_
        refine then_r ?_; clear hK3 K3
        refine ends_ret (cs := []) rfl rfl rfl rfl trivial ?_
        first
          | (simp only [show t14.toNat = l.length by omega, List.take_length, Nat.sub_self, List.replicate_zero, List.append_nil, dcd_len]; rfl)
          | (exact absurd (hdt (by omega)) (by assumption))
      (try simp only [Decidable.not_not] at h2)
      refine code_skip ?_
      refine hK10 _ ?_; clear hK10 K10
      refine code_region ?_
      refine list_cons rfl (op_q (q_move rfl (by decide)) ?_)
      refine list_cons rfl (op_q (q_move rfl (by decide)) ?_)
      refine list_cons rfl (op_q (q_move rfl (by decide)) ?_)
      refine list_cons rfl (op_q (q_indexAddr_own sl_24 rfl rfl (by omega) (by omega) (by decide)) ?_)
      refine list_cons rfl (op_store (one_3).2 4 [4, 27] (by intro t ht; simp only [List.mem_cons, List.not_mem_nil, or_false] at ht; rcases ht with rfl | rfl <;> rfl) (.inl rfl) rfl rfl rfl rfl rfl rfl (by first | decide | omega | exact Nat.le_refl _ | (simp; done) | (simp; omega)) (by decide) rfl ?_)
      refine list_nil ?_
      refine blk_n ?_
      refine hK7 _ ?_; clear hK7 K7
      refine codeT.imp (σ' := [(0, _), (2, _), (3, _), (4, _), (5, _), (6, _), (7, _), (8, _), (12, _), (13, _), (14, _)]) ?_ (imp_covers ⟨rfl, rfl, rfl, rfl, rfl, rfl, rfl, rfl, rfl, rfl, rfl, trivial⟩)
      refine code_region ?_
      refine list_cons rfl (op_q (by first | exact q_addI rfl rfl (by decide) (by omega) (by omega) | exact q_ib rfl rfl rfl (by decide)) ?_)
      refine list_cons rfl (op_q (q_move rfl (by decide)) ?_)
      refine list_nil ?_
      refine then_n ⟨(_, _, _, _, _), imp_covers ⟨rfl, rfl, rfl, rfl, rfl, rfl, rfl, trivial⟩, ?_, ?_⟩
      · (try dsimp only)
        refine ⟨by omega, by omega, rfl, ?_⟩
        rw [show (t14 + 1).toNat = t14.toNat + 1 by omega]
        simp only [if_pos (hdt (by omega))]
        exact fillG l (by omega)
      · (try dsimp only); omega
    (try simp only [Decidable.not_not] at h1)
    refine code_exit ?_
    refine then_x ?_; clear hK6 K6
    refine then_x ?_
    refine blk_hit ?_
    refine hK3 _ ?_; clear hK3 K3
    refine code_seq (fun K13 hK13 => ?_)
    refine code_region ?_
    refine list_cons rfl (op_q (q_move rfl (by decide)) ?_)
    refine list_cons rfl (op_q (q_assign rfl (by decide)) ?_)
    refine list_cons rfl (op_q (q_assign rfl (by decide)) ?_)
    refine list_nil ?_
    refine hK13 _ ?_; clear hK13 K13
    refine code_ret ?_
    refine ends_ret (cs := []) rfl rfl rfl rfl trivial ?_
    first
      | (simp only [show t14.toNat = l.length by omega, List.take_length, Nat.sub_self, List.replicate_zero, List.append_nil, dcd_len]; rfl)
      | (exact absurd (hdt (by omega)) (by assumption))

set_option maxRecDepth 4000 in
theorem impl_DigitCodeG (l : List Int) (hl : l.length ≤ 4611686018427387904) : PCalls Tryd.prog 72 [.sl l.length (l.map (.int .i64))] (· = [.own 0 3 1 (gcE l).length ((gcE l).map (.int .i64)), .val (.bool (decide (DigP l)))]) := by
  refine pcalls_of_code (n := 17) az Tryd.func72 (by kernel_rfl) rfl rfl (Nat.le_of_ble_eq_true rfl) (by intro t u h; simp [Tryd.f72] at h) ?_
  refine code_seq (fun K1 hK1 => ?_)
  refine code_region ?_
  refine list_cons rfl (op_q (q_assign rfl (by decide)) ?_)
  refine list_cons rfl (op_q (q_assign rfl (by decide)) ?_)
  refine list_nil ?_
  refine hK1 _ ?_; clear hK1 K1
  refine code_seq (fun K2 hK2 => ?_)
  refine code_seq (fun K3 hK3 => ?_)
  refine code_region ?_
  refine list_cons rfl (op_q (q_move rfl (by decide)) ?_)
  refine list_cons rfl (op_call _ (impl_isOrder _ (by omega)) rfl rfl (by decide) (by decide) (by decide) rfl ?_)
  rintro _ rfl
  refine list_cons rfl (op_q (by first | exact q_notd rfl (by decide) | exact q_not rfl (by decide)) ?_)
  refine list_cons rfl (op_q (q_move rfl (by decide)) ?_)
  refine list_guard_d rfl rfl rfl rfl (by decide) rfl (by decide) (fun h1 => ?_) (fun h1 => ?_)
  · simp only [Bool.false_eq_true, if_true, if_false, Decidable.not_not] at h1
    refine id (op_q (q_move rfl (by decide)) ?_)
    refine list_guard_y rfl rfl rfl rfl (by decide) rfl ?_
    refine id (op_q (q_len_sl Tryd.underlying24 rfl rfl (by decide)) ?_)
    refine list_guard_y rfl rfl rfl rfl (by decide) rfl ?_
    refine id (op_q (q_eq rfl rfl (by decide)) ?_)
    refine list_cons rfl (op_q (q_pick rfl rfl (by decide)) ?_)
    refine list_nil ?_
    refine hK3 _ ?_; clear hK3 K3
    refine codeT.imp (σ' := [(0, _), (2, _), (3, _), (11, _)]) ?_ (imp_covers ⟨rfl, rfl, rfl, rfl, trivial⟩)
    refine code_cond_d rfl (fun h2 => ?_) (fun h2 => ?_)
    · skip
      (try simp only [Decidable.not_not] at h2)
      refine code_seq (fun K4 hK4 => ?_)
      refine code_region ?_
      refine list_cons rfl (op_buildSlice sl_24 (parts := []) rfl rfl rfl (by decide) (by decide) (by decide) rfl ?_)
      refine list_cons rfl (op_q (q_assign rfl (by decide)) ?_)
      refine list_cons rfl (op_q (q_assign rfl (by decide)) ?_)
      refine list_nil ?_
      refine hK4 _ ?_; clear hK4 K4
      refine code_ret ?_
      refine then_r ?_; clear hK2 K2
      refine ends_ret (cs := []) rfl rfl rfl rfl trivial ?_
      first
        | (have e : DigP l := ⟨by omega, by assumption⟩
           rw [gcE_yes e, decide_eq_true e]; done)
        | (have e : ¬ DigP l := fun e => absurd e.2 (by assumption)
           rw [gcE_no e, decide_eq_false e]; rfl)
        | (have e : ¬ DigP l := fun e => by have := e.1; omega
           rw [gcE_no e, decide_eq_false e]; rfl)
    (try simp only [Decidable.not_not] at h2)
    refine code_skip ?_
    refine hK2 _ ?_; clear hK2 K2
    refine code_seq (fun K5 hK5 => ?_)
    refine code_region ?_
    refine list_cons rfl (op_q (q_move rfl (by decide)) ?_)
    refine list_cons rfl (op_call _ (impl_digitCellsG _ (ord_len (by assumption)) (fun j hj => (ordK_at (by assumption) hj).1)) rfl rfl (by decide) (by decide) (by decide) rfl ?_)
    rintro _ rfl
    refine list_cons rfl (op_q (q_extract rfl rfl (by decide)) ?_)
    refine list_cons rfl (op_q (q_extract rfl rfl (by decide)) ?_)
    refine list_cons rfl (op_q (q_assign rfl (by decide)) ?_)
    refine list_cons rfl (op_q (q_assign rfl (by decide)) ?_)
    refine list_nil ?_
    refine hK5 _ ?_; clear hK5 K5
    refine codeT.imp (σ' := [(0, _), (2, _), (3, _)]) ?_ (imp_covers ⟨rfl, rfl, rfl, trivial⟩)
    refine code_ret ?_
    refine ends_ret (cs := []) rfl rfl rfl rfl trivial ?_
    first
      | (have e : DigP l := ⟨by omega, by assumption⟩
         rw [gcE_yes e, decide_eq_true e]; done)
      | (have e : ¬ DigP l := fun e => absurd e.2 (by assumption)
         rw [gcE_no e, decide_eq_false e]; rfl)
      | (have e : ¬ DigP l := fun e => by have := e.1; omega
         rw [gcE_no e, decide_eq_false e]; rfl)
  simp only [Bool.false_eq_true, if_true, if_false, Decidable.not_not] at h1
  refine list_guard_nT rfl rfl rfl rfl (by decide) (by decide) ?_
  refine list_guard_nT rfl rfl rfl rfl (by decide) (by decide) ?_
  refine list_cons rfl (op_q (q_pick rfl rfl (by decide)) ?_)
  refine list_nil ?_
  refine hK3 _ ?_; clear hK3 K3
  refine code_cond_t rfl ?_
  refine code_seq (fun K6 hK6 => ?_)
  refine code_region ?_
  refine list_cons rfl (op_buildSlice sl_24 (parts := []) rfl rfl rfl (by decide) (by decide) (by decide) rfl ?_)
  refine list_cons rfl (op_q (q_assign rfl (by decide)) ?_)
  refine list_cons rfl (op_q (q_assign rfl (by decide)) ?_)
  refine list_nil ?_
  refine hK6 _ ?_; clear hK6 K6
  refine codeT.imp (σ' := [(0, _), (2, _), (3, _)]) ?_ (imp_covers ⟨rfl, rfl, rfl, trivial⟩)
  refine code_ret ?_
  refine then_r ?_; clear hK2 K2
  refine ends_ret (cs := []) rfl rfl rfl rfl trivial ?_
  first
    | (have e : DigP l := ⟨by omega, by assumption⟩
       rw [gcE_yes e, decide_eq_true e]; done)
    | (have e : ¬ DigP l := fun e => absurd e.2 (by assumption)
       rw [gcE_no e, decide_eq_false e]; rfl)
    | (have e : ¬ DigP l := fun e => by have := e.1; omega
       rw [gcE_no e, decide_eq_false e]; rfl)

set_option maxRecDepth 4000 in
theorem impl_goalCells (l : List Int) (hl : l.length ≤ 4611686018427387904) : PCalls Tryd.prog 64 [.sl l.length (l.map (.int .i64))] (· = [.own 0 3 1 (gcE l).length ((gcE l).map (.int .i64))]) := by
  refine pcalls_of_code (n := 11) az Tryd.func64 (by kernel_rfl) rfl rfl (Nat.le_of_ble_eq_true rfl) (by intro t u h; simp [Tryd.f64] at h) ?_
  refine code_seq (fun K1 hK1 => ?_)
  refine code_region ?_
  refine list_cons rfl (op_q (q_assign rfl (by decide)) ?_)
  refine list_nil ?_
  refine hK1 _ ?_; clear hK1 K1
  refine code_seq (fun K2 hK2 => ?_)
  refine code_region ?_
  refine list_cons rfl (op_q (q_move rfl (by decide)) ?_)
  refine list_cons rfl (op_call _ (impl_DigitCodeG _ (by omega)) rfl rfl (by decide) (by decide) (by decide) rfl ?_)
  rintro _ rfl
  refine list_cons rfl (op_q (q_move rfl (by decide)) ?_)
  refine list_cons rfl (op_q (q_extract rfl rfl (by decide)) ?_)
  refine list_cons rfl (op_q (q_extract rfl rfl (by decide)) ?_)
  refine list_cons rfl (op_q (q_assign rfl (by decide)) ?_)
  refine list_cons rfl (op_q (q_assign rfl (by decide)) ?_)
  refine list_nil ?_
  refine hK2 _ ?_; clear hK2 K2
  refine codeT.imp (σ' := [(0, _), (2, _), (3, _)]) ?_ (imp_covers ⟨rfl, rfl, rfl, trivial⟩)
  refine code_seq (fun K3 hK3 => ?_)
  refine code_region ?_
  refine list_cons rfl (op_q (q_move rfl (by decide)) ?_)
  refine list_cons rfl (op_q (q_assign rfl (by decide)) ?_)
  refine list_nil ?_
  refine hK3 _ ?_; clear hK3 K3
  refine code_ret ?_
  refine ends_ret (cs := []) rfl rfl rfl rfl trivial ?_
  rfl

set_option maxRecDepth 4000 in
theorem impl_IsGoal (l : List Int) (hl : l.length ≤ 4611686018427387904) : PCalls Tryd.prog 31 [.sl l.length (l.map (.int .i64))] (· = [.val (.bool (decide (DigP l)))]) := by
  refine pcalls_of_code (n := 11) az Tryd.func31 (by kernel_rfl) rfl rfl (Nat.le_of_ble_eq_true rfl) (by intro t u h; simp [Tryd.f31] at h) ?_
  refine code_seq (fun K1 hK1 => ?_)
  refine code_region ?_
  refine list_cons rfl (op_q (q_assign rfl (by decide)) ?_)
  refine list_nil ?_
  refine hK1 _ ?_; clear hK1 K1
  refine code_seq (fun K2 hK2 => ?_)
  refine code_region ?_
  refine list_cons rfl (op_q (q_move rfl (by decide)) ?_)
  refine list_cons rfl (op_call _ (impl_DigitCodeG _ (by omega)) rfl rfl (by decide) (by decide) (by decide) rfl ?_)
  rintro _ rfl
  refine list_cons rfl (op_q (q_move rfl (by decide)) ?_)
  refine list_cons rfl (op_q (q_extract rfl rfl (by decide)) ?_)
  refine list_cons rfl (op_q (q_extract rfl rfl (by decide)) ?_)
  refine list_cons rfl (op_q (q_assign rfl (by decide)) ?_)
  refine list_cons rfl (op_q (q_assign rfl (by decide)) ?_)
  refine list_nil ?_
  refine hK2 _ ?_; clear hK2 K2
  refine codeT.imp (σ' := [(0, _), (2, _), (4, _)]) ?_ (imp_covers ⟨rfl, rfl, rfl, trivial⟩)
  refine code_seq (fun K3 hK3 => ?_)
  refine code_region ?_
  refine list_cons rfl (op_q (q_move rfl (by decide)) ?_)
  refine list_cons rfl (op_q (q_assign rfl (by decide)) ?_)
  refine list_nil ?_
  refine hK3 _ ?_; clear hK3 K3
  refine code_ret ?_
  refine ends_ret (cs := []) rfl rfl rfl rfl trivial ?_
  rfl

set_option maxRecDepth 4000 in
theorem impl_lightableIn (c : Int) (e : List Int) (p0 : -9223372036854775808 ≤ c) (p1 : c ≤ 9223372036854775807) (he : CellsP e) (hel : e.length ≤ 1000) : PCalls Tryd.prog 63 [.int .i64 c, .sl e.length (e.map (.int .i64))] (· = [.val (.int .i64 (litI e c)), .val (.bool (decide (onP e c)))]) := by
  refine pcalls_of_code (n := 28) az Tryd.func63 (by kernel_rfl) rfl rfl (Nat.le_of_ble_eq_true rfl) (by intro t u h; simp [Tryd.f63] at h) ?_
  refine code_seq (fun K1 hK1 => ?_)
  refine code_region ?_
  refine list_cons rfl (op_q (q_assign rfl (by decide)) ?_)
  refine list_cons rfl (op_q (q_assign rfl (by decide)) ?_)
  refine list_nil ?_
  refine hK1 _ ?_; clear hK1 K1
  refine code_seq (fun K2 hK2 => ?_)
  refine code_region ?_
  refine list_cons rfl (op_q (q_assign rfl (by decide)) ?_)
  refine list_cons rfl (op_q (q_assign rfl (by decide)) ?_)
  refine list_nil ?_
  refine hK2 _ ?_; clear hK2 K2
  refine code_seq (fun K3 hK3 => ?_)
  refine code_seq (fun K4 hK4 => ?_)
  refine code_region ?_
  refine list_cons rfl (op_q (q_move rfl (by decide)) ?_)
  refine list_cons rfl (op_q (q_len_sl Tryd.underlying24 rfl rfl (by decide)) ?_)
  refine list_cons rfl (op_q (q_move rfl (by decide)) ?_)
  refine list_nil ?_
  refine hK4 _ ?_; clear hK4 K4
  refine code_block ?_
  refine code_loop (X := Int × Bool × Int × Bool × Int) (fun x => [(0, .val (.int .i64 c)), (1, .par 1 (.sl e.length (e.map (.int .i64)))), (4, .val (.int .i64 x.1)), (5, .val (.bool x.2.1)), (6, .val (.int .i64 x.2.2.1)), (7, .val (.bool x.2.2.2.1)), (10, .par 1 (.sl e.length (e.map (.int .i64)))), (11, .val (.int .i64 (e.length))), (12, .val (.int .i64 x.2.2.2.2))]) (fun x => 0 ≤ x.2.2.2.2 ∧ x.2.2.2.2 ≤ e.length ∧ x.2.2.1 = ovI e c x.2.2.2.2.toNat ∧ x.2.2.2.1 = decide (onJ e c x.2.2.2.2.toNat)) (fun x => (e.length - x.2.2.2.2).toNat) (_, _, _, _, _) (imp_covers ⟨rfl, rfl, rfl, rfl, rfl, rfl, rfl, rfl, rfl, trivial⟩) ?_ ?_
  · (try dsimp only)
    exact ⟨by omega, by omega, by unfold ovI; split <;> rfl, (decide_eq_false fun z => by have := z.2; cases this).symm⟩
  · intro x hI
    obtain ⟨t4, t5, over, on, t12⟩ := x
    replace hI : 0 ≤ t12 ∧ t12 ≤ e.length ∧ over = ovI e c t12.toNat ∧ on = decide (onJ e c t12.toNat) := hI
    show codeT _ _ _ [(0, .val (.int .i64 c)), (1, .par 1 (.sl e.length (e.map (.int .i64)))), (4, .val (.int .i64 t4)), (5, .val (.bool t5)), (6, .val (.int .i64 over)), (7, .val (.bool on)), (10, .par 1 (.sl e.length (e.map (.int .i64)))), (11, .val (.int .i64 (e.length))), (12, .val (.int .i64 t12))] _
    obtain ⟨i1, i2, rfl, rfl⟩ := hI
    have hov := ovI_le he c t12.toNat
    have hx := he t12.toNat
    refine code_seq (fun K5 hK5 => ?_)
    refine code_region ?_
    refine list_cons rfl (op_q (q_lt rfl rfl (by decide)) ?_)
    refine list_nil ?_
    refine hK5 _ ?_; clear hK5 K5
    refine code_seq (fun K6 hK6 => ?_)
    refine code_cond_d rfl (fun h1 => ?_) (fun h1 => ?_)
    · skip
      (try simp only [Decidable.not_not] at h1)
      refine code_skip ?_
      refine hK6 _ ?_; clear hK6 K6
      refine code_seq (fun K7 hK7 => ?_)
      refine code_block ?_
      refine code_seq (fun K8 hK8 => ?_)
      refine code_region ?_
      refine list_cons rfl (op_q (q_indexAddr_rd sl_24 rfl (.inl ⟨_, rfl, rfl⟩) rfl (by omega) (by omega) (by decide)) ?_)
      refine list_cons rfl (op_q (q_load_rd one_3 rfl (.inl ⟨_, (by first | rfl | exact congrArg (SV.rpar _) (drop_map1 _ 0 _ (by first | omega | (simp; omega)))), rfl⟩) (by decide)) ?_)
      refine list_cons rfl (op_q (q_assign rfl (by decide)) ?_)
      refine list_nil ?_
      refine hK8 _ ?_; clear hK8 K8
      refine code_seq (fun K9 hK9 => ?_)
      refine code_region ?_
      refine list_cons rfl (op_q (q_move rfl (by decide)) ?_)
      refine list_cons rfl (op_q (q_move rfl (by decide)) ?_)
      refine list_cons rfl (op_q (by first | exact q_andNotI rfl rfl (by decide) (by omega) (by omega) (by omega) (by omega) | exact q_ib rfl rfl rfl (by decide)) ?_)
      refine list_cons rfl (op_q (q_eq rfl rfl (by decide)) ?_)
      refine list_nil ?_
      refine hK9 _ ?_; clear hK9 K9
      refine code_cond_d rfl (fun h2 => ?_) (fun h2 => ?_)
      · skip
        (try simp only [Decidable.not_not] at h2)
        refine code_region ?_
        refine list_cons rfl (op_q (q_move rfl (by decide)) ?_)
        refine list_cons rfl (op_q (q_move rfl (by decide)) ?_)
        refine list_cons rfl (op_q (by first | exact q_orI rfl rfl (by decide) (by omega) (by omega) (by omega) (by omega) | exact q_ib rfl rfl rfl (by decide)) ?_)
        refine list_cons rfl (op_q (q_assign rfl (by decide)) ?_)
        refine list_cons rfl (op_q (q_assign rfl (by decide)) ?_)
        refine list_nil ?_
        refine blk_n ?_
        refine hK7 _ ?_; clear hK7 K7
        refine codeT.imp (σ' := [(0, _), (1, _), (4, _), (5, _), (6, _), (7, _), (9, _), (10, _), (11, _), (12, _)]) ?_ (imp_covers ⟨rfl, rfl, rfl, rfl, rfl, rfl, rfl, rfl, rfl, rfl, trivial⟩)
        refine code_region ?_
        refine list_cons rfl (op_q (by first | exact q_addI rfl rfl (by decide) (by omega) (by omega) | exact q_ib rfl rfl rfl (by decide)) ?_)
        refine list_cons rfl (op_q (q_move rfl (by decide)) ?_)
        refine list_nil ?_
        refine then_n ⟨(_, _, _, _, _), imp_covers ⟨rfl, rfl, rfl, rfl, rfl, rfl, rfl, rfl, rfl, trivial⟩, ?_, ?_⟩
        · (try dsimp only)
          have h := (andNot_0 p0 p1 hx).1 h2
          refine ⟨by omega, by omega, ?_, ?_⟩
          · rw [show (t12 + 1).toNat = t12.toNat + 1 by omega]; exact ovI_up he h
          · rw [show (t12 + 1).toNat = t12.toNat + 1 by omega]; exact (decide_eq_true (onJ_up h)).symm
        · (try dsimp only); omega
      (try simp only [Decidable.not_not] at h2)
      refine code_skip ?_
      refine blk_n ?_
      refine hK7 _ ?_; clear hK7 K7
      refine codeT.imp (σ' := [(0, _), (1, _), (4, _), (5, _), (6, _), (7, _), (9, _), (10, _), (11, _), (12, _)]) ?_ (imp_covers ⟨rfl, rfl, rfl, rfl, rfl, rfl, rfl, rfl, rfl, rfl, trivial⟩)
      refine code_region ?_
      refine list_cons rfl (op_q (by first | exact q_addI rfl rfl (by decide) (by omega) (by omega) | exact q_ib rfl rfl rfl (by decide)) ?_)
      refine list_cons rfl (op_q (q_move rfl (by decide)) ?_)
      refine list_nil ?_
      refine then_n ⟨(_, _, _, _, _), imp_covers ⟨rfl, rfl, rfl, rfl, rfl, rfl, rfl, rfl, rfl, trivial⟩, ?_, ?_⟩
      · (try dsimp only)
        have h := fun z => h2 ((andNot_0 p0 p1 hx).2 z)
        refine ⟨by omega, by omega, ?_, ?_⟩
        · rw [show (t12 + 1).toNat = t12.toNat + 1 by omega]; exact (ovI_no h).symm
        · rw [show (t12 + 1).toNat = t12.toNat + 1 by omega]; exact decide_eq_decide.mpr (onJ_no h).symm
      · (try dsimp only); omega
    (try simp only [Decidable.not_not] at h1)
    refine code_exit ?_
    refine then_x ?_; clear hK6 K6
    refine then_x ?_
    refine blk_hit ?_
    refine hK3 _ ?_; clear hK3 K3
    refine code_seq (fun K10 hK10 => ?_)
    refine code_region ?_
    refine list_cons rfl (op_q (q_move rfl (by decide)) ?_)
    refine list_cons rfl (op_q (q_move rfl (by decide)) ?_)
    refine list_cons rfl (op_q (by first | exact q_andNotI rfl rfl (by decide) (by omega) (by omega) (by omega) (by omega) | exact q_ib rfl rfl rfl (by decide)) ?_)
    refine list_cons rfl (op_q (q_move rfl (by decide)) ?_)
    refine list_cons rfl (op_q (q_assign rfl (by decide)) ?_)
    refine list_cons rfl (op_q (q_assign rfl (by decide)) ?_)
    refine list_nil ?_
    refine hK10 _ ?_; clear hK10 K10
    refine code_ret ?_
    refine ends_ret (cs := []) rfl rfl rfl rfl trivial ?_
    have ht : t12.toNat = e.length := by omega
    rw [ht, lit_fin he]
    first | rfl

theorem mex_init (L : List Int) : mexL L = ((mxS L (Int.toNat 0) : Nat) : Int) := rfl
theorem num_bd {e : List Int} (he : CellsP e) (c m : Nat) : ∀ x ∈ (nxK e c m).map (val fN e), 0 ≤ x ∧ x ≤ 128 := fun x hx => by
  obtain ⟨y, hy, rfl⟩ := List.mem_map.1 hx
  have := num_le he y (nx_lt he hy); omega
theorem VN_eq {e : List Int} (he : CellsP e) {c : Int} (h : 0 ≤ c ∧ c ≤ 127) : PV.int .i64 (mexL ((nxK e c.toNat 7).map (val fN e))) = VN e c.toNat := by
  unfold VN
  rw [val_eq fN he (by omega)]; rfl
theorem VB_eq {f : Nat → List Bool → Bool} {e : List Int} (he : CellsP e) {c : Int} (h : 0 ≤ c ∧ c ≤ 127) : PV.bool (decide (f c.toNat ((nxK e c.toNat 7).map (val f e)) = true)) = VB f e c.toNat := by
  unfold VB
  rw [val_eq f he (by omega)]
theorem nN_app {e : List Int} {N N2 : List Nat} {x : Nat} (hN : N2 = N ++ [x]) : N.map (VN e) ++ [PV.int .i64 (val fN e x)] = N2.map (VN e) := by
  subst hN
  rw [List.map_append]; rfl
theorem nB_app {f : Nat → List Bool → Bool} {e : List Int} {N N2 : List Nat} {x : Nat} (hN : N2 = N ++ [x]) : N.map (VB f e) ++ [PV.bool (decide (val f e x = true))] = N2.map (VB f e) := by
  subst hN
  rw [List.map_append]; rfl
theorem len_app {N N2 : List Nat} {x : Nat} (hN : N2 = N ++ [x]) : N.length + 1 = N2.length := by subst hN; rw [List.length_append]; rfl
theorem VN_map (e : List Int) (N : List Nat) : N.map (VN e) = (N.map (val fN e)).map (PV.int .i64) := by rw [List.map_map]; rfl
theorem VB_map (f : Nat → List Bool → Bool) (e : List Int) (N : List Nat) : N.map (VB f e) = (N.map (val f e)).map pvB := by rw [List.map_map]; rfl
theorem flat_VN (e : List Int) (N : List Nat) : PV.flatL (N.map (VN e)) = true := flat_map _ (fun _ => rfl) _
theorem flat_VB (f : Nat → List Bool → Bool) (e : List Int) (N : List Nat) : PV.flatL (N.map (VB f e)) = true := flat_map _ (fun _ => rfl) _
theorem miss_any (L : List Bool) (c : Nat) : fM c L = (L.isEmpty || anyB L L.length) := by rw [anyB_all]; rfl
theorem race_any (e : List Int) (L : List Bool) (c : Nat) : fR (shE e) c L = (!shE e c && anyB L L.length) := by rw [anyB_all]; rfl
theorem val_way {α : Type} {f : Nat → List α → α} {c : Int} {l : List Int} (h : WayP c l) : val f (gcE l) c.toNat = val f (dcd l) c.toNat := by rw [gcE_yes h.1]
theorem rc_not {c : Int} {l : List Int} (h : hasK (gcE l) c (gcE l).length = true) : ¬ RcP c l := fun z => by
  rw [gcE_yes z.1.1] at h
  refine z.2 ?_
  unfold shE
  rw [Int.toNat_of_nonneg z.1.2.1.1]; exact h
theorem rc_yes {c : Int} {l : List Int} (h : ¬ hasK (gcE l) c (gcE l).length = true) (hW : WayP c l) : RcP c l := ⟨hW, fun z => h (by
  unfold shE at z
  rw [Int.toNat_of_nonneg hW.2.1.1] at z
  rw [gcE_yes hW.1]; exact z)⟩
theorem race_rc {c : Int} {l : List Int} (h : RcP c l) : (val (fR (shE (gcE l))) (gcE l) c.toNat = true) ↔ (rcE (dcd l) c.toNat = true) := by
  have hc := h.1.2.1
  have h2 : shE (dcd l) c.toNat = false := by simpa using h.2
  rw [gcE_yes h.1.1, race_val (dcd_cells l) c.toNat (by omega), h2]; rfl


set_option maxRecDepth 4000 in
theorem impl_mexRule (c : Int) (L : List Int) (hL : ∀ x ∈ L, 0 ≤ x ∧ x ≤ 128) (hl : L.length ≤ 1000) : PCalls Tryd.prog 96 [.int .i64 c, .sl L.length (L.map (.int .i64))] (· = [.val (.int .i64 (mexL L))]) := by
  refine pcalls_of_code (n := 12) az Tryd.func96 (by kernel_rfl) rfl rfl (Nat.le_of_ble_eq_true rfl) (by intro t u h; simp [Tryd.f96] at h) ?_
  refine code_seq (fun K1 hK1 => ?_)
  refine code_region ?_
  refine list_cons rfl (op_q (q_assign rfl (by decide)) ?_)
  refine list_nil ?_
  refine hK1 _ ?_; clear hK1 K1
  refine code_seq (fun K2 hK2 => ?_)
  refine code_region ?_
  refine list_cons rfl (op_q (q_assign rfl (by decide)) ?_)
  refine list_nil ?_
  refine hK2 _ ?_; clear hK2 K2
  refine code_seq (fun K3 hK3 => ?_)
  refine code_block ?_
  refine code_loop (X := Int × Int) (fun x => [(0, .val (.int .i64 c)), (1, .par 1 (.sl L.length (L.map (.int .i64)))), (4, .val (.int .i64 x.1)), (5, .val (.int .i64 x.2))]) (fun x => 0 ≤ x.2 ∧ x.2 ≤ 129 ∧ mexL L = ((mxS L x.2.toNat : Nat) : Int)) (fun x => (130 - x.2).toNat) (_, _) (imp_covers ⟨rfl, rfl, rfl, rfl, trivial⟩) ?_ ?_
  · (try dsimp only)
    exact ⟨by omega, by omega, mex_init L⟩
  · intro x hI
    obtain ⟨t4, least⟩ := x
    replace hI : 0 ≤ least ∧ least ≤ 129 ∧ mexL L = ((mxS L least.toNat : Nat) : Int) := hI
    show codeT _ _ _ [(0, .val (.int .i64 c)), (1, .par 1 (.sl L.length (L.map (.int .i64)))), (4, .val (.int .i64 t4)), (5, .val (.int .i64 least))] _
    obtain ⟨i1, i2, i3⟩ := hI
    have hlt : ((least.toNat : Nat) : Int) = least := Int.toNat_of_nonneg i1
    refine code_seq (fun K4 hK4 => ?_)
    refine code_seq (fun K5 hK5 => ?_)
    refine code_region ?_
    refine list_cons rfl (op_q (q_move rfl (by decide)) ?_)
    refine list_cons rfl (op_q (q_move rfl (by decide)) ?_)
    refine list_cons rfl (op_call _ (containsG_c L _ (by omega)) rfl rfl (by decide) (by decide) (by decide) rfl ?_)
    rintro _ rfl
    refine list_nil ?_
    refine hK5 _ ?_; clear hK5 K5
    refine codeT.imp (σ' := [(0, _), (1, _), (4, _), (5, _), (8, _)]) ?_ (imp_covers ⟨rfl, rfl, rfl, rfl, rfl, trivial⟩)
    refine code_cond_d rfl (fun h1 => ?_) (fun h1 => ?_)
    · skip
      (try simp only [Decidable.not_not] at h1)
      refine code_skip ?_
      refine hK4 _ ?_; clear hK4 K4
      refine code_block ?_
      refine code_region ?_
      refine list_cons rfl (op_q (q_move rfl (by decide)) ?_)
      refine list_cons rfl (op_q (by first | exact q_addI rfl rfl (by decide) (by omega) (by omega) | exact q_ib rfl rfl rfl (by decide)) ?_)
      refine list_cons rfl (op_q (q_assign rfl (by decide)) ?_)
      refine list_nil ?_
      refine blk_n ?_
      refine then_n ⟨(_, _), imp_covers ⟨rfl, rfl, rfl, rfl, trivial⟩, ?_, ?_⟩
      · (try dsimp only)
        have hb := hL _ (hasK_mem (Nat.le_refl _) h1)
        exact ⟨by omega, by omega, by rw [i3, mxS_yes (by omega) (by rw [hlt]; exact h1), show (least + 1).toNat = least.toNat + 1 by omega]⟩
      · (try dsimp only); have hb := hL _ (hasK_mem (Nat.le_refl _) h1); omega
    (try simp only [Decidable.not_not] at h1)
    refine code_exit ?_
    refine then_x ?_; clear hK4 K4
    refine then_x ?_
    refine blk_hit ?_
    refine hK3 _ ?_; clear hK3 K3
    refine code_seq (fun K6 hK6 => ?_)
    refine code_region ?_
    refine list_cons rfl (op_q (q_move rfl (by decide)) ?_)
    refine list_cons rfl (op_q (q_assign rfl (by decide)) ?_)
    refine list_nil ?_
    refine hK6 _ ?_; clear hK6 K6
    refine code_ret ?_
    refine ends_ret (cs := []) rfl rfl rfl rfl trivial ?_
    rw [i3, mxS_no (by omega) (by rw [hlt]; exact h1), hlt]

theorem impl_mexE (c : Int) (L : List Int) (k : Nat) (cs : List PV) (hL : ∀ x ∈ L, 0 ≤ x ∧ x ≤ 128) (hl : L.length ≤ 1000) (hk : k = L.length) (hc : cs = L.map (PV.int .i64)) : PCalls Tryd.prog 96 [.int .i64 c, .sl k cs] (· = [.val (.int .i64 (mexL L))]) := by
  subst hk; subst hc; exact impl_mexRule c L hL hl

set_option maxRecDepth 8000 in
set_option maxHeartbeats 2000000 in
theorem impl_toldN (e : List Int) (he : CellsP e) (hel : e.length ≤ 1000) : PCalls Tryd.prog 95 [.sl e.length (e.map (.int .i64)), .clo 96 []] (· = [.map 0 (tE e (VN e) 128)]) := by
  refine pcalls_of_code (n := 48) az Tryd.func95 (by kernel_rfl) rfl rfl (Nat.le_of_ble_eq_true rfl) (by intro t u h; simp [Tryd.f95] at h) ?_
  refine code_seq (fun K1 hK1 => ?_)
  refine code_region ?_
  refine list_cons rfl (op_q (q_deadconst (by decide)) ?_)
  refine list_nil ?_
  refine hK1 _ ?_; clear hK1 K1
  refine code_seq (fun K2 hK2 => ?_)
  refine code_region ?_
  refine list_cons rfl (op_makeMap Tryd.underlying56 (.inr ⟨_, _, rfl, rfl⟩) (by decide) (by decide) rfl ?_)
  refine list_cons rfl (op_q (q_assign rfl (by decide)) ?_)
  refine list_nil ?_
  refine hK2 _ ?_; clear hK2 K2
  refine codeT.imp (σ' := [(0, .par 0 _), (1, .val _), (4, _), (5, _)]) ?_ (imp_covers ⟨rfl, rfl, rfl, rfl, trivial⟩)
  refine code_seq (fun K3 hK3 => ?_)
  refine code_seq (fun K4 hK4 => ?_)
  refine code_region ?_
  refine list_cons rfl (op_q (q_assign rfl (by decide)) ?_)
  refine list_nil ?_
  refine hK4 _ ?_; clear hK4 K4
  refine code_block ?_
  refine code_loop (X := List (PV × PV) × Int) (fun x => [(0, .par 0 (.sl e.length (e.map (.int .i64)))), (1, .val (.clo 96 [])), (5, .map 11 x.1), (6, .val (.int .i64 x.2))]) (fun x => -1 ≤ x.2 ∧ x.2 ≤ 127 ∧ x.1 = tE e (VN e) (127 - x.2).toNat) (fun x => (x.2 + 1).toNat) (_, _) (imp_covers ⟨rfl, rfl, rfl, rfl, trivial⟩) ?_ ?_
  · (try dsimp only)
    exact ⟨by omega, by omega, rfl⟩
  · intro x hI
    obtain ⟨told_m, c⟩ := x
    replace hI : -1 ≤ c ∧ c ≤ 127 ∧ told_m = tE e (VN e) (127 - c).toNat := hI
    show codeT _ _ _ [(0, .par 0 (.sl e.length (e.map (.int .i64)))), (1, .val (.clo 96 [])), (5, .map 11 told_m), (6, .val (.int .i64 c))] _
    obtain ⟨i1, i2, rfl⟩ := hI
    refine code_seq (fun K5 hK5 => ?_)
    refine code_seq (fun K6 hK6 => ?_)
    refine code_region ?_
    refine list_cons rfl (op_q (q_move rfl (by decide)) ?_)
    refine list_cons rfl (op_q (q_ge rfl rfl (by decide)) ?_)
    refine list_nil ?_
    refine hK6 _ ?_; clear hK6 K6
    refine code_cond_d rfl (fun h1 => ?_) (fun h1 => ?_)
    · skip
      (try simp only [Decidable.not_not] at h1)
      refine code_skip ?_
      refine hK5 _ ?_; clear hK5 K5
      refine code_seq (fun K7 hK7 => ?_)
      refine code_block ?_
      refine code_seq (fun K8 hK8 => ?_)
      refine code_region ?_
      refine list_cons rfl (op_q (q_move rfl (by decide)) ?_)
      refine list_cons rfl (op_q (q_move rfl (by decide)) ?_)
      refine list_cons rfl (op_call _ (impl_lightableIn c e (by omega) (by omega) he (by omega)) rfl rfl (by decide) (by decide) (by decide) rfl ?_)
      rintro _ rfl; have hlb := litI_le he c
      refine list_cons rfl (op_q (q_move rfl (by decide)) ?_)
      refine list_cons rfl (op_q (q_extract rfl rfl (by decide)) ?_)
      refine list_cons rfl (op_q (q_extract rfl rfl (by decide)) ?_)
      refine list_cons rfl (op_q (q_assign rfl (by decide)) ?_)
      refine list_cons rfl (op_q (q_assign rfl (by decide)) ?_)
      refine list_nil ?_
      refine hK8 _ ?_; clear hK8 K8
      refine codeT.imp (σ' := [(0, .par 0 _), (1, .val _), (5, _), (6, .val (.int .i64 _)), (7, .val (.int .i64 _)), (8, .val (.bool _))]) ?_ (imp_covers ⟨rfl, rfl, rfl, rfl, rfl, rfl, trivial⟩)
      refine code_seq (fun K9 hK9 => ?_)
      refine code_seq (fun K10 hK10 => ?_)
      refine code_region ?_
      refine list_cons rfl (op_q (q_move rfl (by decide)) ?_)
      refine list_cons rfl (op_q (by first | exact q_notd rfl (by decide) | exact q_not rfl (by decide)) ?_)
      refine list_nil ?_
      refine hK10 _ ?_; clear hK10 K10
      refine code_cond_d rfl (fun h2 => ?_) (fun h2 => ?_)
      · skip
        (try simp only [Decidable.not_not] at h2)
        refine code_exit ?_
        refine then_x ?_; clear hK9 K9
        refine blk_hit ?_
        refine hK7 _ ?_; clear hK7 K7
        refine code_region ?_
        refine list_cons rfl (op_q (q_move rfl (by decide)) ?_)
        refine list_cons rfl (op_q (by first | exact q_subI rfl rfl (by decide) (by omega) (by omega) | exact q_ib rfl rfl rfl (by decide)) ?_)
        refine list_cons rfl (op_q (q_assign rfl (by decide)) ?_)
        refine list_nil ?_
        refine then_n ⟨(_, _), imp_covers ⟨rfl, rfl, rfl, rfl, trivial⟩, ?_, ?_⟩
        · (try dsimp only)
          refine ⟨by omega, by omega, ?_⟩
          exact tE_skipI (by omega) (by omega) (by assumption)
        · (try dsimp only); omega
      (try simp only [Decidable.not_not] at h2)
      refine code_skip ?_
      refine hK9 _ ?_; clear hK9 K9
      refine code_seq (fun K11 hK11 => ?_)
      refine code_region ?_
      refine list_cons rfl (op_buildSlice sl_24 (parts := []) rfl rfl rfl (by decide) (by decide) (by decide) rfl ?_)
      refine list_cons rfl (op_q (q_assign rfl (by decide)) ?_)
      refine list_nil ?_
      refine hK11 _ ?_; clear hK11 K11
      refine code_seq (fun K12 hK12 => ?_)
      refine code_seq (fun K13 hK13 => ?_)
      refine code_region ?_
      refine list_cons rfl (op_q (q_move rfl (by decide)) ?_)
      refine list_nil ?_
      refine hK13 _ ?_; clear hK13 K13
      refine code_block ?_
      refine code_loop (X := Nat × List PV × Int) (fun x => [(0, .par 0 (.sl e.length (e.map (.int .i64)))), (1, .val (.clo 96 [])), (5, .map 11 (tE e (VN e) (127 - c).toNat)), (6, .val (.int .i64 (c))), (7, .val (.int .i64 (litI e c))), (9, .own 24 3 1 x.1 x.2.1), (25, .val (.int .i64 x.2.2))]) (fun x => 0 ≤ x.2.2 ∧ x.2.2 ≤ 7 ∧ x.1 = (nxK e c.toNat x.2.2.toNat).length ∧ x.2.1 = (nxK e c.toNat x.2.2.toNat).map (VN e)) (fun x => (7 - x.2.2).toNat) (_, _, _) (imp_covers ⟨rfl, rfl, rfl, rfl, rfl, rfl, rfl, trivial⟩) ?_ ?_
      · (try dsimp only)
        exact ⟨by omega, by omega, rfl, rfl⟩
      · intro x hI
        obtain ⟨next_n, next_c, t25⟩ := x
        replace hI : 0 ≤ t25 ∧ t25 ≤ 7 ∧ next_n = (nxK e c.toNat t25.toNat).length ∧ next_c = (nxK e c.toNat t25.toNat).map (VN e) := hI
        show codeT _ _ _ [(0, .par 0 (.sl e.length (e.map (.int .i64)))), (1, .val (.clo 96 [])), (5, .map 11 (tE e (VN e) (127 - c).toNat)), (6, .val (.int .i64 (c))), (7, .val (.int .i64 (litI e c))), (9, .own 24 3 1 next_n next_c), (25, .val (.int .i64 t25))] _
        obtain ⟨j1, j2, rfl, rfl⟩ := hI
        have hnl := nxK_len e c.toNat t25.toNat
        have hp2 := p2_le (k := t25.toNat) (by omega)
        refine code_seq (fun K14 hK14 => ?_)
        refine code_region ?_
        refine list_cons rfl (op_q (q_lt rfl rfl (by decide)) ?_)
        refine list_nil ?_
        refine hK14 _ ?_; clear hK14 K14
        refine code_seq (fun K15 hK15 => ?_)
        refine code_cond_d rfl (fun h3 => ?_) (fun h3 => ?_)
        · skip
          (try simp only [Decidable.not_not] at h3)
          refine code_skip ?_
          refine hK15 _ ?_; clear hK15 K15
          refine code_seq (fun K16 hK16 => ?_)
          refine code_block ?_
          refine code_seq (fun K17 hK17 => ?_)
          refine code_region ?_
          refine list_cons rfl (op_q (q_move rfl (by decide)) ?_)
          refine list_cons rfl (op_q (q_assign rfl (by decide)) ?_)
          refine list_nil ?_
          refine hK17 _ ?_; clear hK17 K17
          refine code_seq (fun K18 hK18 => ?_)
          refine code_region ?_
          refine list_cons rfl (op_q (q_move rfl (by decide)) ?_)
          refine list_cons rfl (op_q (q_move rfl (by decide)) ?_)
          refine list_cons rfl (op_call _ (impl_hasBar (litI e c) t25 hlb (by omega)) rfl rfl (by decide) (by decide) (by decide) rfl ?_)
          rintro _ rfl
          refine list_nil ?_
          refine hK18 _ ?_; clear hK18 K18
          refine codeT.imp (σ' := [(0, .par 0 _), (1, .val _), (5, _), (6, .val (.int .i64 _)), (7, .val (.int .i64 _)), (9, .own 24 3 1 _ _), (10, .val (.int .i64 _)), (25, .val (.int .i64 _)), (30, .val (.bool _))]) ?_ (imp_covers ⟨rfl, rfl, rfl, rfl, rfl, rfl, rfl, rfl, rfl, trivial⟩)
          refine code_cond_d rfl (fun h4 => ?_) (fun h4 => ?_)
          · skip
            (try simp only [Decidable.not_not] at h4)
            refine code_region ?_
            refine list_cons rfl (op_q (q_move rfl (by decide)) ?_)
            refine list_cons rfl (op_q (q_move rfl (by decide)) ?_)
            refine list_cons rfl (op_q (q_move rfl (by decide)) ?_)
            refine list_cons rfl (op_q (q_move rfl (by decide)) ?_)
            refine list_cons rfl (op_q (by first | exact q_shl1 rfl rfl (by decide) (by omega) (by omega) | exact q_shlI rfl rfl (by decide) (by omega) (by omega) (by omega) | exact q_shl rfl rfl (by omega) (by decide)) ?_)
            refine list_cons rfl (op_q (by first | exact q_orI rfl rfl (by decide) (by omega) (by omega) (by omega) (by omega) | exact q_ib rfl rfl rfl (by decide)) ?_)
            by_cases h5 : (0 : Int) ≤ c
            · skip
              refine list_cons rfl (op_q (q_lookup (tk := .int .i64) Tryd.underlying56 Tryd.underlying3 zvt_3 rfl rfl rfl (tE_hit (x := upN c.toNat t25.toNat) rfl (nx_okE (by omega) (by assumption)).2.1 (by omega) (by have := (nx_okE (by omega) (by assumption : bitN (litI e c).toNat t25.toNat = true)).2.2.1; omega) (up_lt (by omega) (by omega))) (by decide)) ?_)
              refine list_cons rfl (op_buildSlice sl_24 (parts := [(0, .tmp 37)]) rfl rfl rfl (by decide) (by decide) (by decide) rfl ?_)
              refine list_cons rfl (op_append_gen sl_24 (l := 24) (.inl rfl) rfl rfl (l2 := none) (.inl ⟨rfl, (by first | rfl | exact flat_map _ (fun _ => rfl) _)⟩) (by first | rfl | (simp; done) | (simp; omega)) (by omega) (by decide) (by decide) (by decide) ?_)
              refine list_cons rfl (op_q (q_assign rfl (by decide)) ?_)
              refine list_nil ?_
              refine blk_n ?_
              refine hK16 _ ?_; clear hK16 K16
              refine codeT.imp (σ' := [(0, .par 0 _), (1, .val _), (5, _), (6, .val (.int .i64 _)), (7, .val (.int .i64 _)), (9, .own 24 3 1 _ _), (10, .val (.int .i64 _)), (25, .val (.int .i64 _))]) ?_ (imp_covers ⟨rfl, rfl, rfl, rfl, rfl, rfl, rfl, rfl, trivial⟩)
              refine code_region ?_
              refine list_cons rfl (op_q (by first | exact q_addI rfl rfl (by decide) (by omega) (by omega) | exact q_ib rfl rfl rfl (by decide)) ?_)
              refine list_cons rfl (op_q (q_move rfl (by decide)) ?_)
              refine list_nil ?_
              refine then_n ⟨(_, _, _), imp_covers ⟨rfl, rfl, rfl, rfl, rfl, rfl, rfl, trivial⟩, ?_, ?_⟩
              · (try dsimp only)
                have hN := (nx_okE (by omega) (by assumption : bitN (litI e c).toNat t25.toNat = true)).2.2.2
                exact ⟨by omega, by omega, len_app hN, nN_app hN⟩
              · (try dsimp only); omega
            · skip
              exact absurd (by omega) h5
          (try simp only [Decidable.not_not] at h4)
          refine code_skip ?_
          refine blk_n ?_
          refine hK16 _ ?_; clear hK16 K16
          refine code_region ?_
          refine list_cons rfl (op_q (by first | exact q_addI rfl rfl (by decide) (by omega) (by omega) | exact q_ib rfl rfl rfl (by decide)) ?_)
          refine list_cons rfl (op_q (q_move rfl (by decide)) ?_)
          refine list_nil ?_
          refine then_n ⟨(_, _, _), imp_covers ⟨rfl, rfl, rfl, rfl, rfl, rfl, rfl, trivial⟩, ?_, ?_⟩
          · (try dsimp only)
            have hN := nx_noE (by omega) (by assumption : onP e c) (by assumption : ¬ bitN (litI e c).toNat t25.toNat = true)
            refine ⟨by omega, by omega, ?_, ?_⟩
            · exact (congrArg (fun N => N.length) hN).symm
            · exact (congrArg (fun N => N.map (VN e)) hN).symm
          · (try dsimp only); omega
        (try simp only [Decidable.not_not] at h3)
        refine code_exit ?_
        refine then_x ?_; clear hK15 K15
        refine then_x ?_
        refine blk_hit ?_
        refine hK12 _ ?_; clear hK12 K12
        refine code_region ?_
        refine list_cons rfl (op_q (q_move rfl (by decide)) ?_)
        refine list_cons rfl (op_q (q_move rfl (by decide)) ?_)
        refine list_cons rfl (op_q (q_move rfl (by decide)) ?_)
        refine list_cons rfl (op_q (q_move rfl (by decide)) ?_)
        refine list_cons rfl (op_q (q_move rfl (by decide)) ?_)
        refine list_cons rfl (op_callV _ rfl rfl rfl rfl (pcV (impl_mexE c ((nxK e c.toNat t25.toNat).map (val fN e)) _ _ (num_bd he _ _) (by rw [List.length_map]; omega) (by rw [List.length_map]) (VN_map e _))) (by decide) ?_)
        rintro _ rfl
        refine list_cons rfl (op_mapset (h := 5) (tk := .int .i64) (.inl rfl) rfl Tryd.underlying56 Tryd.underlying3 rfl rfl rfl rfl rfl rfl rfl (tE_newI (by omega) (by omega)) ?_)
        refine list_nil ?_
        refine blk_n ?_
        refine hK7 _ ?_; clear hK7 K7
        refine codeT.imp (σ' := [(0, .par 0 _), (1, .val _), (5, _), (6, .val (.int .i64 _)), (7, .val (.int .i64 _)), (9, .own 24 3 1 _ _), (25, .val (.int .i64 _))]) ?_ (imp_covers ⟨rfl, rfl, rfl, rfl, rfl, rfl, rfl, trivial⟩)
        refine code_region ?_
        refine list_cons rfl (op_q (q_move rfl (by decide)) ?_)
        refine list_cons rfl (op_q (by first | exact q_subI rfl rfl (by decide) (by omega) (by omega) | exact q_ib rfl rfl rfl (by decide)) ?_)
        refine list_cons rfl (op_q (q_assign rfl (by decide)) ?_)
        refine list_nil ?_
        refine then_n ⟨(_, _), imp_covers ⟨rfl, rfl, rfl, rfl, trivial⟩, ?_, ?_⟩
        · (try dsimp only)
          refine ⟨by omega, by omega, ?_⟩
          have h7 : t25.toNat = 7 := by omega
          first
          | (rw [h7, VN_eq he ⟨by omega, by omega⟩]
             exact tE_putI (by omega) (by omega) (by assumption))
        · (try dsimp only); omega
    (try simp only [Decidable.not_not] at h1)
    refine code_exit ?_
    refine then_x ?_; clear hK5 K5
    refine then_x ?_
    refine blk_hit ?_
    refine hK3 _ ?_; clear hK3 K3
    refine code_seq (fun K19 hK19 => ?_)
    refine code_region ?_
    refine list_cons rfl (op_q (q_move rfl (by decide)) ?_)
    refine list_cons rfl (op_q (q_assign rfl (by decide)) ?_)
    refine list_nil ?_
    refine hK19 _ ?_; clear hK19 K19
    refine code_ret ?_
    refine ends_ret (cs := []) rfl rfl rfl rfl trivial ?_
    rw [show (127 - c).toNat = 128 by omega]

set_option maxRecDepth 4000 in
theorem impl_numbersByCell (l : List Int) (hl : l.length ≤ 4611686018427387904) : PCalls Tryd.prog 61 [.sl l.length (l.map (.int .i64))] (· = [.map 0 (tE (gcE l) (VN (gcE l)) 128)]) := by
  refine pcalls_of_code (n := 6) az Tryd.func61 (by kernel_rfl) rfl rfl (Nat.le_of_ble_eq_true rfl) (by intro t u h; simp [Tryd.f61] at h) ?_
  refine code_seq (fun K1 hK1 => ?_)
  refine code_region ?_
  refine list_cons rfl (op_q (q_deadconst (by decide)) ?_)
  refine list_nil ?_
  refine hK1 _ ?_; clear hK1 K1
  refine code_seq (fun K2 hK2 => ?_)
  refine code_region ?_
  refine list_cons rfl (op_q (q_move rfl (by decide)) ?_)
  refine list_cons rfl (op_call _ (impl_goalCells l (by omega)) rfl rfl (by decide) (by decide) (by decide) rfl ?_)
  rintro _ rfl
  refine list_cons rfl (op_call _ (impl_toldN (gcE l) (gcE_cells l) (by have := gcE_len l; omega)) rfl rfl (by decide) (by decide) (by decide) rfl ?_)
  rintro _ rfl
  refine list_cons rfl (op_q (q_assign rfl (by decide)) ?_)
  refine list_nil ?_
  refine hK2 _ ?_; clear hK2 K2
  refine codeT.imp (σ' := [(0, _), (2, _)]) ?_ (imp_covers ⟨rfl, rfl, trivial⟩)
  refine code_ret ?_
  refine ends_ret (cs := []) rfl rfl rfl rfl trivial ?_
  rfl

theorem tE_prop {e : List Int} {V : Nat → PV} {p : PV → Bool} (hk : ∀ n, p (.int .i64 n) = true) (hv : ∀ x, p (V x) = true) : ∀ k, ∀ q ∈ tE e V k, p q.1 = true ∧ p q.2 = true
  | 0, q, h => by simp [tE] at h
  | k + 1, q, h => by
    rw [tE_succ] at h
    split at h
    · rcases List.mem_append.1 h with h | h
      · exact tE_prop hk hv k q h
      · rw [List.mem_singleton.1 h]; exact ⟨hk _, hv _⟩
    · exact tE_prop hk hv k q h
theorem tE_one (e : List Int) (k : Nat) : oneE (tE e (VN e) k) := fun q hq => tE_prop (p := PV.one) (fun _ => rfl) (fun _ => rfl) k q hq
theorem tE_flE (e : List Int) (k : Nat) : flE (tE e (VN e) k) := fun q hq => tE_prop (p := PV.flat) (fun _ => rfl) (fun _ => rfl) k q hq
theorem wro_on {r l : List Int} (h : WroP r l) : ∀ j, j < r.length → onP (gcE l) (r.getD j 0) := fun j hj => by
  rw [gcE_yes h.1]
  exact ⟨h.2.1.at hj, h.2.2 j hj⟩
theorem xrK_gc {r l : List Int} (h : DigP l) (k : Nat) : xrK (gcE l) r k = xrK (dcd l) r k := by rw [gcE_yes h]


set_option maxRecDepth 8000 in
set_option maxHeartbeats 2000000 in
theorem impl_numbersForY (r l : List Int) (hr : r.length ≤ 4611686018427387904) (hl : l.length ≤ 4611686018427387904) (hW : WroP r l) : PCalls Tryd.prog 53 [.sl r.length (r.map (.int .i64)), .sl l.length (l.map (.int .i64))] (· = [.frz 0 (.mp (flatE (tE (gcE l) (VN (gcE l)) 128))), .val (.bool true)]) := by
  refine pcalls_of_code (n := 37) az Tryd.func53 (by kernel_rfl) rfl rfl (Nat.le_of_ble_eq_true rfl) (by intro t u h; simp [Tryd.f53] at h) ?_
  refine code_seq (fun K1 hK1 => ?_)
  refine code_region ?_
  refine list_cons rfl (op_q (q_assign rfl (by decide)) ?_)
  refine list_cons rfl (op_q (q_assign rfl (by decide)) ?_)
  refine list_nil ?_
  refine hK1 _ ?_; clear hK1 K1
  refine code_seq (fun K2 hK2 => ?_)
  refine code_seq (fun K3 hK3 => ?_)
  refine code_region ?_
  refine list_cons rfl (op_q (q_move rfl (by decide)) ?_)
  refine list_cons rfl (op_call _ (impl_IsRow _ (by first | omega | (simp; omega))) rfl rfl (by decide) (by decide) (by decide) rfl ?_)
  rintro _ rfl
  refine list_cons rfl (op_q (by first | exact q_notd rfl (by decide) | exact q_not rfl (by decide)) ?_)
  refine list_cons rfl (op_q (q_move rfl (by decide)) ?_)
  refine list_guard_d rfl rfl rfl rfl (by decide) rfl (by decide) (fun h1 => ?_) (fun h1 => ?_)
  · simp only [Bool.false_eq_true, if_true, if_false, Decidable.not_not] at h1
    refine id (op_q (q_move rfl (by decide)) ?_)
    refine list_guard_y rfl rfl rfl rfl (by decide) rfl ?_
    refine id (op_call _ (impl_IsGoal _ (by omega)) rfl rfl (by decide) (by decide) (by decide) rfl ?_)
    rintro _ rfl
    refine list_guard_y rfl rfl rfl rfl (by decide) rfl ?_
    refine id (op_q (by first | exact q_notd rfl (by decide) | exact q_not rfl (by decide)) ?_)
    refine list_cons rfl (op_q (q_pick rfl rfl (by decide)) ?_)
    refine list_nil ?_
    refine hK3 _ ?_; clear hK3 K3
    refine codeT.imp (σ' := [(0, _), (1, _), (4, _), (5, _), (18, _)]) ?_ (imp_covers ⟨rfl, rfl, rfl, rfl, rfl, trivial⟩)
    refine code_cond_d rfl (fun h2 => ?_) (fun h2 => ?_)
    · skip
      (try simp only [Decidable.not_not] at h2)
      refine code_seq (fun K4 hK4 => ?_)
      refine code_region ?_
      refine list_cons rfl (op_q (q_assign rfl (by decide)) ?_)
      refine list_cons rfl (op_q (q_assign rfl (by decide)) ?_)
      refine list_nil ?_
      refine hK4 _ ?_; clear hK4 K4
      refine code_ret ?_
      refine then_r ?_; clear hK2 K2
      refine ends_ret (cs := []) rfl rfl rfl rfl trivial ?_
      first
        | rfl
        | (exfalso; exact absurd hW.2.1 (by assumption))
        | (exfalso; exact absurd hW.1 (by assumption))
        | (exfalso; exact absurd (wro_on hW t23.toNat (by omega)) (by assumption))
        | (exfalso
           refine hW ⟨hD, hRo, fun j hj => ?_⟩
           have := (i3 j (by omega)).2
           rwa [gcE_yes hD] at this)
    (try simp only [Decidable.not_not] at h2)
    refine code_skip ?_
    refine hK2 _ ?_; clear hK2 K2
    refine code_seq (fun K5 hK5 => ?_)
    refine code_region ?_
    refine list_cons rfl (op_q (q_move rfl (by decide)) ?_)
    refine list_cons rfl (op_call _ (impl_numbersByCell l (by omega)) rfl rfl (by decide) (by decide) (by decide) rfl ?_)
    rintro _ rfl
    refine list_cons rfl (op_q (q_assign rfl (by decide)) ?_)
    refine list_nil ?_
    refine hK5 _ ?_; clear hK5 K5
    refine codeT.imp (σ' := [(0, _), (1, _), (4, _), (5, _), (6, _)]) ?_ (imp_covers ⟨rfl, rfl, rfl, rfl, rfl, trivial⟩)
    refine code_seq (fun K6 hK6 => ?_)
    refine code_seq (fun K7 hK7 => ?_)
    refine code_region ?_
    refine list_cons rfl (op_q (q_move rfl (by decide)) ?_)
    refine list_cons rfl (op_q (q_len_sl Tryd.underlying24 rfl rfl (by decide)) ?_)
    refine list_cons rfl (op_q (q_move rfl (by decide)) ?_)
    refine list_nil ?_
    refine hK7 _ ?_; clear hK7 K7
    refine code_block ?_
    refine code_loop (X := PV × Bool × Int) (fun x => [(0, .par 0 (.sl r.length (r.map (.int .i64)))), (1, .par 1 (.sl l.length (l.map (.int .i64)))), (4, .val x.1), (5, .val (.bool x.2.1)), (6, .map 20 (tE (gcE l) (VN (gcE l)) 128)), (21, .par 0 (.sl r.length (r.map (.int .i64)))), (22, .val (.int .i64 (r.length))), (23, .val (.int .i64 x.2.2))]) (fun x => RowP r ∧ DigP l ∧ 0 ≤ x.2.2 ∧ x.2.2 ≤ r.length ∧ ∀ j, j < x.2.2.toNat → onP (gcE l) (r.getD j 0)) (fun x => (r.length - x.2.2).toNat) (_, _, _) (imp_covers ⟨rfl, rfl, rfl, rfl, rfl, rfl, rfl, rfl, trivial⟩) ?_ ?_
    · (try dsimp only)
      exact ⟨by assumption, by assumption, by omega, by omega, fun j hj => absurd hj (Nat.not_lt_zero j)⟩
    · intro x hI
      obtain ⟨t4_p, t5, t23⟩ := x
      replace hI : RowP r ∧ DigP l ∧ 0 ≤ t23 ∧ t23 ≤ r.length ∧ ∀ j, j < t23.toNat → onP (gcE l) (r.getD j 0) := hI
      show codeT _ _ _ [(0, .par 0 (.sl r.length (r.map (.int .i64)))), (1, .par 1 (.sl l.length (l.map (.int .i64)))), (4, .val t4_p), (5, .val (.bool t5)), (6, .map 20 (tE (gcE l) (VN (gcE l)) 128)), (21, .par 0 (.sl r.length (r.map (.int .i64)))), (22, .val (.int .i64 (r.length))), (23, .val (.int .i64 t23))] _
      obtain ⟨hRo, hD, i1, i2, i3⟩ := hI
      refine code_seq (fun K8 hK8 => ?_)
      refine code_region ?_
      refine list_cons rfl (op_q (q_lt rfl rfl (by decide)) ?_)
      refine list_nil ?_
      refine hK8 _ ?_; clear hK8 K8
      refine code_seq (fun K9 hK9 => ?_)
      refine code_cond_d rfl (fun h3 => ?_) (fun h3 => ?_)
      · skip
        (try simp only [Decidable.not_not] at h3)
        refine code_skip ?_
        refine hK9 _ ?_; clear hK9 K9
        refine code_seq (fun K10 hK10 => ?_)
        refine code_block ?_
        refine code_seq (fun K11 hK11 => ?_)
        refine code_region ?_
        refine list_cons rfl (op_q (q_indexAddr_rd sl_24 rfl (.inl ⟨_, rfl, rfl⟩) rfl (by omega) (by omega) (by decide)) ?_)
        refine list_cons rfl (op_q (q_load_rd one_3 rfl (.inl ⟨_, (by first | rfl | exact congrArg (SV.rpar _) (drop_map1 _ 0 _ (by first | omega | (simp; omega)))), rfl⟩) (by decide)) ?_)
        refine list_cons rfl (op_q (q_assign rfl (by decide)) ?_)
        refine list_nil ?_
        refine hK11 _ ?_; clear hK11 K11
        refine code_seq (fun K12 hK12 => ?_)
        refine code_region ?_
        refine list_cons rfl (op_q (q_move rfl (by decide)) ?_)
        refine list_cons rfl (op_q (q_move rfl (by decide)) ?_)
        by_cases h4 : onP (gcE l) (r.getD t23.toNat 0)
        · skip
          refine list_cons rfl (op_q (q_lookup (tk := .int .i64) Tryd.underlying56 Tryd.underlying3 zvt_3 rfl rfl rfl (tE_hitI h4) (by decide)) ?_)
          refine list_cons rfl (op_q (q_move rfl (by decide)) ?_)
          refine list_cons rfl (op_q (q_extract rfl rfl (by decide)) ?_)
          refine list_cons rfl (op_q (q_extract rfl rfl (by decide)) ?_)
          refine list_cons rfl (op_q (q_assign rfl (by decide)) ?_)
          refine list_cons rfl (op_q (q_assign rfl (by decide)) ?_)
          refine list_nil ?_
          refine hK12 _ ?_; clear hK12 K12
          refine codeT.imp (σ' := [(0, _), (1, _), (4, _), (5, _), (6, _), (8, _), (10, _), (21, _), (22, _), (23, _)]) ?_ (imp_covers ⟨rfl, rfl, rfl, rfl, rfl, rfl, rfl, rfl, rfl, rfl, trivial⟩)
          refine code_seq (fun K13 hK13 => ?_)
          refine code_region ?_
          refine list_cons rfl (op_q (q_move rfl (by decide)) ?_)
          refine list_cons rfl (op_q (by first | exact q_notd rfl (by decide) | exact q_not rfl (by decide)) ?_)
          refine list_nil ?_
          refine hK13 _ ?_; clear hK13 K13
          refine code_cond_f rfl ?_
          refine code_skip ?_
          refine blk_n ?_
          refine hK10 _ ?_; clear hK10 K10
          refine code_region ?_
          refine list_cons rfl (op_q (by first | exact q_addI rfl rfl (by decide) (by omega) (by omega) | exact q_ib rfl rfl rfl (by decide)) ?_)
          refine list_cons rfl (op_q (q_move rfl (by decide)) ?_)
          refine list_nil ?_
          refine then_n ⟨(_, _, _), imp_covers ⟨rfl, rfl, rfl, rfl, rfl, rfl, rfl, rfl, trivial⟩, ?_, ?_⟩
          · (try dsimp only)
            refine ⟨hRo, hD, by omega, by omega, fun j hj => ?_⟩
            by_cases e : j = t23.toNat
            · subst e; assumption
            · exact i3 j (by omega)
          · (try dsimp only); omega
        · skip
          refine list_cons rfl (op_q (q_lookup (tk := .int .i64) Tryd.underlying56 Tryd.underlying3 zvt_3 rfl rfl rfl (tE_missI (gcE_cells l) h4) (by decide)) ?_)
          refine list_cons rfl (op_q (q_move rfl (by decide)) ?_)
          refine list_cons rfl (op_q (q_extract rfl rfl (by decide)) ?_)
          refine list_cons rfl (op_q (q_extract rfl rfl (by decide)) ?_)
          refine list_cons rfl (op_q (q_assign rfl (by decide)) ?_)
          refine list_cons rfl (op_q (q_assign rfl (by decide)) ?_)
          refine list_nil ?_
          refine hK12 _ ?_; clear hK12 K12
          refine codeT.imp (σ' := [(0, _), (1, _), (4, _), (5, _), (6, _), (8, _), (10, _), (21, _), (22, _), (23, _)]) ?_ (imp_covers ⟨rfl, rfl, rfl, rfl, rfl, rfl, rfl, rfl, rfl, rfl, trivial⟩)
          refine code_seq (fun K14 hK14 => ?_)
          refine code_region ?_
          refine list_cons rfl (op_q (q_move rfl (by decide)) ?_)
          refine list_cons rfl (op_q (by first | exact q_notd rfl (by decide) | exact q_not rfl (by decide)) ?_)
          refine list_nil ?_
          refine hK14 _ ?_; clear hK14 K14
          refine code_cond_t rfl ?_
          refine code_seq (fun K15 hK15 => ?_)
          refine code_region ?_
          refine list_cons rfl (op_q (q_assign rfl (by decide)) ?_)
          refine list_cons rfl (op_q (q_assign rfl (by decide)) ?_)
          refine list_nil ?_
          refine hK15 _ ?_; clear hK15 K15
          refine code_ret ?_
          refine blk_r ?_
          refine then_r ?_; clear hK10 K10
          refine then_r ?_
          refine blk_r ?_
          refine then_r ?_; clear hK6 K6
          refine ends_ret (cs := []) rfl rfl rfl rfl trivial ?_
          first
            | rfl
            | (exfalso; exact absurd hW.2.1 (by assumption))
            | (exfalso; exact absurd hW.1 (by assumption))
            | (exfalso; exact absurd (wro_on hW t23.toNat (by omega)) (by assumption))
            | (exfalso
               refine hW ⟨hD, hRo, fun j hj => ?_⟩
               have := (i3 j (by omega)).2
               rwa [gcE_yes hD] at this)
      (try simp only [Decidable.not_not] at h3)
      refine code_exit ?_
      refine then_x ?_; clear hK9 K9
      refine then_x ?_
      refine blk_hit ?_
      refine hK6 _ ?_; clear hK6 K6
      refine code_seq (fun K16 hK16 => ?_)
      refine code_region ?_
      refine list_cons rfl (op_q (q_move rfl (by decide)) ?_)
      refine list_cons rfl (op_q (q_assign rfl (by decide)) ?_)
      refine list_cons rfl (op_q (q_assign rfl (by decide)) ?_)
      refine list_nil ?_
      refine hK16 _ ?_; clear hK16 K16
      refine codeT.imp ?_ (imp_mapF (x := 4) rfl (tE_one _ _))
      refine code_ret ?_
      refine ends_ret (cs := []) rfl rfl rfl rfl trivial ?_
      first
        | rfl
        | (exfalso; exact absurd hW.2.1 (by assumption))
        | (exfalso; exact absurd hW.1 (by assumption))
        | (exfalso; exact absurd (wro_on hW t23.toNat (by omega)) (by assumption))
        | (exfalso
           refine hW ⟨hD, hRo, fun j hj => ?_⟩
           have := (i3 j (by omega)).2
           rwa [gcE_yes hD] at this)
  simp only [Bool.false_eq_true, if_true, if_false, Decidable.not_not] at h1
  refine list_guard_nT rfl rfl rfl rfl (by decide) (by decide) ?_
  refine list_guard_nT rfl rfl rfl rfl (by decide) (by decide) ?_
  refine list_cons rfl (op_q (q_pick rfl rfl (by decide)) ?_)
  refine list_nil ?_
  refine hK3 _ ?_; clear hK3 K3
  refine code_cond_t rfl ?_
  refine code_seq (fun K17 hK17 => ?_)
  refine code_region ?_
  refine list_cons rfl (op_q (q_assign rfl (by decide)) ?_)
  refine list_cons rfl (op_q (q_assign rfl (by decide)) ?_)
  refine list_nil ?_
  refine hK17 _ ?_; clear hK17 K17
  refine codeT.imp (σ' := [(0, _), (1, _), (4, _), (5, _)]) ?_ (imp_covers ⟨rfl, rfl, rfl, rfl, trivial⟩)
  refine code_ret ?_
  refine then_r ?_; clear hK2 K2
  refine ends_ret (cs := []) rfl rfl rfl rfl trivial ?_
  first
    | rfl
    | (exfalso; exact absurd hW.2.1 (by assumption))
    | (exfalso; exact absurd hW.1 (by assumption))
    | (exfalso; exact absurd (wro_on hW t23.toNat (by omega)) (by assumption))
    | (exfalso
       refine hW ⟨hD, hRo, fun j hj => ?_⟩
       have := (i3 j (by omega)).2
       rwa [gcE_yes hD] at this)

set_option maxRecDepth 8000 in
set_option maxHeartbeats 2000000 in
theorem impl_numbersForN (r l : List Int) (hr : r.length ≤ 4611686018427387904) (hl : l.length ≤ 4611686018427387904) (hW : ¬ WroP r l) : PCalls Tryd.prog 53 [.sl r.length (r.map (.int .i64)), .sl l.length (l.map (.int .i64))] (· = [.val (.cst 3), .val (.bool false)]) := by
  refine pcalls_of_code (n := 37) az Tryd.func53 (by kernel_rfl) rfl rfl (Nat.le_of_ble_eq_true rfl) (by intro t u h; simp [Tryd.f53] at h) ?_
  refine code_seq (fun K1 hK1 => ?_)
  refine code_region ?_
  refine list_cons rfl (op_q (q_assign rfl (by decide)) ?_)
  refine list_cons rfl (op_q (q_assign rfl (by decide)) ?_)
  refine list_nil ?_
  refine hK1 _ ?_; clear hK1 K1
  refine code_seq (fun K2 hK2 => ?_)
  refine code_seq (fun K3 hK3 => ?_)
  refine code_region ?_
  refine list_cons rfl (op_q (q_move rfl (by decide)) ?_)
  refine list_cons rfl (op_call _ (impl_IsRow _ (by first | omega | (simp; omega))) rfl rfl (by decide) (by decide) (by decide) rfl ?_)
  rintro _ rfl
  refine list_cons rfl (op_q (by first | exact q_notd rfl (by decide) | exact q_not rfl (by decide)) ?_)
  refine list_cons rfl (op_q (q_move rfl (by decide)) ?_)
  refine list_guard_d rfl rfl rfl rfl (by decide) rfl (by decide) (fun h1 => ?_) (fun h1 => ?_)
  · simp only [Bool.false_eq_true, if_true, if_false, Decidable.not_not] at h1
    refine id (op_q (q_move rfl (by decide)) ?_)
    refine list_guard_y rfl rfl rfl rfl (by decide) rfl ?_
    refine id (op_call _ (impl_IsGoal _ (by omega)) rfl rfl (by decide) (by decide) (by decide) rfl ?_)
    rintro _ rfl
    refine list_guard_y rfl rfl rfl rfl (by decide) rfl ?_
    refine id (op_q (by first | exact q_notd rfl (by decide) | exact q_not rfl (by decide)) ?_)
    refine list_cons rfl (op_q (q_pick rfl rfl (by decide)) ?_)
    refine list_nil ?_
    refine hK3 _ ?_; clear hK3 K3
    refine codeT.imp (σ' := [(0, _), (1, _), (4, _), (5, _), (18, _)]) ?_ (imp_covers ⟨rfl, rfl, rfl, rfl, rfl, trivial⟩)
    refine code_cond_d rfl (fun h2 => ?_) (fun h2 => ?_)
    · skip
      (try simp only [Decidable.not_not] at h2)
      refine code_seq (fun K4 hK4 => ?_)
      refine code_region ?_
      refine list_cons rfl (op_q (q_assign rfl (by decide)) ?_)
      refine list_cons rfl (op_q (q_assign rfl (by decide)) ?_)
      refine list_nil ?_
      refine hK4 _ ?_; clear hK4 K4
      refine code_ret ?_
      refine then_r ?_; clear hK2 K2
      refine ends_ret (cs := []) rfl rfl rfl rfl trivial ?_
      first
        | rfl
        | (exfalso; exact absurd hW.2.1 (by assumption))
        | (exfalso; exact absurd hW.1 (by assumption))
        | (exfalso; exact absurd (wro_on hW t23.toNat (by omega)) (by assumption))
        | (exfalso
           refine hW ⟨hD, hRo, fun j hj => ?_⟩
           have := (i3 j (by omega)).2
           rwa [gcE_yes hD] at this)
    (try simp only [Decidable.not_not] at h2)
    refine code_skip ?_
    refine hK2 _ ?_; clear hK2 K2
    refine code_seq (fun K5 hK5 => ?_)
    refine code_region ?_
    refine list_cons rfl (op_q (q_move rfl (by decide)) ?_)
    refine list_cons rfl (op_call _ (impl_numbersByCell l (by omega)) rfl rfl (by decide) (by decide) (by decide) rfl ?_)
    rintro _ rfl
    refine list_cons rfl (op_q (q_assign rfl (by decide)) ?_)
    refine list_nil ?_
    refine hK5 _ ?_; clear hK5 K5
    refine codeT.imp (σ' := [(0, _), (1, _), (4, _), (5, _), (6, _)]) ?_ (imp_covers ⟨rfl, rfl, rfl, rfl, rfl, trivial⟩)
    refine code_seq (fun K6 hK6 => ?_)
    refine code_seq (fun K7 hK7 => ?_)
    refine code_region ?_
    refine list_cons rfl (op_q (q_move rfl (by decide)) ?_)
    refine list_cons rfl (op_q (q_len_sl Tryd.underlying24 rfl rfl (by decide)) ?_)
    refine list_cons rfl (op_q (q_move rfl (by decide)) ?_)
    refine list_nil ?_
    refine hK7 _ ?_; clear hK7 K7
    refine code_block ?_
    refine code_loop (X := PV × Bool × Int) (fun x => [(0, .par 0 (.sl r.length (r.map (.int .i64)))), (1, .par 1 (.sl l.length (l.map (.int .i64)))), (4, .val x.1), (5, .val (.bool x.2.1)), (6, .map 20 (tE (gcE l) (VN (gcE l)) 128)), (21, .par 0 (.sl r.length (r.map (.int .i64)))), (22, .val (.int .i64 (r.length))), (23, .val (.int .i64 x.2.2))]) (fun x => RowP r ∧ DigP l ∧ 0 ≤ x.2.2 ∧ x.2.2 ≤ r.length ∧ ∀ j, j < x.2.2.toNat → onP (gcE l) (r.getD j 0)) (fun x => (r.length - x.2.2).toNat) (_, _, _) (imp_covers ⟨rfl, rfl, rfl, rfl, rfl, rfl, rfl, rfl, trivial⟩) ?_ ?_
    · (try dsimp only)
      exact ⟨by assumption, by assumption, by omega, by omega, fun j hj => absurd hj (Nat.not_lt_zero j)⟩
    · intro x hI
      obtain ⟨t4_p, t5, t23⟩ := x
      replace hI : RowP r ∧ DigP l ∧ 0 ≤ t23 ∧ t23 ≤ r.length ∧ ∀ j, j < t23.toNat → onP (gcE l) (r.getD j 0) := hI
      show codeT _ _ _ [(0, .par 0 (.sl r.length (r.map (.int .i64)))), (1, .par 1 (.sl l.length (l.map (.int .i64)))), (4, .val t4_p), (5, .val (.bool t5)), (6, .map 20 (tE (gcE l) (VN (gcE l)) 128)), (21, .par 0 (.sl r.length (r.map (.int .i64)))), (22, .val (.int .i64 (r.length))), (23, .val (.int .i64 t23))] _
      obtain ⟨hRo, hD, i1, i2, i3⟩ := hI
      refine code_seq (fun K8 hK8 => ?_)
      refine code_region ?_
      refine list_cons rfl (op_q (q_lt rfl rfl (by decide)) ?_)
      refine list_nil ?_
      refine hK8 _ ?_; clear hK8 K8
      refine code_seq (fun K9 hK9 => ?_)
      refine code_cond_d rfl (fun h3 => ?_) (fun h3 => ?_)
      · skip
        (try simp only [Decidable.not_not] at h3)
        refine code_skip ?_
        refine hK9 _ ?_; clear hK9 K9
        refine code_seq (fun K10 hK10 => ?_)
        refine code_block ?_
        refine code_seq (fun K11 hK11 => ?_)
        refine code_region ?_
        refine list_cons rfl (op_q (q_indexAddr_rd sl_24 rfl (.inl ⟨_, rfl, rfl⟩) rfl (by omega) (by omega) (by decide)) ?_)
        refine list_cons rfl (op_q (q_load_rd one_3 rfl (.inl ⟨_, (by first | rfl | exact congrArg (SV.rpar _) (drop_map1 _ 0 _ (by first | omega | (simp; omega)))), rfl⟩) (by decide)) ?_)
        refine list_cons rfl (op_q (q_assign rfl (by decide)) ?_)
        refine list_nil ?_
        refine hK11 _ ?_; clear hK11 K11
        refine code_seq (fun K12 hK12 => ?_)
        refine code_region ?_
        refine list_cons rfl (op_q (q_move rfl (by decide)) ?_)
        refine list_cons rfl (op_q (q_move rfl (by decide)) ?_)
        by_cases h4 : onP (gcE l) (r.getD t23.toNat 0)
        · skip
          refine list_cons rfl (op_q (q_lookup (tk := .int .i64) Tryd.underlying56 Tryd.underlying3 zvt_3 rfl rfl rfl (tE_hitI h4) (by decide)) ?_)
          refine list_cons rfl (op_q (q_move rfl (by decide)) ?_)
          refine list_cons rfl (op_q (q_extract rfl rfl (by decide)) ?_)
          refine list_cons rfl (op_q (q_extract rfl rfl (by decide)) ?_)
          refine list_cons rfl (op_q (q_assign rfl (by decide)) ?_)
          refine list_cons rfl (op_q (q_assign rfl (by decide)) ?_)
          refine list_nil ?_
          refine hK12 _ ?_; clear hK12 K12
          refine codeT.imp (σ' := [(0, _), (1, _), (4, _), (5, _), (6, _), (8, _), (10, _), (21, _), (22, _), (23, _)]) ?_ (imp_covers ⟨rfl, rfl, rfl, rfl, rfl, rfl, rfl, rfl, rfl, rfl, trivial⟩)
          refine code_seq (fun K13 hK13 => ?_)
          refine code_region ?_
          refine list_cons rfl (op_q (q_move rfl (by decide)) ?_)
          refine list_cons rfl (op_q (by first | exact q_notd rfl (by decide) | exact q_not rfl (by decide)) ?_)
          refine list_nil ?_
          refine hK13 _ ?_; clear hK13 K13
          refine code_cond_f rfl ?_
          refine code_skip ?_
          refine blk_n ?_
          refine hK10 _ ?_; clear hK10 K10
          refine code_region ?_
          refine list_cons rfl (op_q (by first | exact q_addI rfl rfl (by decide) (by omega) (by omega) | exact q_ib rfl rfl rfl (by decide)) ?_)
          refine list_cons rfl (op_q (q_move rfl (by decide)) ?_)
          refine list_nil ?_
          refine then_n ⟨(_, _, _), imp_covers ⟨rfl, rfl, rfl, rfl, rfl, rfl, rfl, rfl, trivial⟩, ?_, ?_⟩
          · (try dsimp only)
            refine ⟨hRo, hD, by omega, by omega, fun j hj => ?_⟩
            by_cases e : j = t23.toNat
            · subst e; assumption
            · exact i3 j (by omega)
          · (try dsimp only); omega
        · skip
          refine list_cons rfl (op_q (q_lookup (tk := .int .i64) Tryd.underlying56 Tryd.underlying3 zvt_3 rfl rfl rfl (tE_missI (gcE_cells l) h4) (by decide)) ?_)
          refine list_cons rfl (op_q (q_move rfl (by decide)) ?_)
          refine list_cons rfl (op_q (q_extract rfl rfl (by decide)) ?_)
          refine list_cons rfl (op_q (q_extract rfl rfl (by decide)) ?_)
          refine list_cons rfl (op_q (q_assign rfl (by decide)) ?_)
          refine list_cons rfl (op_q (q_assign rfl (by decide)) ?_)
          refine list_nil ?_
          refine hK12 _ ?_; clear hK12 K12
          refine codeT.imp (σ' := [(0, _), (1, _), (4, _), (5, _), (6, _), (8, _), (10, _), (21, _), (22, _), (23, _)]) ?_ (imp_covers ⟨rfl, rfl, rfl, rfl, rfl, rfl, rfl, rfl, rfl, rfl, trivial⟩)
          refine code_seq (fun K14 hK14 => ?_)
          refine code_region ?_
          refine list_cons rfl (op_q (q_move rfl (by decide)) ?_)
          refine list_cons rfl (op_q (by first | exact q_notd rfl (by decide) | exact q_not rfl (by decide)) ?_)
          refine list_nil ?_
          refine hK14 _ ?_; clear hK14 K14
          refine code_cond_t rfl ?_
          refine code_seq (fun K15 hK15 => ?_)
          refine code_region ?_
          refine list_cons rfl (op_q (q_assign rfl (by decide)) ?_)
          refine list_cons rfl (op_q (q_assign rfl (by decide)) ?_)
          refine list_nil ?_
          refine hK15 _ ?_; clear hK15 K15
          refine code_ret ?_
          refine blk_r ?_
          refine then_r ?_; clear hK10 K10
          refine then_r ?_
          refine blk_r ?_
          refine then_r ?_; clear hK6 K6
          refine ends_ret (cs := []) rfl rfl rfl rfl trivial ?_
          first
            | rfl
            | (exfalso; exact absurd hW.2.1 (by assumption))
            | (exfalso; exact absurd hW.1 (by assumption))
            | (exfalso; exact absurd (wro_on hW t23.toNat (by omega)) (by assumption))
            | (exfalso
               refine hW ⟨hD, hRo, fun j hj => ?_⟩
               have := (i3 j (by omega)).2
               rwa [gcE_yes hD] at this)
      (try simp only [Decidable.not_not] at h3)
      refine code_exit ?_
      refine then_x ?_; clear hK9 K9
      refine then_x ?_
      refine blk_hit ?_
      refine hK6 _ ?_; clear hK6 K6
      refine code_seq (fun K16 hK16 => ?_)
      refine code_region ?_
      refine list_cons rfl (op_q (q_move rfl (by decide)) ?_)
      refine list_cons rfl (op_q (q_assign rfl (by decide)) ?_)
      refine list_cons rfl (op_q (q_assign rfl (by decide)) ?_)
      refine list_nil ?_
      refine hK16 _ ?_; clear hK16 K16
      refine codeT.imp ?_ (imp_mapF (x := 4) rfl (tE_one _ _))
      refine code_ret ?_
      refine ends_ret (cs := []) rfl rfl rfl rfl trivial ?_
      first
        | rfl
        | (exfalso; exact absurd hW.2.1 (by assumption))
        | (exfalso; exact absurd hW.1 (by assumption))
        | (exfalso; exact absurd (wro_on hW t23.toNat (by omega)) (by assumption))
        | (exfalso
           refine hW ⟨hD, hRo, fun j hj => ?_⟩
           have := (i3 j (by omega)).2
           rwa [gcE_yes hD] at this)
  simp only [Bool.false_eq_true, if_true, if_false, Decidable.not_not] at h1
  refine list_guard_nT rfl rfl rfl rfl (by decide) (by decide) ?_
  refine list_guard_nT rfl rfl rfl rfl (by decide) (by decide) ?_
  refine list_cons rfl (op_q (q_pick rfl rfl (by decide)) ?_)
  refine list_nil ?_
  refine hK3 _ ?_; clear hK3 K3
  refine code_cond_t rfl ?_
  refine code_seq (fun K17 hK17 => ?_)
  refine code_region ?_
  refine list_cons rfl (op_q (q_assign rfl (by decide)) ?_)
  refine list_cons rfl (op_q (q_assign rfl (by decide)) ?_)
  refine list_nil ?_
  refine hK17 _ ?_; clear hK17 K17
  refine codeT.imp (σ' := [(0, _), (1, _), (4, _), (5, _)]) ?_ (imp_covers ⟨rfl, rfl, rfl, rfl, trivial⟩)
  refine code_ret ?_
  refine then_r ?_; clear hK2 K2
  refine ends_ret (cs := []) rfl rfl rfl rfl trivial ?_
  first
    | rfl
    | (exfalso; exact absurd hW.2.1 (by assumption))
    | (exfalso; exact absurd hW.1 (by assumption))
    | (exfalso; exact absurd (wro_on hW t23.toNat (by omega)) (by assumption))
    | (exfalso
       refine hW ⟨hD, hRo, fun j hj => ?_⟩
       have := (i3 j (by omega)).2
       rwa [gcE_yes hD] at this)

set_option maxRecDepth 8000 in
set_option maxHeartbeats 2000000 in
theorem impl_winsAt (r e : List Int) (he : CellsP e) (hr6 : r.length ≤ 6) (hon : ∀ j, j < r.length → onP e (r.getD j 0)) : PCalls Tryd.prog 54 [.sl r.length (r.map (.int .i64)), .mp (flatE (tE e (VN e) 128))] (· = [.val (.bool (decide (xrK e r r.length ≠ 0)))]) := by
  refine pcalls_of_code (n := 22) az Tryd.func54 (by kernel_rfl) rfl rfl (Nat.le_of_ble_eq_true rfl) (by intro t u h; simp [Tryd.f54] at h) ?_
  refine code_seq (fun K1 hK1 => ?_)
  refine code_region ?_
  refine list_cons rfl (op_q (q_assign rfl (by decide)) ?_)
  refine list_nil ?_
  refine hK1 _ ?_; clear hK1 K1
  refine code_seq (fun K2 hK2 => ?_)
  refine code_region ?_
  refine list_cons rfl (op_q (q_assign rfl (by decide)) ?_)
  refine list_nil ?_
  refine hK2 _ ?_; clear hK2 K2
  refine code_seq (fun K3 hK3 => ?_)
  refine code_seq (fun K4 hK4 => ?_)
  refine code_region ?_
  refine list_cons rfl (op_q (q_move rfl (by decide)) ?_)
  refine list_cons rfl (op_q (q_len_sl Tryd.underlying24 rfl rfl (by decide)) ?_)
  refine list_cons rfl (op_q (q_move rfl (by decide)) ?_)
  refine list_nil ?_
  refine hK4 _ ?_; clear hK4 K4
  refine code_block ?_
  refine code_loop (X := Bool × Int × Int) (fun x => [(0, .par 0 (.sl r.length (r.map (.int .i64)))), (1, .par 1 (.mp (flatE (tE e (VN e) 128)))), (4, .val (.bool x.1)), (5, .val (.int .i64 x.2.1)), (8, .par 0 (.sl r.length (r.map (.int .i64)))), (9, .val (.int .i64 (r.length))), (10, .val (.int .i64 x.2.2))]) (fun x => 0 ≤ x.2.2 ∧ x.2.2 ≤ r.length ∧ x.2.1 = xrK e r x.2.2.toNat) (fun x => (r.length - x.2.2).toNat) (_, _, _) (imp_covers ⟨rfl, rfl, rfl, rfl, rfl, rfl, rfl, trivial⟩) ?_ ?_
  · (try dsimp only)
    exact ⟨by omega, by omega, rfl⟩
  · intro x hI
    obtain ⟨t4, sum, t10⟩ := x
    replace hI : 0 ≤ t10 ∧ t10 ≤ r.length ∧ sum = xrK e r t10.toNat := hI
    show codeT _ _ _ [(0, .par 0 (.sl r.length (r.map (.int .i64)))), (1, .par 1 (.mp (flatE (tE e (VN e) 128)))), (4, .val (.bool t4)), (5, .val (.int .i64 sum)), (8, .par 0 (.sl r.length (r.map (.int .i64)))), (9, .val (.int .i64 (r.length))), (10, .val (.int .i64 t10))] _
    obtain ⟨i1, i2, rfl⟩ := hI
    have hx := xrK_le he (fun j hj => (hon j hj).1) t10.toNat (by omega)
    have hcb := fun h => cell_bd he (x := (r.getD t10.toNat 0).toNat) (by have := (hon t10.toNat h).1; omega)
    refine code_seq (fun K5 hK5 => ?_)
    refine code_region ?_
    refine list_cons rfl (op_q (q_lt rfl rfl (by decide)) ?_)
    refine list_nil ?_
    refine hK5 _ ?_; clear hK5 K5
    refine code_seq (fun K6 hK6 => ?_)
    refine code_cond_d rfl (fun h1 => ?_) (fun h1 => ?_)
    · skip
      (try simp only [Decidable.not_not] at h1)
      refine code_skip ?_
      refine hK6 _ ?_; clear hK6 K6
      refine code_seq (fun K7 hK7 => ?_)
      refine code_block ?_
      refine code_seq (fun K8 hK8 => ?_)
      refine code_region ?_
      refine list_cons rfl (op_q (q_indexAddr_rd sl_24 rfl (.inl ⟨_, rfl, rfl⟩) rfl (by omega) (by omega) (by decide)) ?_)
      refine list_cons rfl (op_q (q_load_rd one_3 rfl (.inl ⟨_, (by first | rfl | exact congrArg (SV.rpar _) (drop_map1 _ 0 _ (by first | omega | (simp; omega)))), rfl⟩) (by decide)) ?_)
      refine list_cons rfl (op_q (q_assign rfl (by decide)) ?_)
      refine list_nil ?_
      refine hK8 _ ?_; clear hK8 K8
      refine code_region ?_
      refine list_cons rfl (op_q (q_move rfl (by decide)) ?_)
      refine list_cons rfl (op_q (q_move rfl (by decide)) ?_)
      refine list_cons rfl (op_q (q_move rfl (by decide)) ?_)
      by_cases h2 : onP e (r.getD t10.toNat 0)
      · skip
        refine list_cons rfl (op_q (q_lookupP (tk := .int .i64) Tryd.underlying56 Tryd.underlying3 zvt_3 rfl rfl (tE_flE _ _) rfl rfl (tE_hitI h2) (by decide)) ?_)
        refine list_cons rfl (op_q (by first | exact q_xorI rfl rfl (by decide) (by omega) (by omega) (by omega) (by omega) | exact q_ib rfl rfl rfl (by decide)) ?_)
        refine list_cons rfl (op_q (q_assign rfl (by decide)) ?_)
        refine list_nil ?_
        refine blk_n ?_
        refine hK7 _ ?_; clear hK7 K7
        refine codeT.imp (σ' := [(0, _), (1, _), (4, _), (5, _), (7, _), (8, _), (9, _), (10, _)]) ?_ (imp_covers ⟨rfl, rfl, rfl, rfl, rfl, rfl, rfl, rfl, trivial⟩)
        refine code_region ?_
        refine list_cons rfl (op_q (by first | exact q_addI rfl rfl (by decide) (by omega) (by omega) | exact q_ib rfl rfl rfl (by decide)) ?_)
        refine list_cons rfl (op_q (q_move rfl (by decide)) ?_)
        refine list_nil ?_
        refine then_n ⟨(_, _, _), imp_covers ⟨rfl, rfl, rfl, rfl, rfl, rfl, rfl, trivial⟩, ?_, ?_⟩
        · (try dsimp only)
          exact ⟨by omega, by omega, by rw [show (t10 + 1).toNat = t10.toNat + 1 by omega]; rfl⟩
        · (try dsimp only); omega
      · skip
        exact absurd (hon _ (by omega)) h2
    (try simp only [Decidable.not_not] at h1)
    refine code_exit ?_
    refine then_x ?_; clear hK6 K6
    refine then_x ?_
    refine blk_hit ?_
    refine hK3 _ ?_; clear hK3 K3
    refine code_seq (fun K9 hK9 => ?_)
    refine code_region ?_
    refine list_cons rfl (op_q (q_move rfl (by decide)) ?_)
    refine list_cons rfl (op_q (q_ne rfl rfl (by decide)) ?_)
    refine list_cons rfl (op_q (q_assign rfl (by decide)) ?_)
    refine list_nil ?_
    refine hK9 _ ?_; clear hK9 K9
    refine code_ret ?_
    refine ends_ret (cs := []) rfl rfl rfl rfl trivial ?_
    rw [show t10.toNat = r.length by omega]

set_option maxRecDepth 8000 in
set_option maxHeartbeats 2000000 in
theorem impl_LightWins (r l : List Int) (hr : r.length ≤ 4611686018427387904) (hl : l.length ≤ 4611686018427387904) : PCalls Tryd.prog 17 [.sl r.length (r.map (.int .i64)), .sl l.length (l.map (.int .i64))] (· = [.val (.bool (decide (WroP r l ∧ xrK (dcd l) r r.length ≠ 0))), .val (.bool (decide (WroP r l)))]) := by
  refine pcalls_of_code (n := 21) az Tryd.func17 (by kernel_rfl) rfl rfl (Nat.le_of_ble_eq_true rfl) (by intro t u h; simp [Tryd.f17] at h) ?_
  refine code_seq (fun K1 hK1 => ?_)
  refine code_region ?_
  refine list_cons rfl (op_q (q_assign rfl (by decide)) ?_)
  refine list_cons rfl (op_q (q_assign rfl (by decide)) ?_)
  refine list_nil ?_
  refine hK1 _ ?_; clear hK1 K1
  refine code_seq (fun K2 hK2 => ?_)
  refine code_region ?_
  refine list_cons rfl (op_q (q_move rfl (by decide)) ?_)
  refine list_cons rfl (op_q (q_move rfl (by decide)) ?_)
  by_cases h1 : WroP r l
  · skip
    refine list_cons rfl (op_call _ (impl_numbersForY r l (by omega) (by omega) h1) rfl rfl (by decide) (by decide) (by decide) rfl ?_)
    rintro _ rfl
    refine listT.imp ?_ imp_unfrz
    refine list_cons rfl (op_q (q_move rfl (by decide)) ?_)
    refine list_cons rfl (op_q (q_extract rfl rfl (by decide)) ?_)
    refine list_cons rfl (op_q (q_extract rfl rfl (by decide)) ?_)
    refine list_cons rfl (op_q (q_assign rfl (by decide)) ?_)
    refine list_cons rfl (op_q (q_assign rfl (by decide)) ?_)
    refine list_nil ?_
    refine hK2 _ ?_; clear hK2 K2
    refine codeT.imp (σ' := [(0, _), (1, _), (4, _), (5, _), (6, _), (7, _)]) ?_ (imp_covers ⟨rfl, rfl, rfl, rfl, rfl, rfl, trivial⟩)
    refine code_seq (fun K3 hK3 => ?_)
    refine code_region ?_
    refine list_cons rfl (op_q (q_move rfl (by decide)) ?_)
    refine list_cons rfl (op_q (q_move rfl (by decide)) ?_)
    refine list_guard_y rfl rfl rfl rfl (by decide) rfl ?_
    refine id (op_q (q_move rfl (by decide)) ?_)
    refine list_guard_y rfl rfl rfl rfl (by decide) rfl ?_
    refine id (op_q (q_move rfl (by decide)) ?_)
    refine list_guard_y rfl rfl rfl rfl (by decide) rfl ?_
    refine id (op_call _ (impl_winsAt r (gcE l) (gcE_cells l) (show WroP r l by assumption).2.1.1 (wro_on (by assumption))) rfl rfl (by decide) (by decide) (by decide) rfl ?_)
    rintro _ rfl
    refine list_cons rfl (op_q (q_pick rfl rfl (by decide)) ?_)
    refine list_cons rfl (op_q (q_move rfl (by decide)) ?_)
    refine list_cons rfl (op_q (q_assign rfl (by decide)) ?_)
    refine list_cons rfl (op_q (q_assign rfl (by decide)) ?_)
    refine list_nil ?_
    refine hK3 _ ?_; clear hK3 K3
    refine codeT.imp (σ' := [(0, _), (1, _), (4, _), (5, _), (6, _), (7, _)]) ?_ (imp_covers ⟨rfl, rfl, rfl, rfl, rfl, rfl, trivial⟩)
    refine code_ret ?_
    refine ends_ret (cs := []) rfl rfl rfl rfl trivial ?_
    first
      | (have e : ¬ WroP r l := by assumption
         rw [decide_eq_false e, decide_eq_false (fun z : WroP r l ∧ _ => e z.1)]; done)
      | (have e : WroP r l := by assumption
         rw [decide_eq_true e]
         refine congrArg (fun z : Bool => [SV.val (.bool z), SV.val (.bool true)]) ?_
         exact decide_eq_decide.mpr (by rw [xrK_gc e.1]; exact ⟨fun z => ⟨e, z⟩, fun z => z.2⟩))
  · skip
    refine list_cons rfl (op_call _ (impl_numbersForN r l (by omega) (by omega) h1) rfl rfl (by decide) (by decide) (by decide) rfl ?_)
    rintro _ rfl
    refine list_cons rfl (op_q (q_move rfl (by decide)) ?_)
    refine list_cons rfl (op_q (q_extract rfl rfl (by decide)) ?_)
    refine list_cons rfl (op_q (q_extract rfl rfl (by decide)) ?_)
    refine list_cons rfl (op_q (q_assign rfl (by decide)) ?_)
    refine list_cons rfl (op_q (q_assign rfl (by decide)) ?_)
    refine list_nil ?_
    refine hK2 _ ?_; clear hK2 K2
    refine codeT.imp (σ' := [(0, _), (1, _), (4, _), (5, _), (6, _), (7, _)]) ?_ (imp_covers ⟨rfl, rfl, rfl, rfl, rfl, rfl, trivial⟩)
    refine code_seq (fun K4 hK4 => ?_)
    refine code_region ?_
    refine list_cons rfl (op_q (q_move rfl (by decide)) ?_)
    refine list_cons rfl (op_q (q_move rfl (by decide)) ?_)
    refine list_guard_nT rfl rfl rfl rfl (by decide) (by decide) ?_
    refine list_guard_nT rfl rfl rfl rfl (by decide) (by decide) ?_
    refine list_guard_nT rfl rfl rfl rfl (by decide) (by decide) ?_
    refine list_cons rfl (op_q (q_pick rfl rfl (by decide)) ?_)
    refine list_cons rfl (op_q (q_move rfl (by decide)) ?_)
    refine list_cons rfl (op_q (q_assign rfl (by decide)) ?_)
    refine list_cons rfl (op_q (q_assign rfl (by decide)) ?_)
    refine list_nil ?_
    refine hK4 _ ?_; clear hK4 K4
    refine codeT.imp (σ' := [(0, _), (1, _), (4, _), (5, _), (6, _), (7, _)]) ?_ (imp_covers ⟨rfl, rfl, rfl, rfl, rfl, rfl, trivial⟩)
    refine code_ret ?_
    refine ends_ret (cs := []) rfl rfl rfl rfl trivial ?_
    first
      | (have e : ¬ WroP r l := by assumption
         rw [decide_eq_false e, decide_eq_false (fun z : WroP r l ∧ _ => e z.1)]; done)
      | (have e : WroP r l := by assumption
         rw [decide_eq_true e]
         refine congrArg (fun z : Bool => [SV.val (.bool z), SV.val (.bool true)]) ?_
         exact decide_eq_decide.mpr (by rw [xrK_gc e.1]; exact ⟨fun z => ⟨e, z⟩, fun z => z.2⟩))

end Go.Proofs.YtfagllolcalfiaaDoor
