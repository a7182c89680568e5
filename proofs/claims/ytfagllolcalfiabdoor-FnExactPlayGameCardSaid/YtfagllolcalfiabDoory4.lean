/- Contracts of functions, walked over the pure layer; each says for which arguments. -/
import Derived.Test.YtfagllolcalfiabDoory4Ty
import Derived.Test.YtfagllolcalfiabDoorTf
import Derived.Test.YtfagllolcalfiabDoory1
import Derived.Test.YtfagllolcalfiabDoorShelf
import Derived.Test.YtfagllolcalfiabDoory2
import Derived.Test.YtfagllolcalfiabDoory3
import Derived.Test.YtfagllolcalfiabDoorPwMp
import Derived.Test.YtfagllolcalfiabDoorPwCg
namespace Go.Proofs.YtfagllolcalfiabDoor
open Go.RowKit y4Ty
set_option linter.unusedVariables false
set_option linter.unusedSimpArgs false
theorem andNot_0 {c x : Int} (h0 : -9223372036854775808 ≤ c) (h1 : c ≤ 9223372036854775807) (hx : 0 ≤ x ∧ x ≤ 127) : iandNot .i64 c x = 0 ↔ (0 ≤ c ∧ c ≤ 127) ∧ subN c.toNat x.toNat = true := by
  obtain ⟨n, rfl⟩ : ∃ n : Nat, x = n := ⟨x.toNat, by omega⟩
  by_cases hc : 0 ≤ c
  · obtain ⟨m, rfl⟩ : ∃ m : Nat, c = m := ⟨c.toNat, by omega⟩
    rw [iandNot_nat m n (by omega) (by omega), Int.toNat_natCast, Int.toNat_natCast]
    have key : m ^^^ (m &&& n) = 0 ↔ m &&& n = m := by
      constructor
      · intro h
        apply Nat.eq_of_testBit_eq
        intro i
        have h2 : (m ^^^ (m &&& n)).testBit i = false := by rw [h]; exact Nat.zero_testBit i
        rw [Nat.testBit_xor, Nat.testBit_and] at h2
        rw [Nat.testBit_and]
        revert h2
        cases m.testBit i <;> cases n.testBit i <;> simp
      · intro h; rw [h]; exact Nat.xor_self m
    constructor
    · intro h
      have h2 := key.1 (by omega)
      have h3 : subN m n = true := by unfold subN; rw [h2]; exact Nat.beq_refl m
      have := subN_le h3
      exact ⟨by omega, h3⟩
    · rintro ⟨_, h3⟩
      have := key.2 (Nat.eq_of_beq_eq_true h3)
      omega
  · constructor
    · intro h
      exfalso
      have hb1 : (BitVec.ofInt 64 c).toNat = (c + 18446744073709551616).toNat := by rw [BitVec.toNat_ofInt]; omega
      have hb2 : (BitVec.ofInt 64 ((n : Nat) : Int)).toNat = n := ofInt_nat n (by omega)
      have e : (BitVec.ofInt 64 c &&& ~~~ BitVec.ofInt 64 ((n : Nat) : Int)).toNat = (c + 18446744073709551616).toNat ^^^ ((c + 18446744073709551616).toNat &&& n) := by
        rw [bv_andNot, BitVec.toNat_xor, BitVec.toNat_and, hb1, hb2]
      have h63 : ((c + 18446744073709551616).toNat ^^^ ((c + 18446744073709551616).toNat &&& n)).testBit 63 = true := by
        rw [Nat.testBit_xor, Nat.testBit_and]
        have hn : n.testBit 63 = false := Nat.testBit_lt_two_pow (by omega)
        have hc63 : (c + 18446744073709551616).toNat.testBit 63 = true := by
          rw [Nat.testBit_eq_decide_div_mod_eq]
          have : (c + 18446744073709551616).toNat / 2 ^ 63 = 1 := by
            refine Nat.div_eq_of_lt_le ?_ ?_ <;> omega
          rw [this]; rfl
        rw [hn, hc63]; rfl
      have hge := Nat.ge_two_pow_of_testBit h63
      have hlt : ((c + 18446744073709551616).toNat ^^^ ((c + 18446744073709551616).toNat &&& n)) < 2 ^ 64 := Nat.xor_lt_two_pow (by omega) (Nat.lt_of_le_of_lt Nat.and_le_left (by omega))
      unfold iandNot at h
      rw [show IntKind.i64.bits = 64 from rfl, e] at h
      unfold IntKind.wrap at h
      simp [IntKind.bits] at h
      omega
    · rintro ⟨⟨h3, _⟩, _⟩; omega
theorem andNot_z (c : Int) : iandNot .i64 0 c = 0 := by
  unfold iandNot
  show IntKind.i64.wrap ((0#64 &&& ~~~ BitVec.ofInt 64 c).toNat : Int) = 0
  rw [BitVec.zero_and]; rfl
def gcE (l : List Int) : List Int := if DigP l then dcd l else []
theorem gcE_len (l : List Int) : (gcE l).length ≤ 10 := dig_len l
theorem gcE_cells (l : List Int) : CellsP (gcE l) := by
  unfold gcE
  split
  · exact dcd_cells l
  · intro j; simp
theorem gcE_yes {l : List Int} (h : DigP l) : gcE l = dcd l := if_pos h
theorem gcE_no {l : List Int} (h : ¬ DigP l) : gcE l = [] := if_neg h
def onP (e : List Int) (c : Int) : Prop := (0 ≤ c ∧ c ≤ 127) ∧ onN e c.toNat = true
instance (e : List Int) (c : Int) : Decidable (onP e c) := by unfold onP; infer_instance
def onJ (e : List Int) (c : Int) (k : Nat) : Prop := (0 ≤ c ∧ c ≤ 127) ∧ onK e c.toNat k = true
instance (e : List Int) (c : Int) (k : Nat) : Decidable (onJ e c k) := by unfold onJ; infer_instance
def ovI (e : List Int) (c : Int) (k : Nat) : Int := if 0 ≤ c ∧ c ≤ 127 then ((ovK e c.toNat k : Nat) : Int) else 0
def litI (e : List Int) (c : Int) : Int := if onP e c then ((litN e c.toNat : Nat) : Int) else 0
theorem ovI_le {e : List Int} (he : CellsP e) (c : Int) (k : Nat) : 0 ≤ ovI e c k ∧ ovI e c k ≤ 127 := by
  have := ovK_lt he c.toNat k
  unfold ovI
  split <;> omega
theorem litI_le {e : List Int} (he : CellsP e) (c : Int) : 0 ≤ litI e c ∧ litI e c ≤ 127 := by
  have := lit_lt he c.toNat
  unfold litI
  split <;> omega
theorem onJ_up {e : List Int} {c : Int} {k : Nat} (h : (0 ≤ c ∧ c ≤ 127) ∧ subN c.toNat (e.getD k 0).toNat = true) : onJ e c (k + 1) := ⟨h.1, by unfold onK; rw [h.2, Bool.or_true]⟩
theorem onJ_no {e : List Int} {c : Int} {k : Nat} (h : ¬ ((0 ≤ c ∧ c ≤ 127) ∧ subN c.toNat (e.getD k 0).toNat = true)) : onJ e c (k + 1) ↔ onJ e c k := by
  have e1 : onK e c.toNat (k + 1) = (onK e c.toNat k || subN c.toNat (e.getD k 0).toNat) := rfl
  constructor
  · rintro ⟨h1, h2⟩
    rw [e1, Bool.or_eq_true] at h2
    exact ⟨h1, h2.resolve_right fun z => h ⟨h1, z⟩⟩
  · rintro ⟨h1, h2⟩; exact ⟨h1, by rw [e1, h2]; rfl⟩
theorem ovI_up {e : List Int} (he : CellsP e) {c : Int} {k : Nat} (h : (0 ≤ c ∧ c ≤ 127) ∧ subN c.toNat (e.getD k 0).toNat = true) : (((ovI e c k).toNat ||| (e.getD k 0).toNat : Nat) : Int) = ovI e c (k + 1) := by
  unfold ovI
  rw [if_pos h.1, if_pos h.1, ovK, if_pos h.2, Int.toNat_natCast]
theorem ovI_no {e : List Int} {c : Int} {k : Nat} (h : ¬ ((0 ≤ c ∧ c ≤ 127) ∧ subN c.toNat (e.getD k 0).toNat = true)) : ovI e c (k + 1) = ovI e c k := by
  unfold ovI
  split
  · rename_i h1
    rw [ovK, if_neg fun z => h ⟨h1, z⟩]
  · rfl
theorem lit_fin {e : List Int} (he : CellsP e) (c : Int) : iandNot .i64 (ovI e c e.length) c = litI e c := by
  by_cases h : 0 ≤ c ∧ c ≤ 127
  · have hov := ovK_lt he c.toNat e.length
    unfold ovI litI
    rw [if_pos h]
    have e1 := iandNot_nat (ovK e c.toNat e.length) c.toNat (by omega) (by omega)
    rw [Int.toNat_of_nonneg h.1] at e1
    rw [e1]
    split
    · rfl
    · rename_i hn
      have : onN e c.toNat = false := by
        cases h3 : onN e c.toNat with
        | false => rfl
        | true => exact absurd ⟨h, h3⟩ hn
      rw [ovK_none this]; simp
  · unfold ovI litI
    rw [if_neg h, if_neg fun z => h z.1]
    exact andNot_z c
theorem tE_newI {e : List Int} {V : Nat → PV} {c : Int} (h0 : 0 ≤ c) (h1 : c ≤ 127) : findE (.int .i64) (.int .i64 c) (tE e V (127 - c).toNat) 0 = some none := tE_miss (by omega) fun x h2 h3 _ h4 => by omega
theorem tE_putI {e : List Int} {V : Nat → PV} {c : Int} (h0 : 0 ≤ c) (h1 : c ≤ 127) (ho : onP e c) : tE e V (127 - c).toNat ++ [(.int .i64 c, V c.toNat)] = tE e V (127 - (c - 1)).toNat := by
  rw [show (127 - (c - 1)).toNat = (127 - c).toNat + 1 by omega, tE_succ, show 127 - (127 - c).toNat = c.toNat by omega, if_pos ho.2, Int.toNat_of_nonneg h0]
theorem tE_skipI {e : List Int} {V : Nat → PV} {c : Int} (h0 : 0 ≤ c) (h1 : c ≤ 127) (ho : ¬ onP e c) : tE e V (127 - c).toNat = tE e V (127 - (c - 1)).toNat := by
  rw [show (127 - (c - 1)).toNat = (127 - c).toNat + 1 by omega, tE_succ, show 127 - (127 - c).toNat = c.toNat by omega, if_neg fun z => ho ⟨⟨h0, h1⟩, z⟩]
theorem tE_hitI {e : List Int} {V : Nat → PV} {c : Int} (ho : onP e c) : findE (.int .i64) (.int .i64 c) (tE e V 128) 0 = some (some (ixO (findE (.int .i64) (.int .i64 c) (tE e V 128) 0), V c.toNat)) := tE_hit (by have := ho.1; omega) ho.2 (by omega) (by omega) (by have := ho.1; omega)
theorem tE_missI {e : List Int} {V : Nat → PV} {c : Int} (he : CellsP e) (ho : ¬ onP e c) : findE (.int .i64) (.int .i64 c) (tE e V 128) 0 = some none := tE_miss (by omega) fun x h2 h3 h4 h5 => ho ⟨by omega, by rw [h5, Int.toNat_natCast]; exact h4⟩
theorem nx_okE {e : List Int} {c b : Int} (hb : 0 ≤ b) (h : bitN (litI e c).toNat b.toNat = true) : onP e c ∧ onN e (upN c.toNat b.toNat) = true ∧ c.toNat < upN c.toNat b.toNat ∧ nxK e c.toNat (b + 1).toNat = nxK e c.toNat b.toNat ++ [upN c.toNat b.toNat] := by
  have hp : onP e c := by
    by_cases h1 : onP e c
    · exact h1
    · unfold litI at h
      rw [if_neg h1, bitN_test] at h
      simp at h
  unfold litI at h
  rw [if_pos hp, Int.toNat_natCast] at h
  have h2 := (lit_ok e c.toNat b.toNat).1 h
  have h3 := up_gt (up_ne.1 h2.1)
  refine ⟨hp, h2.2, h3, ?_⟩
  rw [show (b + 1).toNat = b.toNat + 1 by omega, nxK_succ, if_pos h]
theorem nx_noE {e : List Int} {c b : Int} (hb : 0 ≤ b) (hp : onP e c) (h : ¬ bitN (litI e c).toNat b.toNat = true) : nxK e c.toNat (b + 1).toNat = nxK e c.toNat b.toNat := by
  unfold litI at h
  rw [if_pos hp, Int.toNat_natCast] at h
  rw [show (b + 1).toNat = b.toNat + 1 by omega, nxK_succ, if_neg h]
noncomputable def VN (e : List Int) (x : Nat) : PV := .int .i64 (val fN e x)
set_option maxRecDepth 4000 in
theorem indexG_c (l : List Int) (n : Int) (hl : l.length ≤ 4611686018427387904) : PCalls Tryd.prog 81 [.sl l.length (l.map (.int .i64)), .int .i64 n] (fun rs => ∃ i : Int, rs = [.val (.int .i64 i)] ∧ (0 ≤ i ↔ hasK l n l.length = true)) := by
  refine pcalls_of_code (n := 19) az Tryd.func81 (by kernel_rfl) rfl rfl (Nat.le_of_ble_eq_true rfl) (by intro t u h; simp [Tryd.f81] at h) ?_
  refine code_seq (fun K1 hK1 => ?_)
  refine code_region ?_
  refine list_cons rfl (op_q (q_assign rfl (by decide)) ?_)
  refine list_nil ?_
  refine hK1 _ ?_; clear hK1 K1
  refine code_seq (fun K2 hK2 => ?_)
  refine code_seq (fun K3 hK3 => ?_)
  refine code_region ?_
  refine list_cons rfl (op_q (q_move rfl (by decide)) ?_)
  refine list_cons rfl (op_q (q_len_sl Tryd.underlying22 rfl rfl (by decide)) ?_)
  refine list_cons rfl (op_q (q_move rfl (by decide)) ?_)
  refine list_nil ?_
  refine hK3 _ ?_; clear hK3 K3
  refine code_block ?_
  refine code_loop (X := Int × Int) (fun x => [(0, .par 0 (.sl l.length (l.map (.int .i64)))), (1, .val (.int .i64 n)), (4, .val (.int .i64 x.1)), (7, .val (.int .i64 l.length)), (8, .val (.int .i64 x.2))]) (fun x => 0 ≤ x.2 ∧ x.2 ≤ l.length ∧ hasK l n x.2.toNat = false) (fun x => (l.length - x.2).toNat) (_, _) (imp_covers ⟨rfl, rfl, rfl, rfl, rfl, trivial⟩) ?_ ?_
  · (try dsimp only)
    exact ⟨by omega, by omega, rfl⟩
  · intro x hI
    obtain ⟨t4, t8⟩ := x
    replace hI : 0 ≤ t8 ∧ t8 ≤ l.length ∧ hasK l n t8.toNat = false := hI
    show codeT _ _ _ [(0, .par 0 (.sl l.length (l.map (.int .i64)))), (1, .val (.int .i64 n)), (4, .val (.int .i64 t4)), (7, .val (.int .i64 l.length)), (8, .val (.int .i64 t8))] _
    obtain ⟨i1, i2, i3⟩ := hI
    refine code_seq (fun K4 hK4 => ?_)
    refine code_region ?_
    refine list_cons rfl (op_q (q_lt rfl rfl (by decide)) ?_)
    refine list_nil ?_
    refine hK4 _ ?_; clear hK4 K4
    refine code_seq (fun K5 hK5 => ?_)
    refine code_cond_d rfl (fun h1 => ?_) (fun h1 => ?_)
    · skip
      (try simp only [Decidable.not_not] at h1)
      refine code_skip ?_
      refine hK5 _ ?_; clear hK5 K5
      refine code_seq (fun K6 hK6 => ?_)
      refine code_block ?_
      refine code_seq (fun K7 hK7 => ?_)
      refine code_region ?_
      refine list_cons rfl (op_q (q_move rfl (by decide)) ?_)
      refine list_cons rfl (op_q (q_assign rfl (by decide)) ?_)
      refine list_nil ?_
      refine hK7 _ ?_; clear hK7 K7
      refine code_seq (fun K8 hK8 => ?_)
      refine code_region ?_
      refine list_cons rfl (op_q (q_move rfl (by decide)) ?_)
      refine list_cons rfl (op_q (q_move rfl (by decide)) ?_)
      refine list_cons rfl (op_q (q_move rfl (by decide)) ?_)
      refine list_cons rfl (op_q (q_indexAddr_rd sl_22 rfl (.inl ⟨_, rfl, rfl⟩) rfl (by omega) (by omega) (by decide)) ?_)
      refine list_cons rfl (op_q (q_load_rd one_3 rfl (.inl ⟨_, (by first | rfl | exact congrArg (SV.rpar _) (drop_map1 _ 0 _ (by first | omega | (simp; omega)))), rfl⟩) (by decide)) ?_)
      refine list_cons rfl (op_q (q_eq rfl rfl (by decide)) ?_)
      refine list_nil ?_
      refine hK8 _ ?_; clear hK8 K8
      refine codeT.imp (σ' := [(0, _), (1, _), (4, _), (5, _), (7, _), (8, _), (16, _)]) ?_ (imp_covers ⟨rfl, rfl, rfl, rfl, rfl, rfl, rfl, trivial⟩)
      refine code_cond_d rfl (fun h2 => ?_) (fun h2 => ?_)
      · skip
        (try simp only [Decidable.not_not] at h2)
        refine code_seq (fun K9 hK9 => ?_)
        refine code_region ?_
        refine list_cons rfl (op_q (q_move rfl (by decide)) ?_)
        refine list_cons rfl (op_q (q_assign rfl (by decide)) ?_)
        refine list_nil ?_
        refine hK9 _ ?_; clear hK9 K9
        refine code_ret ?_
        refine blk_r ?_
        refine then_r ?_; clear hK6 K6
        refine then_r ?_
        refine blk_r ?_
        refine then_r ?_; clear hK2 K2
        refine ends_ret (cs := []) rfl rfl rfl rfl trivial ?_
        first
          | (refine ⟨_, rfl, fun _ => ?_, fun _ => by omega⟩
             have : ∀ m, t8.toNat < m → hasK l n m = true := by
               intro m
               induction m with
               | zero => intro h; omega
               | succ m ih =>
                 intro h
                 rw [hasK]
                 by_cases e : t8.toNat = m
                 · rw [← e, decide_eq_true (h2).symm]; simp
                 · rw [ih (by omega)]; rfl
             exact this _ (by omega))
          | (refine ⟨_, rfl, fun h => by omega, fun h => ?_⟩
             rw [show l.length = t8.toNat by omega, i3] at h; cases h)
      (try simp only [Decidable.not_not] at h2)
      refine code_skip ?_
      refine blk_n ?_
      refine hK6 _ ?_; clear hK6 K6
      refine code_region ?_
      refine list_cons rfl (op_q (by first | exact q_addI rfl rfl (by decide) (by omega) (by omega) | exact q_ib rfl rfl rfl (by decide)) ?_)
      refine list_cons rfl (op_q (q_move rfl (by decide)) ?_)
      refine list_nil ?_
      refine then_n ⟨(_, _), imp_covers ⟨rfl, rfl, rfl, rfl, rfl, trivial⟩, ?_, ?_⟩
      · (try dsimp only)
        exact ⟨by omega, by omega, by rw [show (t8 + 1).toNat = t8.toNat + 1 by omega, hasK, i3, decide_eq_false (fun e => h2 e.symm)]; rfl⟩
      · (try dsimp only); omega
    (try simp only [Decidable.not_not] at h1)
    refine code_exit ?_
    refine then_x ?_; clear hK5 K5
    refine then_x ?_
    refine blk_hit ?_
    refine hK2 _ ?_; clear hK2 K2
    refine code_seq (fun K10 hK10 => ?_)
    refine code_region ?_
    refine list_cons rfl (op_q (q_assign rfl (by decide)) ?_)
    refine list_nil ?_
    refine hK10 _ ?_; clear hK10 K10
    refine code_ret ?_
    refine ends_ret (cs := []) rfl rfl rfl rfl trivial ?_
    first
      | (refine ⟨_, rfl, fun _ => ?_, fun _ => by omega⟩
         have : ∀ m, t8.toNat < m → hasK l n m = true := by
           intro m
           induction m with
           | zero => intro h; omega
           | succ m ih =>
             intro h
             rw [hasK]
             by_cases e : t8.toNat = m
             · rw [← e, decide_eq_true (h1).symm]; simp
             · rw [ih (by omega)]; rfl
         exact this _ (by omega))
      | (refine ⟨_, rfl, fun h => by omega, fun h => ?_⟩
         rw [show l.length = t8.toNat by omega, i3] at h; cases h)
set_option maxRecDepth 4000 in
theorem containsG_c (l : List Int) (n : Int) (hl : l.length ≤ 4611686018427387904) : PCalls Tryd.prog 65 [.sl l.length (l.map (.int .i64)), .int .i64 n] (· = [.val (.bool (decide (hasK l n l.length = true)))]) := by
  refine pcalls_of_code (n := 9) az Tryd.func65 (by kernel_rfl) rfl rfl (Nat.le_of_ble_eq_true rfl) (by intro t u h; simp [Tryd.f65] at h) ?_
  refine code_seq (fun K1 hK1 => ?_)
  refine code_region ?_
  refine list_cons rfl (op_q (q_assign rfl (by decide)) ?_)
  refine list_nil ?_
  refine hK1 _ ?_; clear hK1 K1
  refine code_seq (fun K2 hK2 => ?_)
  refine code_region ?_
  refine list_cons rfl (op_q (q_move rfl (by decide)) ?_)
  refine list_cons rfl (op_q (q_move rfl (by decide)) ?_)
  refine list_cons rfl (op_call _ (indexG_c _ _ (by omega)) rfl rfl (by decide) (by decide) (by decide) rfl ?_)
  rintro _ ⟨ix, rfl, hix⟩
  refine list_cons rfl (op_q (q_ge rfl rfl (by decide)) ?_)
  refine list_cons rfl (op_q (q_assign rfl (by decide)) ?_)
  refine list_nil ?_
  refine hK2 _ ?_; clear hK2 K2
  refine codeT.imp (σ' := [(0, _), (1, _), (4, _)]) ?_ (imp_covers ⟨rfl, rfl, rfl, trivial⟩)
  refine code_ret ?_
  refine ends_ret (cs := []) rfl rfl rfl rfl trivial ?_
  congr 3
  exact decide_eq_decide.mpr hix
theorem fillG (l : List Int) {k : Nat} (h : k < l.length) : putAt (((l.take k).map digC ++ List.replicate (l.length - k) 0).map (PV.int .i64)) (k * 1) [PV.int .i64 (digT.getD (l.getD k 0).toNat 0)] = (((l.take (k + 1)).map digC ++ List.replicate (l.length - (k + 1)) 0).map (PV.int .i64)) := by
  rw [put_map1 (PV.int .i64) _ (by simp; omega), map_take digC 0 l h, List.set_append_right _ _ (by simp; omega), show k - ((l.take k).map digC).length = 0 by simp; omega, show l.length - k = l.length - (k + 1) + 1 by omega, List.replicate_succ, List.set_cons_zero]
  simp [digC]
set_option maxRecDepth 8000 in
set_option maxHeartbeats 2000000 in
theorem impl_digitCellsG (l : List Int) (h10 : l.length ≤ 10) (hd : ∀ j, j < l.length → 0 ≤ l.getD j 0 ∧ l.getD j 0 ≤ 9) : PCalls Tryd.prog 50 [.sl l.length (l.map (.int .i64))] (· = [.own 0 3 1 (dcd l).length ((dcd l).map (.int .i64)), .val (.bool true)]) := by
  refine pcalls_of_code (n := 33) az Tryd.func50 (by kernel_rfl) rfl rfl (Nat.le_of_ble_eq_true rfl) (by intro t u h; simp [Tryd.f50] at h) ?_
  refine code_seq (fun K1 hK1 => ?_)
  refine code_region ?_
  refine list_cons rfl (op_q (q_assign rfl (by decide)) ?_)
  refine list_cons rfl (op_q (q_assign rfl (by decide)) ?_)
  refine list_nil ?_
  refine hK1 _ ?_; clear hK1 K1
  refine code_seq (fun K2 hK2 => ?_)
  refine code_region ?_
  refine list_cons rfl (op_q (q_move rfl (by decide)) ?_)
  refine list_cons rfl (op_q (q_len_sl Tryd.underlying22 rfl rfl (by decide)) ?_)
  refine list_cons rfl (op_make sl_22 rfl rfl (by omega) (by decide) (by decide) rfl ?_)
  refine list_cons rfl (op_q (q_assign rfl (by decide)) ?_)
  refine list_nil ?_
  refine hK2 _ ?_; clear hK2 K2
  refine code_seq (fun K3 hK3 => ?_)
  refine code_seq (fun K4 hK4 => ?_)
  refine code_region ?_
  refine list_cons rfl (op_q (q_move rfl (by decide)) ?_)
  refine list_cons rfl (op_q (q_len_sl Tryd.underlying22 rfl rfl (by decide)) ?_)
  refine list_cons rfl (op_q (q_move rfl (by decide)) ?_)
  refine list_nil ?_
  refine hK4 _ ?_; clear hK4 K4
  refine code_block ?_
  refine code_loop (X := PV × Bool × Nat × List PV × Int) (fun x => [(0, .par 0 (.sl l.length (l.map (.int .i64)))), (2, .val x.1), (3, .val (.bool x.2.1)), (4, .own 11 3 1 x.2.2.1 x.2.2.2.1), (12, .par 0 (.sl l.length (l.map (.int .i64)))), (13, .val (.int .i64 l.length)), (14, .val (.int .i64 x.2.2.2.2))]) (fun x => 0 ≤ x.2.2.2.2 ∧ x.2.2.2.2 ≤ l.length ∧ x.2.2.1 = l.length ∧ x.2.2.2.1 = ((l.take x.2.2.2.2.toNat).map digC ++ List.replicate (l.length - x.2.2.2.2.toNat) 0).map (.int .i64)) (fun x => (l.length - x.2.2.2.2).toNat) (_, _, _, _, _) (imp_covers ⟨rfl, rfl, rfl, rfl, rfl, rfl, rfl, trivial⟩) ?_ ?_
  · (try dsimp only)
    exact ⟨by omega, by omega, rfl, zeros_map1 (PV.int .i64) 0 l.length⟩
  · intro x hI
    obtain ⟨t2_p, t3, cells_n, cells_c, t14⟩ := x
    replace hI : 0 ≤ t14 ∧ t14 ≤ l.length ∧ cells_n = l.length ∧ cells_c = ((l.take t14.toNat).map digC ++ List.replicate (l.length - t14.toNat) 0).map (.int .i64) := hI
    show codeT _ _ _ [(0, .par 0 (.sl l.length (l.map (.int .i64)))), (2, .val t2_p), (3, .val (.bool t3)), (4, .own 11 3 1 cells_n cells_c), (12, .par 0 (.sl l.length (l.map (.int .i64)))), (13, .val (.int .i64 l.length)), (14, .val (.int .i64 t14))] _
    obtain ⟨i1, i2, rfl, rfl⟩ := hI
    have hdt := fun h => hd t14.toNat h
    refine code_seq (fun K5 hK5 => ?_)
    refine code_region ?_
    refine list_cons rfl (op_q (q_lt rfl rfl (by decide)) ?_)
    refine list_nil ?_
    refine hK5 _ ?_; clear hK5 K5
    refine code_seq (fun K6 hK6 => ?_)
    refine code_cond_d rfl (fun h1 => ?_) (fun h1 => ?_)
    · skip
      (try simp only [Decidable.not_not] at h1)
      refine code_skip ?_
      refine hK6 _ ?_; clear hK6 K6
      refine code_seq (fun K7 hK7 => ?_)
      refine code_block ?_
      refine code_seq (fun K8 hK8 => ?_)
      refine code_region ?_
      refine list_cons rfl (op_q (q_move rfl (by decide)) ?_)
      refine list_cons rfl (op_q (q_indexAddr_rd sl_22 rfl (.inl ⟨_, rfl, rfl⟩) rfl (by omega) (by omega) (by decide)) ?_)
      refine list_cons rfl (op_q (q_load_rd one_3 rfl (.inl ⟨_, (by first | rfl | exact congrArg (SV.rpar _) (drop_map1 _ 0 _ (by first | omega | (simp; omega)))), rfl⟩) (by decide)) ?_)
      refine list_cons rfl (op_q (q_assign rfl (by decide)) ?_)
      refine list_cons rfl (op_q (q_assign rfl (by decide)) ?_)
      refine list_nil ?_
      refine hK8 _ ?_; clear hK8 K8
      refine code_seq (fun K9 hK9 => ?_)
      refine code_region ?_
      refine list_cons rfl (op_q (q_move rfl (by decide)) ?_)
      refine list_cons rfl (op_call _ (impl_CellOf _) rfl rfl (by decide) (by decide) (by decide) rfl ?_)
      rintro _ rfl
      refine list_cons rfl (op_q (q_move rfl (by decide)) ?_)
      refine list_cons rfl (op_q (q_extract rfl rfl (by decide)) ?_)
      refine list_cons rfl (op_q (q_extract rfl rfl (by decide)) ?_)
      refine list_cons rfl (op_q (q_assign rfl (by decide)) ?_)
      refine list_cons rfl (op_q (q_assign rfl (by decide)) ?_)
      refine list_nil ?_
      refine hK9 _ ?_; clear hK9 K9
      refine codeT.imp (σ' := [(0, _), (2, _), (3, _), (4, _), (5, _), (6, _), (7, _), (8, _), (12, _), (13, _), (14, _)]) ?_ (imp_covers ⟨rfl, rfl, rfl, rfl, rfl, rfl, rfl, rfl, rfl, rfl, rfl, trivial⟩)
      refine code_seq (fun K10 hK10 => ?_)
      refine code_seq (fun K11 hK11 => ?_)
      refine code_region ?_
      refine list_cons rfl (op_q (q_move rfl (by decide)) ?_)
      refine list_cons rfl (op_q (by first | exact q_notd rfl (by decide) | exact q_not rfl (by decide)) ?_)
      refine list_nil ?_
      refine hK11 _ ?_; clear hK11 K11
      refine code_cond_d rfl (fun h2 => ?_) (fun h2 => ?_)
      · skip
        (try simp only [Decidable.not_not] at h2)
        refine code_seq (fun K12 hK12 => ?_)
        refine code_region ?_
        refine list_cons rfl (op_buildSlice sl_22 (parts := []) rfl rfl rfl (by decide) (by decide) (by decide) rfl ?_)
        refine list_cons rfl (op_q (q_assign rfl (by decide)) ?_)
        refine list_cons rfl (op_q (q_assign rfl (by decide)) ?_)
        refine list_nil ?_
        refine hK12 _ ?_; clear hK12 K12
        refine code_ret ?_
        refine then_r ?_; clear hK10 K10
        refine blk_r ?_
        refine then_r ?_; clear hK7 K7
        refine then_r ?_
        refine blk_r ?_
        refine then_r ?_; clear hK3 K3
        refine ends_ret (cs := []) rfl rfl rfl rfl trivial ?_
        first
          | (simp only [show t14.toNat = l.length by omega, List.take_length, Nat.sub_self, List.replicate_zero, List.append_nil, dcd_len]; rfl)
          | (exact absurd (hdt (by omega)) (by assumption))
      (try simp only [Decidable.not_not] at h2)
      refine code_skip ?_
      refine hK10 _ ?_; clear hK10 K10
      refine code_region ?_
      refine list_cons rfl (op_q (q_move rfl (by decide)) ?_)
      refine list_cons rfl (op_q (q_move rfl (by decide)) ?_)
      refine list_cons rfl (op_q (q_move rfl (by decide)) ?_)
      refine list_cons rfl (op_q (q_indexAddr_own sl_22 rfl rfl (by omega) (by omega) (by decide)) ?_)
      refine list_cons rfl (op_store (one_3).2 4 [4, 27] (by intro t ht; simp only [List.mem_cons, List.not_mem_nil, or_false] at ht; rcases ht with rfl | rfl <;> rfl) (.inl rfl) rfl rfl rfl rfl rfl rfl (by first | decide | omega | exact Nat.le_refl _ | (simp; done) | (simp; omega)) (by decide) rfl ?_)
      refine list_nil ?_
      refine blk_n ?_
      refine hK7 _ ?_; clear hK7 K7
      refine codeT.imp (σ' := [(0, _), (2, _), (3, _), (4, _), (5, _), (6, _), (7, _), (8, _), (12, _), (13, _), (14, _)]) ?_ (imp_covers ⟨rfl, rfl, rfl, rfl, rfl, rfl, rfl, rfl, rfl, rfl, rfl, trivial⟩)
      refine code_region ?_
      refine list_cons rfl (op_q (by first | exact q_addI rfl rfl (by decide) (by omega) (by omega) | exact q_ib rfl rfl rfl (by decide)) ?_)
      refine list_cons rfl (op_q (q_move rfl (by decide)) ?_)
      refine list_nil ?_
      refine then_n ⟨(_, _, _, _, _), imp_covers ⟨rfl, rfl, rfl, rfl, rfl, rfl, rfl, trivial⟩, ?_, ?_⟩
      · (try dsimp only)
        refine ⟨by omega, by omega, rfl, ?_⟩
        rw [show (t14 + 1).toNat = t14.toNat + 1 by omega]
        simp only [if_pos (hdt (by omega))]
        exact fillG l (by omega)
      · (try dsimp only); omega
    (try simp only [Decidable.not_not] at h1)
    refine code_exit ?_
    refine then_x ?_; clear hK6 K6
    refine then_x ?_
    refine blk_hit ?_
    refine hK3 _ ?_; clear hK3 K3
    refine code_seq (fun K13 hK13 => ?_)
    refine code_region ?_
    refine list_cons rfl (op_q (q_move rfl (by decide)) ?_)
    refine list_cons rfl (op_q (q_assign rfl (by decide)) ?_)
    refine list_cons rfl (op_q (q_assign rfl (by decide)) ?_)
    refine list_nil ?_
    refine hK13 _ ?_; clear hK13 K13
    refine code_ret ?_
    refine ends_ret (cs := []) rfl rfl rfl rfl trivial ?_
    first
      | (simp only [show t14.toNat = l.length by omega, List.take_length, Nat.sub_self, List.replicate_zero, List.append_nil, dcd_len]; rfl)
      | (exact absurd (hdt (by omega)) (by assumption))
set_option maxRecDepth 4000 in
theorem impl_DigitCodeG (l : List Int) (hl : l.length ≤ 4611686018427387904) : PCalls Tryd.prog 36 [.sl l.length (l.map (.int .i64))] (· = [.own 0 3 1 (gcE l).length ((gcE l).map (.int .i64)), .val (.bool (decide (DigP l)))]) := by
  refine pcalls_of_code (n := 17) az Tryd.func36 (by kernel_rfl) rfl rfl (Nat.le_of_ble_eq_true rfl) (by intro t u h; simp [Tryd.f36] at h) ?_
  refine code_seq (fun K1 hK1 => ?_)
  refine code_region ?_
  refine list_cons rfl (op_q (q_assign rfl (by decide)) ?_)
  refine list_cons rfl (op_q (q_assign rfl (by decide)) ?_)
  refine list_nil ?_
  refine hK1 _ ?_; clear hK1 K1
  refine code_seq (fun K2 hK2 => ?_)
  refine code_seq (fun K3 hK3 => ?_)
  refine code_region ?_
  refine list_cons rfl (op_q (q_move rfl (by decide)) ?_)
  refine list_cons rfl (op_call _ (impl_isOrder _ (by omega)) rfl rfl (by decide) (by decide) (by decide) rfl ?_)
  rintro _ rfl
  refine list_cons rfl (op_q (by first | exact q_notd rfl (by decide) | exact q_not rfl (by decide)) ?_)
  refine list_cons rfl (op_q (q_move rfl (by decide)) ?_)
  refine list_guard_d rfl rfl rfl rfl (by decide) rfl (by decide) (fun h1 => ?_) (fun h1 => ?_)
  · simp only [Bool.false_eq_true, if_true, if_false, Decidable.not_not] at h1
    refine id (op_q (q_move rfl (by decide)) ?_)
    refine list_guard_y rfl rfl rfl rfl (by decide) rfl ?_
    refine id (op_q (q_len_sl Tryd.underlying22 rfl rfl (by decide)) ?_)
    refine list_guard_y rfl rfl rfl rfl (by decide) rfl ?_
    refine id (op_q (q_eq rfl rfl (by decide)) ?_)
    refine list_cons rfl (op_q (q_pick rfl rfl (by decide)) ?_)
    refine list_nil ?_
    refine hK3 _ ?_; clear hK3 K3
    refine codeT.imp (σ' := [(0, _), (2, _), (3, _), (11, _)]) ?_ (imp_covers ⟨rfl, rfl, rfl, rfl, trivial⟩)
    refine code_cond_d rfl (fun h2 => ?_) (fun h2 => ?_)
    · skip
      (try simp only [Decidable.not_not] at h2)
      refine code_seq (fun K4 hK4 => ?_)
      refine code_region ?_
      refine list_cons rfl (op_buildSlice sl_22 (parts := []) rfl rfl rfl (by decide) (by decide) (by decide) rfl ?_)
      refine list_cons rfl (op_q (q_assign rfl (by decide)) ?_)
      refine list_cons rfl (op_q (q_assign rfl (by decide)) ?_)
      refine list_nil ?_
      refine hK4 _ ?_; clear hK4 K4
      refine code_ret ?_
      refine then_r ?_; clear hK2 K2
      refine ends_ret (cs := []) rfl rfl rfl rfl trivial ?_
      first
        | (have e : DigP l := ⟨by omega, by assumption⟩
           rw [gcE_yes e, decide_eq_true e]; done)
        | (have e : ¬ DigP l := fun e => absurd e.2 (by assumption)
           rw [gcE_no e, decide_eq_false e]; rfl)
        | (have e : ¬ DigP l := fun e => by have := e.1; omega
           rw [gcE_no e, decide_eq_false e]; rfl)
    (try simp only [Decidable.not_not] at h2)
    refine code_skip ?_
    refine hK2 _ ?_; clear hK2 K2
    refine code_seq (fun K5 hK5 => ?_)
    refine code_region ?_
    refine list_cons rfl (op_q (q_move rfl (by decide)) ?_)
    refine list_cons rfl (op_call _ (impl_digitCellsG _ (ord_len (by assumption)) (fun j hj => (ordK_at (by assumption) hj).1)) rfl rfl (by decide) (by decide) (by decide) rfl ?_)
    rintro _ rfl
    refine list_cons rfl (op_q (q_extract rfl rfl (by decide)) ?_)
    refine list_cons rfl (op_q (q_extract rfl rfl (by decide)) ?_)
    refine list_cons rfl (op_q (q_assign rfl (by decide)) ?_)
    refine list_cons rfl (op_q (q_assign rfl (by decide)) ?_)
    refine list_nil ?_
    refine hK5 _ ?_; clear hK5 K5
    refine codeT.imp (σ' := [(0, _), (2, _), (3, _)]) ?_ (imp_covers ⟨rfl, rfl, rfl, trivial⟩)
    refine code_ret ?_
    refine ends_ret (cs := []) rfl rfl rfl rfl trivial ?_
    first
      | (have e : DigP l := ⟨by omega, by assumption⟩
         rw [gcE_yes e, decide_eq_true e]; done)
      | (have e : ¬ DigP l := fun e => absurd e.2 (by assumption)
         rw [gcE_no e, decide_eq_false e]; rfl)
      | (have e : ¬ DigP l := fun e => by have := e.1; omega
         rw [gcE_no e, decide_eq_false e]; rfl)
  simp only [Bool.false_eq_true, if_true, if_false, Decidable.not_not] at h1
  refine list_guard_nT rfl rfl rfl rfl (by decide) (by decide) ?_
  refine list_guard_nT rfl rfl rfl rfl (by decide) (by decide) ?_
  refine list_cons rfl (op_q (q_pick rfl rfl (by decide)) ?_)
  refine list_nil ?_
  refine hK3 _ ?_; clear hK3 K3
  refine code_cond_t rfl ?_
  refine code_seq (fun K6 hK6 => ?_)
  refine code_region ?_
  refine list_cons rfl (op_buildSlice sl_22 (parts := []) rfl rfl rfl (by decide) (by decide) (by decide) rfl ?_)
  refine list_cons rfl (op_q (q_assign rfl (by decide)) ?_)
  refine list_cons rfl (op_q (q_assign rfl (by decide)) ?_)
  refine list_nil ?_
  refine hK6 _ ?_; clear hK6 K6
  refine codeT.imp (σ' := [(0, _), (2, _), (3, _)]) ?_ (imp_covers ⟨rfl, rfl, rfl, trivial⟩)
  refine code_ret ?_
  refine then_r ?_; clear hK2 K2
  refine ends_ret (cs := []) rfl rfl rfl rfl trivial ?_
  first
    | (have e : DigP l := ⟨by omega, by assumption⟩
       rw [gcE_yes e, decide_eq_true e]; done)
    | (have e : ¬ DigP l := fun e => absurd e.2 (by assumption)
       rw [gcE_no e, decide_eq_false e]; rfl)
    | (have e : ¬ DigP l := fun e => by have := e.1; omega
       rw [gcE_no e, decide_eq_false e]; rfl)
set_option maxRecDepth 4000 in
theorem impl_goalCells (l : List Int) (hl : l.length ≤ 4611686018427387904) : PCalls Tryd.prog 20 [.sl l.length (l.map (.int .i64))] (· = [.own 0 3 1 (gcE l).length ((gcE l).map (.int .i64))]) := by
  refine pcalls_of_code (n := 11) az Tryd.func20 (by kernel_rfl) rfl rfl (Nat.le_of_ble_eq_true rfl) (by intro t u h; simp [Tryd.f20] at h) ?_
  refine code_seq (fun K1 hK1 => ?_)
  refine code_region ?_
  refine list_cons rfl (op_q (q_assign rfl (by decide)) ?_)
  refine list_nil ?_
  refine hK1 _ ?_; clear hK1 K1
  refine code_seq (fun K2 hK2 => ?_)
  refine code_region ?_
  refine list_cons rfl (op_q (q_move rfl (by decide)) ?_)
  refine list_cons rfl (op_call _ (impl_DigitCodeG _ (by omega)) rfl rfl (by decide) (by decide) (by decide) rfl ?_)
  rintro _ rfl
  refine list_cons rfl (op_q (q_move rfl (by decide)) ?_)
  refine list_cons rfl (op_q (q_extract rfl rfl (by decide)) ?_)
  refine list_cons rfl (op_q (q_extract rfl rfl (by decide)) ?_)
  refine list_cons rfl (op_q (q_assign rfl (by decide)) ?_)
  refine list_cons rfl (op_q (q_assign rfl (by decide)) ?_)
  refine list_nil ?_
  refine hK2 _ ?_; clear hK2 K2
  refine codeT.imp (σ' := [(0, _), (2, _), (3, _)]) ?_ (imp_covers ⟨rfl, rfl, rfl, trivial⟩)
  refine code_seq (fun K3 hK3 => ?_)
  refine code_region ?_
  refine list_cons rfl (op_q (q_move rfl (by decide)) ?_)
  refine list_cons rfl (op_q (q_assign rfl (by decide)) ?_)
  refine list_nil ?_
  refine hK3 _ ?_; clear hK3 K3
  refine code_ret ?_
  refine ends_ret (cs := []) rfl rfl rfl rfl trivial ?_
  rfl
set_option maxRecDepth 4000 in
theorem impl_IsGoal (l : List Int) (hl : l.length ≤ 4611686018427387904) : PCalls Tryd.prog 41 [.sl l.length (l.map (.int .i64))] (· = [.val (.bool (decide (DigP l)))]) := by
  refine pcalls_of_code (n := 11) az Tryd.func41 (by kernel_rfl) rfl rfl (Nat.le_of_ble_eq_true rfl) (by intro t u h; simp [Tryd.f41] at h) ?_
  refine code_seq (fun K1 hK1 => ?_)
  refine code_region ?_
  refine list_cons rfl (op_q (q_assign rfl (by decide)) ?_)
  refine list_nil ?_
  refine hK1 _ ?_; clear hK1 K1
  refine code_seq (fun K2 hK2 => ?_)
  refine code_region ?_
  refine list_cons rfl (op_q (q_move rfl (by decide)) ?_)
  refine list_cons rfl (op_call _ (impl_DigitCodeG _ (by omega)) rfl rfl (by decide) (by decide) (by decide) rfl ?_)
  rintro _ rfl
  refine list_cons rfl (op_q (q_move rfl (by decide)) ?_)
  refine list_cons rfl (op_q (q_extract rfl rfl (by decide)) ?_)
  refine list_cons rfl (op_q (q_extract rfl rfl (by decide)) ?_)
  refine list_cons rfl (op_q (q_assign rfl (by decide)) ?_)
  refine list_cons rfl (op_q (q_assign rfl (by decide)) ?_)
  refine list_nil ?_
  refine hK2 _ ?_; clear hK2 K2
  refine codeT.imp (σ' := [(0, _), (2, _), (4, _)]) ?_ (imp_covers ⟨rfl, rfl, rfl, trivial⟩)
  refine code_seq (fun K3 hK3 => ?_)
  refine code_region ?_
  refine list_cons rfl (op_q (q_move rfl (by decide)) ?_)
  refine list_cons rfl (op_q (q_assign rfl (by decide)) ?_)
  refine list_nil ?_
  refine hK3 _ ?_; clear hK3 K3
  refine code_ret ?_
  refine ends_ret (cs := []) rfl rfl rfl rfl trivial ?_
  rfl
set_option maxRecDepth 4000 in
theorem impl_lightableIn (c : Int) (e : List Int) (p0 : -9223372036854775808 ≤ c) (p1 : c ≤ 9223372036854775807) (he : CellsP e) (hel : e.length ≤ 1000) : PCalls Tryd.prog 21 [.int .i64 c, .sl e.length (e.map (.int .i64))] (· = [.val (.int .i64 (litI e c)), .val (.bool (decide (onP e c)))]) := by
  refine pcalls_of_code (n := 28) az Tryd.func21 (by kernel_rfl) rfl rfl (Nat.le_of_ble_eq_true rfl) (by intro t u h; simp [Tryd.f21] at h) ?_
  refine code_seq (fun K1 hK1 => ?_)
  refine code_region ?_
  refine list_cons rfl (op_q (q_assign rfl (by decide)) ?_)
  refine list_cons rfl (op_q (q_assign rfl (by decide)) ?_)
  refine list_nil ?_
  refine hK1 _ ?_; clear hK1 K1
  refine code_seq (fun K2 hK2 => ?_)
  refine code_region ?_
  refine list_cons rfl (op_q (q_assign rfl (by decide)) ?_)
  refine list_cons rfl (op_q (q_assign rfl (by decide)) ?_)
  refine list_nil ?_
  refine hK2 _ ?_; clear hK2 K2
  refine code_seq (fun K3 hK3 => ?_)
  refine code_seq (fun K4 hK4 => ?_)
  refine code_region ?_
  refine list_cons rfl (op_q (q_move rfl (by decide)) ?_)
  refine list_cons rfl (op_q (q_len_sl Tryd.underlying22 rfl rfl (by decide)) ?_)
  refine list_cons rfl (op_q (q_move rfl (by decide)) ?_)
  refine list_nil ?_
  refine hK4 _ ?_; clear hK4 K4
  refine code_block ?_
  refine code_loop (X := Int × Bool × Int × Bool × Int) (fun x => [(0, .val (.int .i64 c)), (1, .par 1 (.sl e.length (e.map (.int .i64)))), (4, .val (.int .i64 x.1)), (5, .val (.bool x.2.1)), (6, .val (.int .i64 x.2.2.1)), (7, .val (.bool x.2.2.2.1)), (10, .par 1 (.sl e.length (e.map (.int .i64)))), (11, .val (.int .i64 (e.length))), (12, .val (.int .i64 x.2.2.2.2))]) (fun x => 0 ≤ x.2.2.2.2 ∧ x.2.2.2.2 ≤ e.length ∧ x.2.2.1 = ovI e c x.2.2.2.2.toNat ∧ x.2.2.2.1 = decide (onJ e c x.2.2.2.2.toNat)) (fun x => (e.length - x.2.2.2.2).toNat) (_, _, _, _, _) (imp_covers ⟨rfl, rfl, rfl, rfl, rfl, rfl, rfl, rfl, rfl, trivial⟩) ?_ ?_
  · (try dsimp only)
    exact ⟨by omega, by omega, by unfold ovI; split <;> rfl, (decide_eq_false fun z => by have := z.2; cases this).symm⟩
  · intro x hI
    obtain ⟨t4, t5, over, on, t12⟩ := x
    replace hI : 0 ≤ t12 ∧ t12 ≤ e.length ∧ over = ovI e c t12.toNat ∧ on = decide (onJ e c t12.toNat) := hI
    show codeT _ _ _ [(0, .val (.int .i64 c)), (1, .par 1 (.sl e.length (e.map (.int .i64)))), (4, .val (.int .i64 t4)), (5, .val (.bool t5)), (6, .val (.int .i64 over)), (7, .val (.bool on)), (10, .par 1 (.sl e.length (e.map (.int .i64)))), (11, .val (.int .i64 (e.length))), (12, .val (.int .i64 t12))] _
    obtain ⟨i1, i2, rfl, rfl⟩ := hI
    have hov := ovI_le he c t12.toNat
    have hx := he t12.toNat
    refine code_seq (fun K5 hK5 => ?_)
    refine code_region ?_
    refine list_cons rfl (op_q (q_lt rfl rfl (by decide)) ?_)
    refine list_nil ?_
    refine hK5 _ ?_; clear hK5 K5
    refine code_seq (fun K6 hK6 => ?_)
    refine code_cond_d rfl (fun h1 => ?_) (fun h1 => ?_)
    · skip
      (try simp only [Decidable.not_not] at h1)
      refine code_skip ?_
      refine hK6 _ ?_; clear hK6 K6
      refine code_seq (fun K7 hK7 => ?_)
      refine code_block ?_
      refine code_seq (fun K8 hK8 => ?_)
      refine code_region ?_
      refine list_cons rfl (op_q (q_indexAddr_rd sl_22 rfl (.inl ⟨_, rfl, rfl⟩) rfl (by omega) (by omega) (by decide)) ?_)
      refine list_cons rfl (op_q (q_load_rd one_3 rfl (.inl ⟨_, (by first | rfl | exact congrArg (SV.rpar _) (drop_map1 _ 0 _ (by first | omega | (simp; omega)))), rfl⟩) (by decide)) ?_)
      refine list_cons rfl (op_q (q_assign rfl (by decide)) ?_)
      refine list_nil ?_
      refine hK8 _ ?_; clear hK8 K8
      refine code_seq (fun K9 hK9 => ?_)
      refine code_region ?_
      refine list_cons rfl (op_q (q_move rfl (by decide)) ?_)
      refine list_cons rfl (op_q (q_move rfl (by decide)) ?_)
      refine list_cons rfl (op_q (by first | exact q_andNotI rfl rfl (by decide) (by omega) (by omega) (by omega) (by omega) | exact q_ib rfl rfl rfl (by decide)) ?_)
      refine list_cons rfl (op_q (q_eq rfl rfl (by decide)) ?_)
      refine list_nil ?_
      refine hK9 _ ?_; clear hK9 K9
      refine code_cond_d rfl (fun h2 => ?_) (fun h2 => ?_)
      · skip
        (try simp only [Decidable.not_not] at h2)
        refine code_region ?_
        refine list_cons rfl (op_q (q_move rfl (by decide)) ?_)
        refine list_cons rfl (op_q (q_move rfl (by decide)) ?_)
        refine list_cons rfl (op_q (by first | exact q_orI rfl rfl (by decide) (by omega) (by omega) (by omega) (by omega) | exact q_ib rfl rfl rfl (by decide)) ?_)
        refine list_cons rfl (op_q (q_assign rfl (by decide)) ?_)
        refine list_cons rfl (op_q (q_assign rfl (by decide)) ?_)
        refine list_nil ?_
        refine blk_n ?_
        refine hK7 _ ?_; clear hK7 K7
        refine codeT.imp (σ' := [(0, _), (1, _), (4, _), (5, _), (6, _), (7, _), (9, _), (10, _), (11, _), (12, _)]) ?_ (imp_covers ⟨rfl, rfl, rfl, rfl, rfl, rfl, rfl, rfl, rfl, rfl, trivial⟩)
        refine code_region ?_
        refine list_cons rfl (op_q (by first | exact q_addI rfl rfl (by decide) (by omega) (by omega) | exact q_ib rfl rfl rfl (by decide)) ?_)
        refine list_cons rfl (op_q (q_move rfl (by decide)) ?_)
        refine list_nil ?_
        refine then_n ⟨(_, _, _, _, _), imp_covers ⟨rfl, rfl, rfl, rfl, rfl, rfl, rfl, rfl, rfl, trivial⟩, ?_, ?_⟩
        · (try dsimp only)
          have h := (andNot_0 p0 p1 hx).1 h2
          refine ⟨by omega, by omega, ?_, ?_⟩
          · rw [show (t12 + 1).toNat = t12.toNat + 1 by omega]; exact ovI_up he h
          · rw [show (t12 + 1).toNat = t12.toNat + 1 by omega]; exact (decide_eq_true (onJ_up h)).symm
        · (try dsimp only); omega
      (try simp only [Decidable.not_not] at h2)
      refine code_skip ?_
      refine blk_n ?_
      refine hK7 _ ?_; clear hK7 K7
      refine codeT.imp (σ' := [(0, _), (1, _), (4, _), (5, _), (6, _), (7, _), (9, _), (10, _), (11, _), (12, _)]) ?_ (imp_covers ⟨rfl, rfl, rfl, rfl, rfl, rfl, rfl, rfl, rfl, rfl, trivial⟩)
      refine code_region ?_
      refine list_cons rfl (op_q (by first | exact q_addI rfl rfl (by decide) (by omega) (by omega) | exact q_ib rfl rfl rfl (by decide)) ?_)
      refine list_cons rfl (op_q (q_move rfl (by decide)) ?_)
      refine list_nil ?_
      refine then_n ⟨(_, _, _, _, _), imp_covers ⟨rfl, rfl, rfl, rfl, rfl, rfl, rfl, rfl, rfl, trivial⟩, ?_, ?_⟩
      · (try dsimp only)
        have h := fun z => h2 ((andNot_0 p0 p1 hx).2 z)
        refine ⟨by omega, by omega, ?_, ?_⟩
        · rw [show (t12 + 1).toNat = t12.toNat + 1 by omega]; exact (ovI_no h).symm
        · rw [show (t12 + 1).toNat = t12.toNat + 1 by omega]; exact decide_eq_decide.mpr (onJ_no h).symm
      · (try dsimp only); omega
    (try simp only [Decidable.not_not] at h1)
    refine code_exit ?_
    refine then_x ?_; clear hK6 K6
    refine then_x ?_
    refine blk_hit ?_
    refine hK3 _ ?_; clear hK3 K3
    refine code_seq (fun K10 hK10 => ?_)
    refine code_region ?_
    refine list_cons rfl (op_q (q_move rfl (by decide)) ?_)
    refine list_cons rfl (op_q (q_move rfl (by decide)) ?_)
    refine list_cons rfl (op_q (by first | exact q_andNotI rfl rfl (by decide) (by omega) (by omega) (by omega) (by omega) | exact q_ib rfl rfl rfl (by decide)) ?_)
    refine list_cons rfl (op_q (q_move rfl (by decide)) ?_)
    refine list_cons rfl (op_q (q_assign rfl (by decide)) ?_)
    refine list_cons rfl (op_q (q_assign rfl (by decide)) ?_)
    refine list_nil ?_
    refine hK10 _ ?_; clear hK10 K10
    refine code_ret ?_
    refine ends_ret (cs := []) rfl rfl rfl rfl trivial ?_
    have ht : t12.toNat = e.length := by omega
    rw [ht, lit_fin he]
    first | rfl
theorem mex_init (L : List Int) : mexL L = ((mxS L (Int.toNat 0) : Nat) : Int) := rfl
theorem num_bd {e : List Int} (he : CellsP e) (c m : Nat) : ∀ x ∈ (nxK e c m).map (val fN e), 0 ≤ x ∧ x ≤ 128 := fun x hx => by
  obtain ⟨y, hy, rfl⟩ := List.mem_map.1 hx
  have := num_le he y (nx_lt he hy); omega
theorem VN_eq {e : List Int} (he : CellsP e) {c : Int} (h : 0 ≤ c ∧ c ≤ 127) : PV.int .i64 (mexL ((nxK e c.toNat 7).map (val fN e))) = VN e c.toNat := by
  unfold VN
  rw [val_eq fN he (by omega)]; rfl
theorem nN_app {e : List Int} {N N2 : List Nat} {x : Nat} (hN : N2 = N ++ [x]) : N.map (VN e) ++ [PV.int .i64 (val fN e x)] = N2.map (VN e) := by
  subst hN
  rw [List.map_append]; rfl
theorem len_app {N N2 : List Nat} {x : Nat} (hN : N2 = N ++ [x]) : N.length + 1 = N2.length := by subst hN; rw [List.length_append]; rfl
theorem VN_map (e : List Int) (N : List Nat) : N.map (VN e) = (N.map (val fN e)).map (PV.int .i64) := by rw [List.map_map]; rfl
set_option maxRecDepth 4000 in
theorem impl_mexRule (c : Int) (L : List Int) (hL : ∀ x ∈ L, 0 ≤ x ∧ x ≤ 128) (hl : L.length ≤ 1000) : PCalls Tryd.prog 64 [.int .i64 c, .sl L.length (L.map (.int .i64))] (· = [.val (.int .i64 (mexL L))]) := by
  refine pcalls_of_code (n := 12) az Tryd.func64 (by kernel_rfl) rfl rfl (Nat.le_of_ble_eq_true rfl) (by intro t u h; simp [Tryd.f64] at h) ?_
  refine code_seq (fun K1 hK1 => ?_)
  refine code_region ?_
  refine list_cons rfl (op_q (q_assign rfl (by decide)) ?_)
  refine list_nil ?_
  refine hK1 _ ?_; clear hK1 K1
  refine code_seq (fun K2 hK2 => ?_)
  refine code_region ?_
  refine list_cons rfl (op_q (q_assign rfl (by decide)) ?_)
  refine list_nil ?_
  refine hK2 _ ?_; clear hK2 K2
  refine code_seq (fun K3 hK3 => ?_)
  refine code_block ?_
  refine code_loop (X := Int × Int) (fun x => [(0, .val (.int .i64 c)), (1, .par 1 (.sl L.length (L.map (.int .i64)))), (4, .val (.int .i64 x.1)), (5, .val (.int .i64 x.2))]) (fun x => 0 ≤ x.2 ∧ x.2 ≤ 129 ∧ mexL L = ((mxS L x.2.toNat : Nat) : Int)) (fun x => (130 - x.2).toNat) (_, _) (imp_covers ⟨rfl, rfl, rfl, rfl, trivial⟩) ?_ ?_
  · (try dsimp only)
    exact ⟨by omega, by omega, mex_init L⟩
  · intro x hI
    obtain ⟨t4, least⟩ := x
    replace hI : 0 ≤ least ∧ least ≤ 129 ∧ mexL L = ((mxS L least.toNat : Nat) : Int) := hI
    show codeT _ _ _ [(0, .val (.int .i64 c)), (1, .par 1 (.sl L.length (L.map (.int .i64)))), (4, .val (.int .i64 t4)), (5, .val (.int .i64 least))] _
    obtain ⟨i1, i2, i3⟩ := hI
    have hlt : ((least.toNat : Nat) : Int) = least := Int.toNat_of_nonneg i1
    refine code_seq (fun K4 hK4 => ?_)
    refine code_seq (fun K5 hK5 => ?_)
    refine code_region ?_
    refine list_cons rfl (op_q (q_move rfl (by decide)) ?_)
    refine list_cons rfl (op_q (q_move rfl (by decide)) ?_)
    refine list_cons rfl (op_call _ (containsG_c L _ (by omega)) rfl rfl (by decide) (by decide) (by decide) rfl ?_)
    rintro _ rfl
    refine list_nil ?_
    refine hK5 _ ?_; clear hK5 K5
    refine codeT.imp (σ' := [(0, _), (1, _), (4, _), (5, _), (8, _)]) ?_ (imp_covers ⟨rfl, rfl, rfl, rfl, rfl, trivial⟩)
    refine code_cond_d rfl (fun h1 => ?_) (fun h1 => ?_)
    · skip
      (try simp only [Decidable.not_not] at h1)
      refine code_skip ?_
      refine hK4 _ ?_; clear hK4 K4
      refine code_block ?_
      refine code_region ?_
      refine list_cons rfl (op_q (q_move rfl (by decide)) ?_)
      refine list_cons rfl (op_q (by first | exact q_addI rfl rfl (by decide) (by omega) (by omega) | exact q_ib rfl rfl rfl (by decide)) ?_)
      refine list_cons rfl (op_q (q_assign rfl (by decide)) ?_)
      refine list_nil ?_
      refine blk_n ?_
      refine then_n ⟨(_, _), imp_covers ⟨rfl, rfl, rfl, rfl, trivial⟩, ?_, ?_⟩
      · (try dsimp only)
        have hb := hL _ (hasK_mem (Nat.le_refl _) h1)
        exact ⟨by omega, by omega, by rw [i3, mxS_yes (by omega) (by rw [hlt]; exact h1), show (least + 1).toNat = least.toNat + 1 by omega]⟩
      · (try dsimp only); have hb := hL _ (hasK_mem (Nat.le_refl _) h1); omega
    (try simp only [Decidable.not_not] at h1)
    refine code_exit ?_
    refine then_x ?_; clear hK4 K4
    refine then_x ?_
    refine blk_hit ?_
    refine hK3 _ ?_; clear hK3 K3
    refine code_seq (fun K6 hK6 => ?_)
    refine code_region ?_
    refine list_cons rfl (op_q (q_move rfl (by decide)) ?_)
    refine list_cons rfl (op_q (q_assign rfl (by decide)) ?_)
    refine list_nil ?_
    refine hK6 _ ?_; clear hK6 K6
    refine code_ret ?_
    refine ends_ret (cs := []) rfl rfl rfl rfl trivial ?_
    rw [i3, mxS_no (by omega) (by rw [hlt]; exact h1), hlt]
theorem impl_mexE (c : Int) (L : List Int) (k : Nat) (cs : List PV) (hL : ∀ x ∈ L, 0 ≤ x ∧ x ≤ 128) (hl : L.length ≤ 1000) (hk : k = L.length) (hc : cs = L.map (PV.int .i64)) : PCalls Tryd.prog 64 [.int .i64 c, .sl k cs] (· = [.val (.int .i64 (mexL L))]) := by
  subst hk; subst hc; exact impl_mexRule c L hL hl
set_option maxRecDepth 8000 in
set_option maxHeartbeats 2000000 in
theorem impl_toldN (e : List Int) (he : CellsP e) (hel : e.length ≤ 1000) : PCalls Tryd.prog 63 [.sl e.length (e.map (.int .i64)), .clo 64 []] (· = [.map 0 (tE e (VN e) 128)]) := by
  refine pcalls_of_code (n := 48) az Tryd.func63 (by kernel_rfl) rfl rfl (Nat.le_of_ble_eq_true rfl) (by intro t u h; simp [Tryd.f63] at h) ?_
  refine code_seq (fun K1 hK1 => ?_)
  refine code_region ?_
  refine list_cons rfl (op_q (q_deadconst (by decide)) ?_)
  refine list_nil ?_
  refine hK1 _ ?_; clear hK1 K1
  refine code_seq (fun K2 hK2 => ?_)
  refine code_region ?_
  refine list_cons rfl (op_makeMap Tryd.underlying41 (.inr ⟨_, _, rfl, rfl⟩) (by decide) (by decide) rfl ?_)
  refine list_cons rfl (op_q (q_assign rfl (by decide)) ?_)
  refine list_nil ?_
  refine hK2 _ ?_; clear hK2 K2
  refine codeT.imp (σ' := [(0, .par 0 _), (1, .val _), (4, _), (5, _)]) ?_ (imp_covers ⟨rfl, rfl, rfl, rfl, trivial⟩)
  refine code_seq (fun K3 hK3 => ?_)
  refine code_seq (fun K4 hK4 => ?_)
  refine code_region ?_
  refine list_cons rfl (op_q (q_assign rfl (by decide)) ?_)
  refine list_nil ?_
  refine hK4 _ ?_; clear hK4 K4
  refine code_block ?_
  refine code_loop (X := List (PV × PV) × Int) (fun x => [(0, .par 0 (.sl e.length (e.map (.int .i64)))), (1, .val (.clo 64 [])), (5, .map 11 x.1), (6, .val (.int .i64 x.2))]) (fun x => -1 ≤ x.2 ∧ x.2 ≤ 127 ∧ x.1 = tE e (VN e) (127 - x.2).toNat) (fun x => (x.2 + 1).toNat) (_, _) (imp_covers ⟨rfl, rfl, rfl, rfl, trivial⟩) ?_ ?_
  · (try dsimp only)
    exact ⟨by omega, by omega, rfl⟩
  · intro x hI
    obtain ⟨told_m, c⟩ := x
    replace hI : -1 ≤ c ∧ c ≤ 127 ∧ told_m = tE e (VN e) (127 - c).toNat := hI
    show codeT _ _ _ [(0, .par 0 (.sl e.length (e.map (.int .i64)))), (1, .val (.clo 64 [])), (5, .map 11 told_m), (6, .val (.int .i64 c))] _
    obtain ⟨i1, i2, rfl⟩ := hI
    refine code_seq (fun K5 hK5 => ?_)
    refine code_seq (fun K6 hK6 => ?_)
    refine code_region ?_
    refine list_cons rfl (op_q (q_move rfl (by decide)) ?_)
    refine list_cons rfl (op_q (q_ge rfl rfl (by decide)) ?_)
    refine list_nil ?_
    refine hK6 _ ?_; clear hK6 K6
    refine code_cond_d rfl (fun h1 => ?_) (fun h1 => ?_)
    · skip
      (try simp only [Decidable.not_not] at h1)
      refine code_skip ?_
      refine hK5 _ ?_; clear hK5 K5
      refine code_seq (fun K7 hK7 => ?_)
      refine code_block ?_
      refine code_seq (fun K8 hK8 => ?_)
      refine code_region ?_
      refine list_cons rfl (op_q (q_move rfl (by decide)) ?_)
      refine list_cons rfl (op_q (q_move rfl (by decide)) ?_)
      refine list_cons rfl (op_call _ (impl_lightableIn c e (by omega) (by omega) he (by omega)) rfl rfl (by decide) (by decide) (by decide) rfl ?_)
      rintro _ rfl; have hlb := litI_le he c
      refine list_cons rfl (op_q (q_move rfl (by decide)) ?_)
      refine list_cons rfl (op_q (q_extract rfl rfl (by decide)) ?_)
      refine list_cons rfl (op_q (q_extract rfl rfl (by decide)) ?_)
      refine list_cons rfl (op_q (q_assign rfl (by decide)) ?_)
      refine list_cons rfl (op_q (q_assign rfl (by decide)) ?_)
      refine list_nil ?_
      refine hK8 _ ?_; clear hK8 K8
      refine codeT.imp (σ' := [(0, .par 0 _), (1, .val _), (5, _), (6, .val (.int .i64 _)), (7, .val (.int .i64 _)), (8, .val (.bool _))]) ?_ (imp_covers ⟨rfl, rfl, rfl, rfl, rfl, rfl, trivial⟩)
      refine code_seq (fun K9 hK9 => ?_)
      refine code_seq (fun K10 hK10 => ?_)
      refine code_region ?_
      refine list_cons rfl (op_q (q_move rfl (by decide)) ?_)
      refine list_cons rfl (op_q (by first | exact q_notd rfl (by decide) | exact q_not rfl (by decide)) ?_)
      refine list_nil ?_
      refine hK10 _ ?_; clear hK10 K10
      refine code_cond_d rfl (fun h2 => ?_) (fun h2 => ?_)
      · skip
        (try simp only [Decidable.not_not] at h2)
        refine code_exit ?_
        refine then_x ?_; clear hK9 K9
        refine blk_hit ?_
        refine hK7 _ ?_; clear hK7 K7
        refine code_region ?_
        refine list_cons rfl (op_q (q_move rfl (by decide)) ?_)
        refine list_cons rfl (op_q (by first | exact q_subI rfl rfl (by decide) (by omega) (by omega) | exact q_ib rfl rfl rfl (by decide)) ?_)
        refine list_cons rfl (op_q (q_assign rfl (by decide)) ?_)
        refine list_nil ?_
        refine then_n ⟨(_, _), imp_covers ⟨rfl, rfl, rfl, rfl, trivial⟩, ?_, ?_⟩
        · (try dsimp only)
          refine ⟨by omega, by omega, ?_⟩
          exact tE_skipI (by omega) (by omega) (by assumption)
        · (try dsimp only); omega
      (try simp only [Decidable.not_not] at h2)
      refine code_skip ?_
      refine hK9 _ ?_; clear hK9 K9
      refine code_seq (fun K11 hK11 => ?_)
      refine code_region ?_
      refine list_cons rfl (op_buildSlice sl_22 (parts := []) rfl rfl rfl (by decide) (by decide) (by decide) rfl ?_)
      refine list_cons rfl (op_q (q_assign rfl (by decide)) ?_)
      refine list_nil ?_
      refine hK11 _ ?_; clear hK11 K11
      refine code_seq (fun K12 hK12 => ?_)
      refine code_seq (fun K13 hK13 => ?_)
      refine code_region ?_
      refine list_cons rfl (op_q (q_move rfl (by decide)) ?_)
      refine list_nil ?_
      refine hK13 _ ?_; clear hK13 K13
      refine code_block ?_
      refine code_loop (X := Nat × List PV × Int) (fun x => [(0, .par 0 (.sl e.length (e.map (.int .i64)))), (1, .val (.clo 64 [])), (5, .map 11 (tE e (VN e) (127 - c).toNat)), (6, .val (.int .i64 (c))), (7, .val (.int .i64 (litI e c))), (9, .own 24 3 1 x.1 x.2.1), (25, .val (.int .i64 x.2.2))]) (fun x => 0 ≤ x.2.2 ∧ x.2.2 ≤ 7 ∧ x.1 = (nxK e c.toNat x.2.2.toNat).length ∧ x.2.1 = (nxK e c.toNat x.2.2.toNat).map (VN e)) (fun x => (7 - x.2.2).toNat) (_, _, _) (imp_covers ⟨rfl, rfl, rfl, rfl, rfl, rfl, rfl, trivial⟩) ?_ ?_
      · (try dsimp only)
        exact ⟨by omega, by omega, rfl, rfl⟩
      · intro x hI
        obtain ⟨next_n, next_c, t25⟩ := x
        replace hI : 0 ≤ t25 ∧ t25 ≤ 7 ∧ next_n = (nxK e c.toNat t25.toNat).length ∧ next_c = (nxK e c.toNat t25.toNat).map (VN e) := hI
        show codeT _ _ _ [(0, .par 0 (.sl e.length (e.map (.int .i64)))), (1, .val (.clo 64 [])), (5, .map 11 (tE e (VN e) (127 - c).toNat)), (6, .val (.int .i64 (c))), (7, .val (.int .i64 (litI e c))), (9, .own 24 3 1 next_n next_c), (25, .val (.int .i64 t25))] _
        obtain ⟨j1, j2, rfl, rfl⟩ := hI
        have hnl := nxK_len e c.toNat t25.toNat
        have hp2 := p2_le (k := t25.toNat) (by omega)
        refine code_seq (fun K14 hK14 => ?_)
        refine code_region ?_
        refine list_cons rfl (op_q (q_lt rfl rfl (by decide)) ?_)
        refine list_nil ?_
        refine hK14 _ ?_; clear hK14 K14
        refine code_seq (fun K15 hK15 => ?_)
        refine code_cond_d rfl (fun h3 => ?_) (fun h3 => ?_)
        · skip
          (try simp only [Decidable.not_not] at h3)
          refine code_skip ?_
          refine hK15 _ ?_; clear hK15 K15
          refine code_seq (fun K16 hK16 => ?_)
          refine code_block ?_
          refine code_seq (fun K17 hK17 => ?_)
          refine code_region ?_
          refine list_cons rfl (op_q (q_move rfl (by decide)) ?_)
          refine list_cons rfl (op_q (q_assign rfl (by decide)) ?_)
          refine list_nil ?_
          refine hK17 _ ?_; clear hK17 K17
          refine code_seq (fun K18 hK18 => ?_)
          refine code_region ?_
          refine list_cons rfl (op_q (q_move rfl (by decide)) ?_)
          refine list_cons rfl (op_q (q_move rfl (by decide)) ?_)
          refine list_cons rfl (op_call _ (impl_hasBar (litI e c) t25 hlb (by omega)) rfl rfl (by decide) (by decide) (by decide) rfl ?_)
          rintro _ rfl
          refine list_nil ?_
          refine hK18 _ ?_; clear hK18 K18
          refine codeT.imp (σ' := [(0, .par 0 _), (1, .val _), (5, _), (6, .val (.int .i64 _)), (7, .val (.int .i64 _)), (9, .own 24 3 1 _ _), (10, .val (.int .i64 _)), (25, .val (.int .i64 _)), (30, .val (.bool _))]) ?_ (imp_covers ⟨rfl, rfl, rfl, rfl, rfl, rfl, rfl, rfl, rfl, trivial⟩)
          refine code_cond_d rfl (fun h4 => ?_) (fun h4 => ?_)
          · skip
            (try simp only [Decidable.not_not] at h4)
            refine code_region ?_
            refine list_cons rfl (op_q (q_move rfl (by decide)) ?_)
            refine list_cons rfl (op_q (q_move rfl (by decide)) ?_)
            refine list_cons rfl (op_q (q_move rfl (by decide)) ?_)
            refine list_cons rfl (op_q (q_move rfl (by decide)) ?_)
            refine list_cons rfl (op_q (by first | exact q_shl1 rfl rfl (by decide) (by omega) (by omega) | exact q_shlI rfl rfl (by decide) (by omega) (by omega) (by omega) | exact q_shl rfl rfl (by omega) (by decide)) ?_)
            refine list_cons rfl (op_q (by first | exact q_orI rfl rfl (by decide) (by omega) (by omega) (by omega) (by omega) | exact q_ib rfl rfl rfl (by decide)) ?_)
            by_cases h5 : (0 : Int) ≤ c
            · skip
              refine list_cons rfl (op_q (q_lookup (tk := .int .i64) Tryd.underlying41 Tryd.underlying3 zvt_3 rfl rfl rfl (tE_hit (x := upN c.toNat t25.toNat) rfl (nx_okE (by omega) (by assumption)).2.1 (by omega) (by have := (nx_okE (by omega) (by assumption : bitN (litI e c).toNat t25.toNat = true)).2.2.1; omega) (up_lt (by omega) (by omega))) (by decide)) ?_)
              refine list_cons rfl (op_buildSlice sl_22 (parts := [(0, .tmp 37)]) rfl rfl rfl (by decide) (by decide) (by decide) rfl ?_)
              refine list_cons rfl (op_append_gen sl_22 (l := 24) (.inl rfl) rfl rfl (l2 := none) (.inl ⟨rfl, (by first | rfl | exact flat_map _ (fun _ => rfl) _)⟩) (by first | rfl | (simp; done) | (simp; omega)) (by omega) (by decide) (by decide) (by decide) ?_)
              refine list_cons rfl (op_q (q_assign rfl (by decide)) ?_)
              refine list_nil ?_
              refine blk_n ?_
              refine hK16 _ ?_; clear hK16 K16
              refine codeT.imp (σ' := [(0, .par 0 _), (1, .val _), (5, _), (6, .val (.int .i64 _)), (7, .val (.int .i64 _)), (9, .own 24 3 1 _ _), (10, .val (.int .i64 _)), (25, .val (.int .i64 _))]) ?_ (imp_covers ⟨rfl, rfl, rfl, rfl, rfl, rfl, rfl, rfl, trivial⟩)
              refine code_region ?_
              refine list_cons rfl (op_q (by first | exact q_addI rfl rfl (by decide) (by omega) (by omega) | exact q_ib rfl rfl rfl (by decide)) ?_)
              refine list_cons rfl (op_q (q_move rfl (by decide)) ?_)
              refine list_nil ?_
              refine then_n ⟨(_, _, _), imp_covers ⟨rfl, rfl, rfl, rfl, rfl, rfl, rfl, trivial⟩, ?_, ?_⟩
              · (try dsimp only)
                have hN := (nx_okE (by omega) (by assumption : bitN (litI e c).toNat t25.toNat = true)).2.2.2
                exact ⟨by omega, by omega, len_app hN, nN_app hN⟩
              · (try dsimp only); omega
            · skip
              exact absurd (by omega) h5
          (try simp only [Decidable.not_not] at h4)
          refine code_skip ?_
          refine blk_n ?_
          refine hK16 _ ?_; clear hK16 K16
          refine code_region ?_
          refine list_cons rfl (op_q (by first | exact q_addI rfl rfl (by decide) (by omega) (by omega) | exact q_ib rfl rfl rfl (by decide)) ?_)
          refine list_cons rfl (op_q (q_move rfl (by decide)) ?_)
          refine list_nil ?_
          refine then_n ⟨(_, _, _), imp_covers ⟨rfl, rfl, rfl, rfl, rfl, rfl, rfl, trivial⟩, ?_, ?_⟩
          · (try dsimp only)
            have hN := nx_noE (by omega) (by assumption : onP e c) (by assumption : ¬ bitN (litI e c).toNat t25.toNat = true)
            refine ⟨by omega, by omega, ?_, ?_⟩
            · exact (congrArg (fun N => N.length) hN).symm
            · exact (congrArg (fun N => N.map (VN e)) hN).symm
          · (try dsimp only); omega
        (try simp only [Decidable.not_not] at h3)
        refine code_exit ?_
        refine then_x ?_; clear hK15 K15
        refine then_x ?_
        refine blk_hit ?_
        refine hK12 _ ?_; clear hK12 K12
        refine code_region ?_
        refine list_cons rfl (op_q (q_move rfl (by decide)) ?_)
        refine list_cons rfl (op_q (q_move rfl (by decide)) ?_)
        refine list_cons rfl (op_q (q_move rfl (by decide)) ?_)
        refine list_cons rfl (op_q (q_move rfl (by decide)) ?_)
        refine list_cons rfl (op_q (q_move rfl (by decide)) ?_)
        refine list_cons rfl (op_callV _ rfl rfl rfl rfl (pcV (impl_mexE c ((nxK e c.toNat t25.toNat).map (val fN e)) _ _ (num_bd he _ _) (by rw [List.length_map]; omega) (by rw [List.length_map]) (VN_map e _))) (by decide) ?_)
        rintro _ rfl
        refine list_cons rfl (op_mapset (h := 5) (tk := .int .i64) (.inl rfl) rfl Tryd.underlying41 Tryd.underlying3 rfl rfl rfl rfl rfl rfl rfl (tE_newI (by omega) (by omega)) ?_)
        refine list_nil ?_
        refine blk_n ?_
        refine hK7 _ ?_; clear hK7 K7
        refine codeT.imp (σ' := [(0, .par 0 _), (1, .val _), (5, _), (6, .val (.int .i64 _)), (7, .val (.int .i64 _)), (9, .own 24 3 1 _ _), (25, .val (.int .i64 _))]) ?_ (imp_covers ⟨rfl, rfl, rfl, rfl, rfl, rfl, rfl, trivial⟩)
        refine code_region ?_
        refine list_cons rfl (op_q (q_move rfl (by decide)) ?_)
        refine list_cons rfl (op_q (by first | exact q_subI rfl rfl (by decide) (by omega) (by omega) | exact q_ib rfl rfl rfl (by decide)) ?_)
        refine list_cons rfl (op_q (q_assign rfl (by decide)) ?_)
        refine list_nil ?_
        refine then_n ⟨(_, _), imp_covers ⟨rfl, rfl, rfl, rfl, trivial⟩, ?_, ?_⟩
        · (try dsimp only)
          refine ⟨by omega, by omega, ?_⟩
          have h7 : t25.toNat = 7 := by omega
          first
          | (rw [h7, VN_eq he ⟨by omega, by omega⟩]
             exact tE_putI (by omega) (by omega) (by assumption))
        · (try dsimp only); omega
    (try simp only [Decidable.not_not] at h1)
    refine code_exit ?_
    refine then_x ?_; clear hK5 K5
    refine then_x ?_
    refine blk_hit ?_
    refine hK3 _ ?_; clear hK3 K3
    refine code_seq (fun K19 hK19 => ?_)
    refine code_region ?_
    refine list_cons rfl (op_q (q_move rfl (by decide)) ?_)
    refine list_cons rfl (op_q (q_assign rfl (by decide)) ?_)
    refine list_nil ?_
    refine hK19 _ ?_; clear hK19 K19
    refine code_ret ?_
    refine ends_ret (cs := []) rfl rfl rfl rfl trivial ?_
    rw [show (127 - c).toNat = 128 by omega]
set_option maxRecDepth 4000 in
theorem impl_numbersByCell (l : List Int) (hl : l.length ≤ 4611686018427387904) : PCalls Tryd.prog 42 [.sl l.length (l.map (.int .i64))] (· = [.map 0 (tE (gcE l) (VN (gcE l)) 128)]) := by
  refine pcalls_of_code (n := 6) az Tryd.func42 (by kernel_rfl) rfl rfl (Nat.le_of_ble_eq_true rfl) (by intro t u h; simp [Tryd.f42] at h) ?_
  refine code_seq (fun K1 hK1 => ?_)
  refine code_region ?_
  refine list_cons rfl (op_q (q_deadconst (by decide)) ?_)
  refine list_nil ?_
  refine hK1 _ ?_; clear hK1 K1
  refine code_seq (fun K2 hK2 => ?_)
  refine code_region ?_
  refine list_cons rfl (op_q (q_move rfl (by decide)) ?_)
  refine list_cons rfl (op_call _ (impl_goalCells l (by omega)) rfl rfl (by decide) (by decide) (by decide) rfl ?_)
  rintro _ rfl
  refine list_cons rfl (op_call _ (impl_toldN (gcE l) (gcE_cells l) (by have := gcE_len l; omega)) rfl rfl (by decide) (by decide) (by decide) rfl ?_)
  rintro _ rfl
  refine list_cons rfl (op_q (q_assign rfl (by decide)) ?_)
  refine list_nil ?_
  refine hK2 _ ?_; clear hK2 K2
  refine codeT.imp (σ' := [(0, _), (2, _)]) ?_ (imp_covers ⟨rfl, rfl, trivial⟩)
  refine code_ret ?_
  refine ends_ret (cs := []) rfl rfl rfl rfl trivial ?_
  rfl
theorem tE_prop {e : List Int} {V : Nat → PV} {p : PV → Bool} (hk : ∀ n, p (.int .i64 n) = true) (hv : ∀ x, p (V x) = true) : ∀ k, ∀ q ∈ tE e V k, p q.1 = true ∧ p q.2 = true
  | 0, q, h => by simp [tE] at h
  | k + 1, q, h => by
    rw [tE_succ] at h
    split at h
    · rcases List.mem_append.1 h with h | h
      · exact tE_prop hk hv k q h
      · rw [List.mem_singleton.1 h]; exact ⟨hk _, hv _⟩
    · exact tE_prop hk hv k q h
theorem tE_one (e : List Int) (k : Nat) : oneE (tE e (VN e) k) := fun q hq => tE_prop (p := PV.one) (fun _ => rfl) (fun _ => rfl) k q hq
theorem tE_flE (e : List Int) (k : Nat) : flE (tE e (VN e) k) := fun q hq => tE_prop (p := PV.flat) (fun _ => rfl) (fun _ => rfl) k q hq
theorem wro_on {r l : List Int} (h : WroP r l) : ∀ j, j < r.length → onP (gcE l) (r.getD j 0) := fun j hj => by
  rw [gcE_yes h.1]
  exact ⟨h.2.1.at hj, h.2.2 j hj⟩
set_option maxRecDepth 8000 in
set_option maxHeartbeats 2000000 in
theorem impl_numbersForY (r l : List Int) (hr : r.length ≤ 4611686018427387904) (hl : l.length ≤ 4611686018427387904) (hW : WroP r l) : PCalls Tryd.prog 25 [.sl r.length (r.map (.int .i64)), .sl l.length (l.map (.int .i64))] (· = [.frz 0 (.mp (flatE (tE (gcE l) (VN (gcE l)) 128))), .val (.bool true)]) := by
  refine pcalls_of_code (n := 37) az Tryd.func25 (by kernel_rfl) rfl rfl (Nat.le_of_ble_eq_true rfl) (by intro t u h; simp [Tryd.f25] at h) ?_
  refine code_seq (fun K1 hK1 => ?_)
  refine code_region ?_
  refine list_cons rfl (op_q (q_assign rfl (by decide)) ?_)
  refine list_cons rfl (op_q (q_assign rfl (by decide)) ?_)
  refine list_nil ?_
  refine hK1 _ ?_; clear hK1 K1
  refine code_seq (fun K2 hK2 => ?_)
  refine code_seq (fun K3 hK3 => ?_)
  refine code_region ?_
  refine list_cons rfl (op_q (q_move rfl (by decide)) ?_)
  refine list_cons rfl (op_call _ (impl_IsRow _ (by first | omega | (simp; omega))) rfl rfl (by decide) (by decide) (by decide) rfl ?_)
  rintro _ rfl
  refine list_cons rfl (op_q (by first | exact q_notd rfl (by decide) | exact q_not rfl (by decide)) ?_)
  refine list_cons rfl (op_q (q_move rfl (by decide)) ?_)
  refine list_guard_d rfl rfl rfl rfl (by decide) rfl (by decide) (fun h1 => ?_) (fun h1 => ?_)
  · simp only [Bool.false_eq_true, if_true, if_false, Decidable.not_not] at h1
    refine id (op_q (q_move rfl (by decide)) ?_)
    refine list_guard_y rfl rfl rfl rfl (by decide) rfl ?_
    refine id (op_call _ (impl_IsGoal _ (by omega)) rfl rfl (by decide) (by decide) (by decide) rfl ?_)
    rintro _ rfl
    refine list_guard_y rfl rfl rfl rfl (by decide) rfl ?_
    refine id (op_q (by first | exact q_notd rfl (by decide) | exact q_not rfl (by decide)) ?_)
    refine list_cons rfl (op_q (q_pick rfl rfl (by decide)) ?_)
    refine list_nil ?_
    refine hK3 _ ?_; clear hK3 K3
    refine codeT.imp (σ' := [(0, _), (1, _), (4, _), (5, _), (18, _)]) ?_ (imp_covers ⟨rfl, rfl, rfl, rfl, rfl, trivial⟩)
    refine code_cond_d rfl (fun h2 => ?_) (fun h2 => ?_)
    · skip
      (try simp only [Decidable.not_not] at h2)
      refine code_seq (fun K4 hK4 => ?_)
      refine code_region ?_
      refine list_cons rfl (op_q (q_assign rfl (by decide)) ?_)
      refine list_cons rfl (op_q (q_assign rfl (by decide)) ?_)
      refine list_nil ?_
      refine hK4 _ ?_; clear hK4 K4
      refine code_ret ?_
      refine then_r ?_; clear hK2 K2
      refine ends_ret (cs := []) rfl rfl rfl rfl trivial ?_
      first
        | rfl
        | (exfalso; exact absurd hW.2.1 (by assumption))
        | (exfalso; exact absurd hW.1 (by assumption))
        | (exfalso; exact absurd (wro_on hW t23.toNat (by omega)) (by assumption))
        | (exfalso
           refine hW ⟨hD, hRo, fun j hj => ?_⟩
           have := (i3 j (by omega)).2
           rwa [gcE_yes hD] at this)
    (try simp only [Decidable.not_not] at h2)
    refine code_skip ?_
    refine hK2 _ ?_; clear hK2 K2
    refine code_seq (fun K5 hK5 => ?_)
    refine code_region ?_
    refine list_cons rfl (op_q (q_move rfl (by decide)) ?_)
    refine list_cons rfl (op_call _ (impl_numbersByCell l (by omega)) rfl rfl (by decide) (by decide) (by decide) rfl ?_)
    rintro _ rfl
    refine list_cons rfl (op_q (q_assign rfl (by decide)) ?_)
    refine list_nil ?_
    refine hK5 _ ?_; clear hK5 K5
    refine codeT.imp (σ' := [(0, _), (1, _), (4, _), (5, _), (6, _)]) ?_ (imp_covers ⟨rfl, rfl, rfl, rfl, rfl, trivial⟩)
    refine code_seq (fun K6 hK6 => ?_)
    refine code_seq (fun K7 hK7 => ?_)
    refine code_region ?_
    refine list_cons rfl (op_q (q_move rfl (by decide)) ?_)
    refine list_cons rfl (op_q (q_len_sl Tryd.underlying22 rfl rfl (by decide)) ?_)
    refine list_cons rfl (op_q (q_move rfl (by decide)) ?_)
    refine list_nil ?_
    refine hK7 _ ?_; clear hK7 K7
    refine code_block ?_
    refine code_loop (X := PV × Bool × Int) (fun x => [(0, .par 0 (.sl r.length (r.map (.int .i64)))), (1, .par 1 (.sl l.length (l.map (.int .i64)))), (4, .val x.1), (5, .val (.bool x.2.1)), (6, .map 20 (tE (gcE l) (VN (gcE l)) 128)), (21, .par 0 (.sl r.length (r.map (.int .i64)))), (22, .val (.int .i64 (r.length))), (23, .val (.int .i64 x.2.2))]) (fun x => RowP r ∧ DigP l ∧ 0 ≤ x.2.2 ∧ x.2.2 ≤ r.length ∧ ∀ j, j < x.2.2.toNat → onP (gcE l) (r.getD j 0)) (fun x => (r.length - x.2.2).toNat) (_, _, _) (imp_covers ⟨rfl, rfl, rfl, rfl, rfl, rfl, rfl, rfl, trivial⟩) ?_ ?_
    · (try dsimp only)
      exact ⟨by assumption, by assumption, by omega, by omega, fun j hj => absurd hj (Nat.not_lt_zero j)⟩
    · intro x hI
      obtain ⟨t4_p, t5, t23⟩ := x
      replace hI : RowP r ∧ DigP l ∧ 0 ≤ t23 ∧ t23 ≤ r.length ∧ ∀ j, j < t23.toNat → onP (gcE l) (r.getD j 0) := hI
      show codeT _ _ _ [(0, .par 0 (.sl r.length (r.map (.int .i64)))), (1, .par 1 (.sl l.length (l.map (.int .i64)))), (4, .val t4_p), (5, .val (.bool t5)), (6, .map 20 (tE (gcE l) (VN (gcE l)) 128)), (21, .par 0 (.sl r.length (r.map (.int .i64)))), (22, .val (.int .i64 (r.length))), (23, .val (.int .i64 t23))] _
      obtain ⟨hRo, hD, i1, i2, i3⟩ := hI
      refine code_seq (fun K8 hK8 => ?_)
      refine code_region ?_
      refine list_cons rfl (op_q (q_lt rfl rfl (by decide)) ?_)
      refine list_nil ?_
      refine hK8 _ ?_; clear hK8 K8
      refine code_seq (fun K9 hK9 => ?_)
      refine code_cond_d rfl (fun h3 => ?_) (fun h3 => ?_)
      · skip
        (try simp only [Decidable.not_not] at h3)
        refine code_skip ?_
        refine hK9 _ ?_; clear hK9 K9
        refine code_seq (fun K10 hK10 => ?_)
        refine code_block ?_
        refine code_seq (fun K11 hK11 => ?_)
        refine code_region ?_
        refine list_cons rfl (op_q (q_indexAddr_rd sl_22 rfl (.inl ⟨_, rfl, rfl⟩) rfl (by omega) (by omega) (by decide)) ?_)
        refine list_cons rfl (op_q (q_load_rd one_3 rfl (.inl ⟨_, (by first | rfl | exact congrArg (SV.rpar _) (drop_map1 _ 0 _ (by first | omega | (simp; omega)))), rfl⟩) (by decide)) ?_)
        refine list_cons rfl (op_q (q_assign rfl (by decide)) ?_)
        refine list_nil ?_
        refine hK11 _ ?_; clear hK11 K11
        refine code_seq (fun K12 hK12 => ?_)
        refine code_region ?_
        refine list_cons rfl (op_q (q_move rfl (by decide)) ?_)
        refine list_cons rfl (op_q (q_move rfl (by decide)) ?_)
        by_cases h4 : onP (gcE l) (r.getD t23.toNat 0)
        · skip
          refine list_cons rfl (op_q (q_lookup (tk := .int .i64) Tryd.underlying41 Tryd.underlying3 zvt_3 rfl rfl rfl (tE_hitI h4) (by decide)) ?_)
          refine list_cons rfl (op_q (q_move rfl (by decide)) ?_)
          refine list_cons rfl (op_q (q_extract rfl rfl (by decide)) ?_)
          refine list_cons rfl (op_q (q_extract rfl rfl (by decide)) ?_)
          refine list_cons rfl (op_q (q_assign rfl (by decide)) ?_)
          refine list_cons rfl (op_q (q_assign rfl (by decide)) ?_)
          refine list_nil ?_
          refine hK12 _ ?_; clear hK12 K12
          refine codeT.imp (σ' := [(0, _), (1, _), (4, _), (5, _), (6, _), (8, _), (10, _), (21, _), (22, _), (23, _)]) ?_ (imp_covers ⟨rfl, rfl, rfl, rfl, rfl, rfl, rfl, rfl, rfl, rfl, trivial⟩)
          refine code_seq (fun K13 hK13 => ?_)
          refine code_region ?_
          refine list_cons rfl (op_q (q_move rfl (by decide)) ?_)
          refine list_cons rfl (op_q (by first | exact q_notd rfl (by decide) | exact q_not rfl (by decide)) ?_)
          refine list_nil ?_
          refine hK13 _ ?_; clear hK13 K13
          refine code_cond_f rfl ?_
          refine code_skip ?_
          refine blk_n ?_
          refine hK10 _ ?_; clear hK10 K10
          refine code_region ?_
          refine list_cons rfl (op_q (by first | exact q_addI rfl rfl (by decide) (by omega) (by omega) | exact q_ib rfl rfl rfl (by decide)) ?_)
          refine list_cons rfl (op_q (q_move rfl (by decide)) ?_)
          refine list_nil ?_
          refine then_n ⟨(_, _, _), imp_covers ⟨rfl, rfl, rfl, rfl, rfl, rfl, rfl, rfl, trivial⟩, ?_, ?_⟩
          · (try dsimp only)
            refine ⟨hRo, hD, by omega, by omega, fun j hj => ?_⟩
            by_cases e : j = t23.toNat
            · subst e; assumption
            · exact i3 j (by omega)
          · (try dsimp only); omega
        · skip
          refine list_cons rfl (op_q (q_lookup (tk := .int .i64) Tryd.underlying41 Tryd.underlying3 zvt_3 rfl rfl rfl (tE_missI (gcE_cells l) h4) (by decide)) ?_)
          refine list_cons rfl (op_q (q_move rfl (by decide)) ?_)
          refine list_cons rfl (op_q (q_extract rfl rfl (by decide)) ?_)
          refine list_cons rfl (op_q (q_extract rfl rfl (by decide)) ?_)
          refine list_cons rfl (op_q (q_assign rfl (by decide)) ?_)
          refine list_cons rfl (op_q (q_assign rfl (by decide)) ?_)
          refine list_nil ?_
          refine hK12 _ ?_; clear hK12 K12
          refine codeT.imp (σ' := [(0, _), (1, _), (4, _), (5, _), (6, _), (8, _), (10, _), (21, _), (22, _), (23, _)]) ?_ (imp_covers ⟨rfl, rfl, rfl, rfl, rfl, rfl, rfl, rfl, rfl, rfl, trivial⟩)
          refine code_seq (fun K14 hK14 => ?_)
          refine code_region ?_
          refine list_cons rfl (op_q (q_move rfl (by decide)) ?_)
          refine list_cons rfl (op_q (by first | exact q_notd rfl (by decide) | exact q_not rfl (by decide)) ?_)
          refine list_nil ?_
          refine hK14 _ ?_; clear hK14 K14
          refine code_cond_t rfl ?_
          refine code_seq (fun K15 hK15 => ?_)
          refine code_region ?_
          refine list_cons rfl (op_q (q_assign rfl (by decide)) ?_)
          refine list_cons rfl (op_q (q_assign rfl (by decide)) ?_)
          refine list_nil ?_
          refine hK15 _ ?_; clear hK15 K15
          refine code_ret ?_
          refine blk_r ?_
          refine then_r ?_; clear hK10 K10
          refine then_r ?_
          refine blk_r ?_
          refine then_r ?_; clear hK6 K6
          refine ends_ret (cs := []) rfl rfl rfl rfl trivial ?_
          first
            | rfl
            | (exfalso; exact absurd hW.2.1 (by assumption))
            | (exfalso; exact absurd hW.1 (by assumption))
            | (exfalso; exact absurd (wro_on hW t23.toNat (by omega)) (by assumption))
            | (exfalso
               refine hW ⟨hD, hRo, fun j hj => ?_⟩
               have := (i3 j (by omega)).2
               rwa [gcE_yes hD] at this)
      (try simp only [Decidable.not_not] at h3)
      refine code_exit ?_
      refine then_x ?_; clear hK9 K9
      refine then_x ?_
      refine blk_hit ?_
      refine hK6 _ ?_; clear hK6 K6
      refine code_seq (fun K16 hK16 => ?_)
      refine code_region ?_
      refine list_cons rfl (op_q (q_move rfl (by decide)) ?_)
      refine list_cons rfl (op_q (q_assign rfl (by decide)) ?_)
      refine list_cons rfl (op_q (q_assign rfl (by decide)) ?_)
      refine list_nil ?_
      refine hK16 _ ?_; clear hK16 K16
      refine codeT.imp ?_ (imp_mapF (x := 4) rfl (tE_one _ _))
      refine code_ret ?_
      refine ends_ret (cs := []) rfl rfl rfl rfl trivial ?_
      first
        | rfl
        | (exfalso; exact absurd hW.2.1 (by assumption))
        | (exfalso; exact absurd hW.1 (by assumption))
        | (exfalso; exact absurd (wro_on hW t23.toNat (by omega)) (by assumption))
        | (exfalso
           refine hW ⟨hD, hRo, fun j hj => ?_⟩
           have := (i3 j (by omega)).2
           rwa [gcE_yes hD] at this)
  simp only [Bool.false_eq_true, if_true, if_false, Decidable.not_not] at h1
  refine list_guard_nT rfl rfl rfl rfl (by decide) (by decide) ?_
  refine list_guard_nT rfl rfl rfl rfl (by decide) (by decide) ?_
  refine list_cons rfl (op_q (q_pick rfl rfl (by decide)) ?_)
  refine list_nil ?_
  refine hK3 _ ?_; clear hK3 K3
  refine code_cond_t rfl ?_
  refine code_seq (fun K17 hK17 => ?_)
  refine code_region ?_
  refine list_cons rfl (op_q (q_assign rfl (by decide)) ?_)
  refine list_cons rfl (op_q (q_assign rfl (by decide)) ?_)
  refine list_nil ?_
  refine hK17 _ ?_; clear hK17 K17
  refine codeT.imp (σ' := [(0, _), (1, _), (4, _), (5, _)]) ?_ (imp_covers ⟨rfl, rfl, rfl, rfl, trivial⟩)
  refine code_ret ?_
  refine then_r ?_; clear hK2 K2
  refine ends_ret (cs := []) rfl rfl rfl rfl trivial ?_
  first
    | rfl
    | (exfalso; exact absurd hW.2.1 (by assumption))
    | (exfalso; exact absurd hW.1 (by assumption))
    | (exfalso; exact absurd (wro_on hW t23.toNat (by omega)) (by assumption))
    | (exfalso
       refine hW ⟨hD, hRo, fun j hj => ?_⟩
       have := (i3 j (by omega)).2
       rwa [gcE_yes hD] at this)
set_option maxRecDepth 8000 in
set_option maxHeartbeats 2000000 in
theorem impl_numbersForN (r l : List Int) (hr : r.length ≤ 4611686018427387904) (hl : l.length ≤ 4611686018427387904) (hW : ¬ WroP r l) : PCalls Tryd.prog 25 [.sl r.length (r.map (.int .i64)), .sl l.length (l.map (.int .i64))] (· = [.val (.cst 3), .val (.bool false)]) := by
  refine pcalls_of_code (n := 37) az Tryd.func25 (by kernel_rfl) rfl rfl (Nat.le_of_ble_eq_true rfl) (by intro t u h; simp [Tryd.f25] at h) ?_
  refine code_seq (fun K1 hK1 => ?_)
  refine code_region ?_
  refine list_cons rfl (op_q (q_assign rfl (by decide)) ?_)
  refine list_cons rfl (op_q (q_assign rfl (by decide)) ?_)
  refine list_nil ?_
  refine hK1 _ ?_; clear hK1 K1
  refine code_seq (fun K2 hK2 => ?_)
  refine code_seq (fun K3 hK3 => ?_)
  refine code_region ?_
  refine list_cons rfl (op_q (q_move rfl (by decide)) ?_)
  refine list_cons rfl (op_call _ (impl_IsRow _ (by first | omega | (simp; omega))) rfl rfl (by decide) (by decide) (by decide) rfl ?_)
  rintro _ rfl
  refine list_cons rfl (op_q (by first | exact q_notd rfl (by decide) | exact q_not rfl (by decide)) ?_)
  refine list_cons rfl (op_q (q_move rfl (by decide)) ?_)
  refine list_guard_d rfl rfl rfl rfl (by decide) rfl (by decide) (fun h1 => ?_) (fun h1 => ?_)
  · simp only [Bool.false_eq_true, if_true, if_false, Decidable.not_not] at h1
    refine id (op_q (q_move rfl (by decide)) ?_)
    refine list_guard_y rfl rfl rfl rfl (by decide) rfl ?_
    refine id (op_call _ (impl_IsGoal _ (by omega)) rfl rfl (by decide) (by decide) (by decide) rfl ?_)
    rintro _ rfl
    refine list_guard_y rfl rfl rfl rfl (by decide) rfl ?_
    refine id (op_q (by first | exact q_notd rfl (by decide) | exact q_not rfl (by decide)) ?_)
    refine list_cons rfl (op_q (q_pick rfl rfl (by decide)) ?_)
    refine list_nil ?_
    refine hK3 _ ?_; clear hK3 K3
    refine codeT.imp (σ' := [(0, _), (1, _), (4, _), (5, _), (18, _)]) ?_ (imp_covers ⟨rfl, rfl, rfl, rfl, rfl, trivial⟩)
    refine code_cond_d rfl (fun h2 => ?_) (fun h2 => ?_)
    · skip
      (try simp only [Decidable.not_not] at h2)
      refine code_seq (fun K4 hK4 => ?_)
      refine code_region ?_
      refine list_cons rfl (op_q (q_assign rfl (by decide)) ?_)
      refine list_cons rfl (op_q (q_assign rfl (by decide)) ?_)
      refine list_nil ?_
      refine hK4 _ ?_; clear hK4 K4
      refine code_ret ?_
      refine then_r ?_; clear hK2 K2
      refine ends_ret (cs := []) rfl rfl rfl rfl trivial ?_
      first
        | rfl
        | (exfalso; exact absurd hW.2.1 (by assumption))
        | (exfalso; exact absurd hW.1 (by assumption))
        | (exfalso; exact absurd (wro_on hW t23.toNat (by omega)) (by assumption))
        | (exfalso
           refine hW ⟨hD, hRo, fun j hj => ?_⟩
           have := (i3 j (by omega)).2
           rwa [gcE_yes hD] at this)
    (try simp only [Decidable.not_not] at h2)
    refine code_skip ?_
    refine hK2 _ ?_; clear hK2 K2
    refine code_seq (fun K5 hK5 => ?_)
    refine code_region ?_
    refine list_cons rfl (op_q (q_move rfl (by decide)) ?_)
    refine list_cons rfl (op_call _ (impl_numbersByCell l (by omega)) rfl rfl (by decide) (by decide) (by decide) rfl ?_)
    rintro _ rfl
    refine list_cons rfl (op_q (q_assign rfl (by decide)) ?_)
    refine list_nil ?_
    refine hK5 _ ?_; clear hK5 K5
    refine codeT.imp (σ' := [(0, _), (1, _), (4, _), (5, _), (6, _)]) ?_ (imp_covers ⟨rfl, rfl, rfl, rfl, rfl, trivial⟩)
    refine code_seq (fun K6 hK6 => ?_)
    refine code_seq (fun K7 hK7 => ?_)
    refine code_region ?_
    refine list_cons rfl (op_q (q_move rfl (by decide)) ?_)
    refine list_cons rfl (op_q (q_len_sl Tryd.underlying22 rfl rfl (by decide)) ?_)
    refine list_cons rfl (op_q (q_move rfl (by decide)) ?_)
    refine list_nil ?_
    refine hK7 _ ?_; clear hK7 K7
    refine code_block ?_
    refine code_loop (X := PV × Bool × Int) (fun x => [(0, .par 0 (.sl r.length (r.map (.int .i64)))), (1, .par 1 (.sl l.length (l.map (.int .i64)))), (4, .val x.1), (5, .val (.bool x.2.1)), (6, .map 20 (tE (gcE l) (VN (gcE l)) 128)), (21, .par 0 (.sl r.length (r.map (.int .i64)))), (22, .val (.int .i64 (r.length))), (23, .val (.int .i64 x.2.2))]) (fun x => RowP r ∧ DigP l ∧ 0 ≤ x.2.2 ∧ x.2.2 ≤ r.length ∧ ∀ j, j < x.2.2.toNat → onP (gcE l) (r.getD j 0)) (fun x => (r.length - x.2.2).toNat) (_, _, _) (imp_covers ⟨rfl, rfl, rfl, rfl, rfl, rfl, rfl, rfl, trivial⟩) ?_ ?_
    · (try dsimp only)
      exact ⟨by assumption, by assumption, by omega, by omega, fun j hj => absurd hj (Nat.not_lt_zero j)⟩
    · intro x hI
      obtain ⟨t4_p, t5, t23⟩ := x
      replace hI : RowP r ∧ DigP l ∧ 0 ≤ t23 ∧ t23 ≤ r.length ∧ ∀ j, j < t23.toNat → onP (gcE l) (r.getD j 0) := hI
      show codeT _ _ _ [(0, .par 0 (.sl r.length (r.map (.int .i64)))), (1, .par 1 (.sl l.length (l.map (.int .i64)))), (4, .val t4_p), (5, .val (.bool t5)), (6, .map 20 (tE (gcE l) (VN (gcE l)) 128)), (21, .par 0 (.sl r.length (r.map (.int .i64)))), (22, .val (.int .i64 (r.length))), (23, .val (.int .i64 t23))] _
      obtain ⟨hRo, hD, i1, i2, i3⟩ := hI
      refine code_seq (fun K8 hK8 => ?_)
      refine code_region ?_
      refine list_cons rfl (op_q (q_lt rfl rfl (by decide)) ?_)
      refine list_nil ?_
      refine hK8 _ ?_; clear hK8 K8
      refine code_seq (fun K9 hK9 => ?_)
      refine code_cond_d rfl (fun h3 => ?_) (fun h3 => ?_)
      · skip
        (try simp only [Decidable.not_not] at h3)
        refine code_skip ?_
        refine hK9 _ ?_; clear hK9 K9
        refine code_seq (fun K10 hK10 => ?_)
        refine code_block ?_
        refine code_seq (fun K11 hK11 => ?_)
        refine code_region ?_
        refine list_cons rfl (op_q (q_indexAddr_rd sl_22 rfl (.inl ⟨_, rfl, rfl⟩) rfl (by omega) (by omega) (by decide)) ?_)
        refine list_cons rfl (op_q (q_load_rd one_3 rfl (.inl ⟨_, (by first | rfl | exact congrArg (SV.rpar _) (drop_map1 _ 0 _ (by first | omega | (simp; omega)))), rfl⟩) (by decide)) ?_)
        refine list_cons rfl (op_q (q_assign rfl (by decide)) ?_)
        refine list_nil ?_
        refine hK11 _ ?_; clear hK11 K11
        refine code_seq (fun K12 hK12 => ?_)
        refine code_region ?_
        refine list_cons rfl (op_q (q_move rfl (by decide)) ?_)
        refine list_cons rfl (op_q (q_move rfl (by decide)) ?_)
        by_cases h4 : onP (gcE l) (r.getD t23.toNat 0)
        · skip
          refine list_cons rfl (op_q (q_lookup (tk := .int .i64) Tryd.underlying41 Tryd.underlying3 zvt_3 rfl rfl rfl (tE_hitI h4) (by decide)) ?_)
          refine list_cons rfl (op_q (q_move rfl (by decide)) ?_)
          refine list_cons rfl (op_q (q_extract rfl rfl (by decide)) ?_)
          refine list_cons rfl (op_q (q_extract rfl rfl (by decide)) ?_)
          refine list_cons rfl (op_q (q_assign rfl (by decide)) ?_)
          refine list_cons rfl (op_q (q_assign rfl (by decide)) ?_)
          refine list_nil ?_
          refine hK12 _ ?_; clear hK12 K12
          refine codeT.imp (σ' := [(0, _), (1, _), (4, _), (5, _), (6, _), (8, _), (10, _), (21, _), (22, _), (23, _)]) ?_ (imp_covers ⟨rfl, rfl, rfl, rfl, rfl, rfl, rfl, rfl, rfl, rfl, trivial⟩)
          refine code_seq (fun K13 hK13 => ?_)
          refine code_region ?_
          refine list_cons rfl (op_q (q_move rfl (by decide)) ?_)
          refine list_cons rfl (op_q (by first | exact q_notd rfl (by decide) | exact q_not rfl (by decide)) ?_)
          refine list_nil ?_
          refine hK13 _ ?_; clear hK13 K13
          refine code_cond_f rfl ?_
          refine code_skip ?_
          refine blk_n ?_
          refine hK10 _ ?_; clear hK10 K10
          refine code_region ?_
          refine list_cons rfl (op_q (by first | exact q_addI rfl rfl (by decide) (by omega) (by omega) | exact q_ib rfl rfl rfl (by decide)) ?_)
          refine list_cons rfl (op_q (q_move rfl (by decide)) ?_)
          refine list_nil ?_
          refine then_n ⟨(_, _, _), imp_covers ⟨rfl, rfl, rfl, rfl, rfl, rfl, rfl, rfl, trivial⟩, ?_, ?_⟩
          · (try dsimp only)
            refine ⟨hRo, hD, by omega, by omega, fun j hj => ?_⟩
            by_cases e : j = t23.toNat
            · subst e; assumption
            · exact i3 j (by omega)
          · (try dsimp only); omega
        · skip
          refine list_cons rfl (op_q (q_lookup (tk := .int .i64) Tryd.underlying41 Tryd.underlying3 zvt_3 rfl rfl rfl (tE_missI (gcE_cells l) h4) (by decide)) ?_)
          refine list_cons rfl (op_q (q_move rfl (by decide)) ?_)
          refine list_cons rfl (op_q (q_extract rfl rfl (by decide)) ?_)
          refine list_cons rfl (op_q (q_extract rfl rfl (by decide)) ?_)
          refine list_cons rfl (op_q (q_assign rfl (by decide)) ?_)
          refine list_cons rfl (op_q (q_assign rfl (by decide)) ?_)
          refine list_nil ?_
          refine hK12 _ ?_; clear hK12 K12
          refine codeT.imp (σ' := [(0, _), (1, _), (4, _), (5, _), (6, _), (8, _), (10, _), (21, _), (22, _), (23, _)]) ?_ (imp_covers ⟨rfl, rfl, rfl, rfl, rfl, rfl, rfl, rfl, rfl, rfl, trivial⟩)
          refine code_seq (fun K14 hK14 => ?_)
          refine code_region ?_
          refine list_cons rfl (op_q (q_move rfl (by decide)) ?_)
          refine list_cons rfl (op_q (by first | exact q_notd rfl (by decide) | exact q_not rfl (by decide)) ?_)
          refine list_nil ?_
          refine hK14 _ ?_; clear hK14 K14
          refine code_cond_t rfl ?_
          refine code_seq (fun K15 hK15 => ?_)
          refine code_region ?_
          refine list_cons rfl (op_q (q_assign rfl (by decide)) ?_)
          refine list_cons rfl (op_q (q_assign rfl (by decide)) ?_)
          refine list_nil ?_
          refine hK15 _ ?_; clear hK15 K15
          refine code_ret ?_
          refine blk_r ?_
          refine then_r ?_; clear hK10 K10
          refine then_r ?_
          refine blk_r ?_
          refine then_r ?_; clear hK6 K6
          refine ends_ret (cs := []) rfl rfl rfl rfl trivial ?_
          first
            | rfl
            | (exfalso; exact absurd hW.2.1 (by assumption))
            | (exfalso; exact absurd hW.1 (by assumption))
            | (exfalso; exact absurd (wro_on hW t23.toNat (by omega)) (by assumption))
            | (exfalso
               refine hW ⟨hD, hRo, fun j hj => ?_⟩
               have := (i3 j (by omega)).2
               rwa [gcE_yes hD] at this)
      (try simp only [Decidable.not_not] at h3)
      refine code_exit ?_
      refine then_x ?_; clear hK9 K9
      refine then_x ?_
      refine blk_hit ?_
      refine hK6 _ ?_; clear hK6 K6
      refine code_seq (fun K16 hK16 => ?_)
      refine code_region ?_
      refine list_cons rfl (op_q (q_move rfl (by decide)) ?_)
      refine list_cons rfl (op_q (q_assign rfl (by decide)) ?_)
      refine list_cons rfl (op_q (q_assign rfl (by decide)) ?_)
      refine list_nil ?_
      refine hK16 _ ?_; clear hK16 K16
      refine codeT.imp ?_ (imp_mapF (x := 4) rfl (tE_one _ _))
      refine code_ret ?_
      refine ends_ret (cs := []) rfl rfl rfl rfl trivial ?_
      first
        | rfl
        | (exfalso; exact absurd hW.2.1 (by assumption))
        | (exfalso; exact absurd hW.1 (by assumption))
        | (exfalso; exact absurd (wro_on hW t23.toNat (by omega)) (by assumption))
        | (exfalso
           refine hW ⟨hD, hRo, fun j hj => ?_⟩
           have := (i3 j (by omega)).2
           rwa [gcE_yes hD] at this)
  simp only [Bool.false_eq_true, if_true, if_false, Decidable.not_not] at h1
  refine list_guard_nT rfl rfl rfl rfl (by decide) (by decide) ?_
  refine list_guard_nT rfl rfl rfl rfl (by decide) (by decide) ?_
  refine list_cons rfl (op_q (q_pick rfl rfl (by decide)) ?_)
  refine list_nil ?_
  refine hK3 _ ?_; clear hK3 K3
  refine code_cond_t rfl ?_
  refine code_seq (fun K17 hK17 => ?_)
  refine code_region ?_
  refine list_cons rfl (op_q (q_assign rfl (by decide)) ?_)
  refine list_cons rfl (op_q (q_assign rfl (by decide)) ?_)
  refine list_nil ?_
  refine hK17 _ ?_; clear hK17 K17
  refine codeT.imp (σ' := [(0, _), (1, _), (4, _), (5, _)]) ?_ (imp_covers ⟨rfl, rfl, rfl, rfl, trivial⟩)
  refine code_ret ?_
  refine then_r ?_; clear hK2 K2
  refine ends_ret (cs := []) rfl rfl rfl rfl trivial ?_
  first
    | rfl
    | (exfalso; exact absurd hW.2.1 (by assumption))
    | (exfalso; exact absurd hW.1 (by assumption))
    | (exfalso; exact absurd (wro_on hW t23.toNat (by omega)) (by assumption))
    | (exfalso
       refine hW ⟨hD, hRo, fun j hj => ?_⟩
       have := (i3 j (by omega)).2
       rwa [gcE_yes hD] at this)
set_option maxRecDepth 8000 in
set_option maxHeartbeats 2000000 in
theorem impl_winsAt (r e : List Int) (he : CellsP e) (hr6 : r.length ≤ 6) (hon : ∀ j, j < r.length → onP e (r.getD j 0)) : PCalls Tryd.prog 69 [.sl r.length (r.map (.int .i64)), .mp (flatE (tE e (VN e) 128))] (· = [.val (.bool (decide (xrK e r r.length ≠ 0)))]) := by
  refine pcalls_of_code (n := 22) az Tryd.func69 (by kernel_rfl) rfl rfl (Nat.le_of_ble_eq_true rfl) (by intro t u h; simp [Tryd.f69] at h) ?_
  refine code_seq (fun K1 hK1 => ?_)
  refine code_region ?_
  refine list_cons rfl (op_q (q_assign rfl (by decide)) ?_)
  refine list_nil ?_
  refine hK1 _ ?_; clear hK1 K1
  refine code_seq (fun K2 hK2 => ?_)
  refine code_region ?_
  refine list_cons rfl (op_q (q_assign rfl (by decide)) ?_)
  refine list_nil ?_
  refine hK2 _ ?_; clear hK2 K2
  refine code_seq (fun K3 hK3 => ?_)
  refine code_seq (fun K4 hK4 => ?_)
  refine code_region ?_
  refine list_cons rfl (op_q (q_move rfl (by decide)) ?_)
  refine list_cons rfl (op_q (q_len_sl Tryd.underlying22 rfl rfl (by decide)) ?_)
  refine list_cons rfl (op_q (q_move rfl (by decide)) ?_)
  refine list_nil ?_
  refine hK4 _ ?_; clear hK4 K4
  refine code_block ?_
  refine code_loop (X := Bool × Int × Int) (fun x => [(0, .par 0 (.sl r.length (r.map (.int .i64)))), (1, .par 1 (.mp (flatE (tE e (VN e) 128)))), (4, .val (.bool x.1)), (5, .val (.int .i64 x.2.1)), (8, .par 0 (.sl r.length (r.map (.int .i64)))), (9, .val (.int .i64 (r.length))), (10, .val (.int .i64 x.2.2))]) (fun x => 0 ≤ x.2.2 ∧ x.2.2 ≤ r.length ∧ x.2.1 = xrK e r x.2.2.toNat) (fun x => (r.length - x.2.2).toNat) (_, _, _) (imp_covers ⟨rfl, rfl, rfl, rfl, rfl, rfl, rfl, trivial⟩) ?_ ?_
  · (try dsimp only)
    exact ⟨by omega, by omega, rfl⟩
  · intro x hI
    obtain ⟨t4, sum, t10⟩ := x
    replace hI : 0 ≤ t10 ∧ t10 ≤ r.length ∧ sum = xrK e r t10.toNat := hI
    show codeT _ _ _ [(0, .par 0 (.sl r.length (r.map (.int .i64)))), (1, .par 1 (.mp (flatE (tE e (VN e) 128)))), (4, .val (.bool t4)), (5, .val (.int .i64 sum)), (8, .par 0 (.sl r.length (r.map (.int .i64)))), (9, .val (.int .i64 (r.length))), (10, .val (.int .i64 t10))] _
    obtain ⟨i1, i2, rfl⟩ := hI
    have hx := xrK_le he (fun j hj => (hon j hj).1) t10.toNat (by omega)
    have hcb := fun h => cell_bd he (x := (r.getD t10.toNat 0).toNat) (by have := (hon t10.toNat h).1; omega)
    refine code_seq (fun K5 hK5 => ?_)
    refine code_region ?_
    refine list_cons rfl (op_q (q_lt rfl rfl (by decide)) ?_)
    refine list_nil ?_
    refine hK5 _ ?_; clear hK5 K5
    refine code_seq (fun K6 hK6 => ?_)
    refine code_cond_d rfl (fun h1 => ?_) (fun h1 => ?_)
    · skip
      (try simp only [Decidable.not_not] at h1)
      refine code_skip ?_
      refine hK6 _ ?_; clear hK6 K6
      refine code_seq (fun K7 hK7 => ?_)
      refine code_block ?_
      refine code_seq (fun K8 hK8 => ?_)
      refine code_region ?_
      refine list_cons rfl (op_q (q_indexAddr_rd sl_22 rfl (.inl ⟨_, rfl, rfl⟩) rfl (by omega) (by omega) (by decide)) ?_)
      refine list_cons rfl (op_q (q_load_rd one_3 rfl (.inl ⟨_, (by first | rfl | exact congrArg (SV.rpar _) (drop_map1 _ 0 _ (by first | omega | (simp; omega)))), rfl⟩) (by decide)) ?_)
      refine list_cons rfl (op_q (q_assign rfl (by decide)) ?_)
      refine list_nil ?_
      refine hK8 _ ?_; clear hK8 K8
      refine code_region ?_
      refine list_cons rfl (op_q (q_move rfl (by decide)) ?_)
      refine list_cons rfl (op_q (q_move rfl (by decide)) ?_)
      refine list_cons rfl (op_q (q_move rfl (by decide)) ?_)
      by_cases h2 : onP e (r.getD t10.toNat 0)
      · skip
        refine list_cons rfl (op_q (q_lookupP (tk := .int .i64) Tryd.underlying41 Tryd.underlying3 zvt_3 rfl rfl (tE_flE _ _) rfl rfl (tE_hitI h2) (by decide)) ?_)
        refine list_cons rfl (op_q (by first | exact q_xorI rfl rfl (by decide) (by omega) (by omega) (by omega) (by omega) | exact q_ib rfl rfl rfl (by decide)) ?_)
        refine list_cons rfl (op_q (q_assign rfl (by decide)) ?_)
        refine list_nil ?_
        refine blk_n ?_
        refine hK7 _ ?_; clear hK7 K7
        refine codeT.imp (σ' := [(0, _), (1, _), (4, _), (5, _), (7, _), (8, _), (9, _), (10, _)]) ?_ (imp_covers ⟨rfl, rfl, rfl, rfl, rfl, rfl, rfl, rfl, trivial⟩)
        refine code_region ?_
        refine list_cons rfl (op_q (by first | exact q_addI rfl rfl (by decide) (by omega) (by omega) | exact q_ib rfl rfl rfl (by decide)) ?_)
        refine list_cons rfl (op_q (q_move rfl (by decide)) ?_)
        refine list_nil ?_
        refine then_n ⟨(_, _, _), imp_covers ⟨rfl, rfl, rfl, rfl, rfl, rfl, rfl, trivial⟩, ?_, ?_⟩
        · (try dsimp only)
          exact ⟨by omega, by omega, by rw [show (t10 + 1).toNat = t10.toNat + 1 by omega]; rfl⟩
        · (try dsimp only); omega
      · skip
        exact absurd (hon _ (by omega)) h2
    (try simp only [Decidable.not_not] at h1)
    refine code_exit ?_
    refine then_x ?_; clear hK6 K6
    refine then_x ?_
    refine blk_hit ?_
    refine hK3 _ ?_; clear hK3 K3
    refine code_seq (fun K9 hK9 => ?_)
    refine code_region ?_
    refine list_cons rfl (op_q (q_move rfl (by decide)) ?_)
    refine list_cons rfl (op_q (q_ne rfl rfl (by decide)) ?_)
    refine list_cons rfl (op_q (q_assign rfl (by decide)) ?_)
    refine list_nil ?_
    refine hK9 _ ?_; clear hK9 K9
    refine code_ret ?_
    refine ends_ret (cs := []) rfl rfl rfl rfl trivial ?_
    rw [show t10.toNat = r.length by omega]
theorem mv_on {e : List Int} {c : Int} (hc : 0 ≤ c ∧ c ≤ 127) {b : Nat} (hb : b < 7) : bitN (litN e c.toNat) b = true ↔ onP e ((upN c.toNat b : Nat) : Int) ∧ ¬ bitN c.toNat b = true := by
  have hl := up_lt (c := c.toNat) (b := b) (by omega) hb
  rw [lit_ok, up_ne, bitN_test]
  unfold onP
  rw [Int.toNat_natCast]
  constructor
  · rintro ⟨h1, h2⟩; exact ⟨⟨by omega, h2⟩, by rw [h1]; decide⟩
  · rintro ⟨⟨_, h2⟩, h1⟩; exact ⟨by simpa using h1, h2⟩
theorem mvB_mem {e r : List Int} {w : Bool} {i : Nat} {p : Int × Int} : ∀ {b}, p ∈ mvB e r w i b ↔ ∃ j, j < b ∧ mvP e r w i j ∧ p = ((i : Int), (j : Int))
  | 0 => ⟨fun h => (by simp [mvB] at h), fun ⟨j, h, _⟩ => by omega⟩
  | b + 1 => by
    rw [mvB_succ]
    split
    · rename_i hs
      rw [List.mem_append, mvB_mem, List.mem_singleton]
      constructor
      · rintro (⟨j, h1, h2⟩ | h)
        · exact ⟨j, by omega, h2⟩
        · exact ⟨b, by omega, hs, h⟩
      · rintro ⟨j, h1, h2, h3⟩
        by_cases hj : j = b
        · subst hj; exact .inr h3
        · exact .inl ⟨j, by omega, h2, h3⟩
    · rename_i hs
      rw [mvB_mem]
      constructor
      · rintro ⟨j, h1, h2⟩; exact ⟨j, by omega, h2⟩
      · rintro ⟨j, h1, h2, h3⟩
        by_cases hj : j = b
        · subst hj; exact absurd h2 hs
        · exact ⟨j, by omega, h2, h3⟩
theorem mvR_mem {e r : List Int} {w : Bool} {p : Int × Int} : ∀ {n}, p ∈ mvR e r w n ↔ ∃ i j, i < n ∧ j < 7 ∧ mvP e r w i j ∧ p = ((i : Int), (j : Int))
  | 0 => ⟨fun h => (by simp [mvR] at h), fun ⟨i, j, h, _⟩ => by omega⟩
  | n + 1 => by
    rw [mvR_succ, List.mem_append, mvR_mem, mvB_mem]
    constructor
    · rintro (⟨i, j, h1, h2⟩ | ⟨j, h1, h2⟩)
      · exact ⟨i, j, by omega, h2⟩
      · exact ⟨n, j, by omega, h1, h2⟩
    · rintro ⟨i, j, h1, h2, h3⟩
      by_cases hi : i = n
      · subst hi; exact .inr ⟨j, h2, h3⟩
      · exact .inl ⟨i, j, by omega, h2, h3⟩
theorem mvB_filter (e r : List Int) (i : Nat) (q : Int × Int → Bool) (hq : ∀ j, j < 7 → mvP e r false i j → (q ((i : Int), (j : Int)) = true ↔ wnP e r i j)) : ∀ b, b ≤ 7 → (mvB e r false i b).filter q = mvB e r true i b
  | 0, _ => rfl
  | b + 1, hb => by
    have ih := mvB_filter e r i q hq b (by omega)
    rw [mvB_succ, mvB_succ]
    by_cases h : mvP e r false i b
    · have h2 := hq b (by omega) h
      rw [if_pos h, List.filter_append, ih]
      by_cases h3 : wnP e r i b
      · rw [if_pos (show mvP e r true i b from ⟨h.1, fun _ => h3⟩)]
        simp [h2.2 h3]
      · rw [if_neg (fun z : mvP e r true i b => h3 (z.2 rfl))]
        have : q ((i : Int), (b : Int)) = false := by
          cases h4 : q ((i : Int), (b : Int)) with
          | false => rfl
          | true => exact absurd (h2.1 h4) h3
        simp [this]
    · rw [if_neg h, if_neg (fun z : mvP e r true i b => h ⟨z.1, fun k => by cases k⟩), ih]
theorem mvR_filter (e r : List Int) (q : Int × Int → Bool) : ∀ n, (∀ i j, i < n → j < 7 → mvP e r false i j → (q ((i : Int), (j : Int)) = true ↔ wnP e r i j)) → (mvR e r false n).filter q = mvR e r true n
  | 0, _ => rfl
  | n + 1, h => by
    rw [mvR_succ, mvR_succ, List.filter_append, mvR_filter e r q n fun i j hi => h i j (by omega), mvB_filter e r n q (fun j hj => h n j (by omega) hj) 7 (Nat.le_refl _)]
def bhR (r : List Int) (p : Int × Int) : List Int := r.set p.1.toNat ((upN (r.getD p.1.toNat 0).toNat p.2.toNat : Nat) : Int)
theorem bhR_len (r : List Int) (p : Int × Int) : (bhR r p).length = r.length := by simp [bhR]
theorem bhR_at (r : List Int) (p : Int × Int) {j : Nat} (hj : j < r.length) : (bhR r p).getD j 0 = if p.1.toNat = j then ((upN (r.getD p.1.toNat 0).toNat p.2.toNat : Nat) : Int) else r.getD j 0 := by
  unfold bhR
  rw [List.getD_eq_getElem?_getD, List.getElem?_set]
  by_cases e : p.1.toNat = j
  · subst e
    rw [if_pos rfl, if_pos rfl, if_pos hj]; rfl
  · rw [if_neg e, if_neg e, List.getD_eq_getElem?_getD]
theorem xor_rc (a b c : Nat) : (a ^^^ b) ^^^ c = (a ^^^ c) ^^^ b := by rw [Nat.xor_assoc, Nat.xor_comm b c, ← Nat.xor_assoc]
theorem xrK_nat {e r : List Int} (he : CellsP e) (hr : ∀ j, j < r.length → 0 ≤ r.getD j 0 ∧ r.getD j 0 ≤ 127) {k : Nat} (hk : k ≤ r.length) : 0 ≤ xrK e r k := (xrK_le he hr k hk).1
theorem bh_cell {e r : List Int} (he : CellsP e) (hon : ∀ j, j < r.length → onP e (r.getD j 0)) {i b : Nat} (hi : i < r.length) (hb : b < 7) (h : bitN (litN e (r.getD i 0).toNat) b = true) : ∀ j, j < (bhR r ((i : Int), (b : Int))).length → onP e ((bhR r ((i : Int), (b : Int))).getD j 0) := fun j hj => by
  rw [bhR_len] at hj
  rw [bhR_at r _ hj]
  split
  · exact ((mv_on (hon i hi).1 hb).1 h).1
  · exact hon j hj
theorem bh_sum {e r : List Int} (he : CellsP e) (hon : ∀ j, j < r.length → onP e (r.getD j 0)) {i b : Nat} (hi : i < r.length) (hb : b < 7) (h : bitN (litN e (r.getD i 0).toNat) b = true) : ∀ k, k ≤ r.length → (xrK e (bhR r ((i : Int), (b : Int))) k).toNat = if i < k then (xrK e r k).toNat ^^^ ((val fN e (r.getD i 0).toNat).toNat ^^^ (val fN e (upN (r.getD i 0).toNat b)).toNat) else (xrK e r k).toNat
  | 0, _ => by rw [if_neg (Nat.not_lt_zero _)]; rfl
  | k + 1, hk => by
    have ih := bh_sum he hon hi hb h k (by omega)
    have e1 : (xrK e (bhR r ((i : Int), (b : Int))) (k + 1)).toNat = (xrK e (bhR r ((i : Int), (b : Int))) k).toNat ^^^ (val fN e ((bhR r ((i : Int), (b : Int))).getD k 0).toNat).toNat := rfl
    have e2 : (xrK e r (k + 1)).toNat = (xrK e r k).toNat ^^^ (val fN e (r.getD k 0).toNat).toNat := rfl
    rw [e1, e2, ih, bhR_at r _ (by omega : k < r.length)]
    show _ ^^^ (val fN e (if ((i : Nat) : Int).toNat = k then _ else _ : Int).toNat).toNat = _
    rw [Int.toNat_natCast, Int.toNat_natCast]
    by_cases c1 : i = k
    · subst c1
      rw [if_neg (Nat.lt_irrefl _), if_pos rfl, if_pos (Nat.lt_succ_self _), Int.toNat_natCast]
      rw [Nat.xor_assoc]
      congr 1
      rw [← Nat.xor_assoc, Nat.xor_self, Nat.zero_xor]
    · rw [if_neg c1]
      by_cases c2 : i < k
      · rw [if_pos c2, if_pos (by omega)]
        exact xor_rc _ _ _
      · rw [if_neg c2, if_neg (by omega)]
theorem bh_win {e r : List Int} (he : CellsP e) (hon : ∀ j, j < r.length → onP e (r.getD j 0)) {i b : Nat} (hi : i < r.length) (hb : b < 7) (h : bitN (litN e (r.getD i 0).toNat) b = true) : xrK e (bhR r ((i : Int), (b : Int))) (bhR r ((i : Int), (b : Int))).length = 0 ↔ wnP e r i b := by
  have h0 := bh_sum he hon hi hb h r.length (Nat.le_refl _)
  have hb2 := bh_cell he hon hi hb h
  have h1 := xrK_nat he (r := bhR r ((i : Int), (b : Int))) (fun j hj => (hb2 j hj).1) (Nat.le_refl _)
  rw [if_pos hi] at h0
  rw [bhR_len] at h1 ⊢
  unfold wnP
  rw [Int.toNat_natCast, Nat.xor_assoc]
  constructor
  · intro z
    rw [z] at h0
    have : (0 : Int).toNat = 0 := rfl
    omega
  · intro z; omega
noncomputable def kpM (r : List Int) (e : List Int) (p : Int × Int) : Bool := decide (xrK e (bhR r p) (bhR r p).length = 0)
theorem win_filter {r l : List Int} (hW : WroP r l) : (mvR (gcE l) r false r.length).filter (kpM r (gcE l)) = mvR (gcE l) r true r.length := mvR_filter _ _ _ _ fun i j hi hj hm => by
  unfold kpM
  rw [decide_eq_true_iff]
  exact bh_win (gcE_cells l) (wro_on hW) hi hj hm.1
set_option maxRecDepth 8000 in
set_option maxHeartbeats 4000000 in
theorem impl_movesAt (r e : List Int) (he : CellsP e) (hr6 : r.length ≤ 6) (hon : ∀ j, j < r.length → onP e (r.getD j 0)) : PCalls Tryd.prog 45 [.sl r.length (r.map (.int .i64)), .mp (flatE (tE e (VN e) 128))] (· = [.own 0 40 2 (mvR e r false r.length).length (fl (mvR e r false r.length))]) := by
  refine pcalls_of_code (n := 47) az Tryd.func45 (by kernel_rfl) rfl rfl (Nat.le_of_ble_eq_true rfl) (by intro t u h; simp [Tryd.f45] at h) ?_
  refine code_seq (fun K1 hK1 => ?_)
  refine code_region ?_
  refine list_cons rfl (op_q (q_assign rfl (by decide)) ?_)
  refine list_nil ?_
  refine hK1 _ ?_; clear hK1 K1
  refine code_seq (fun K2 hK2 => ?_)
  refine code_region ?_
  refine list_cons rfl (op_buildSlice sl_29 (parts := []) rfl rfl rfl (by decide) (by decide) (by decide) rfl ?_)
  refine list_cons rfl (op_q (q_assign rfl (by decide)) ?_)
  refine list_nil ?_
  refine hK2 _ ?_; clear hK2 K2
  refine code_seq (fun K3 hK3 => ?_)
  refine code_seq (fun K4 hK4 => ?_)
  refine code_region ?_
  refine list_cons rfl (op_q (q_move rfl (by decide)) ?_)
  refine list_cons rfl (op_q (q_len_sl Tryd.underlying22 rfl rfl (by decide)) ?_)
  refine list_cons rfl (op_q (q_move rfl (by decide)) ?_)
  refine list_nil ?_
  refine hK4 _ ?_; clear hK4 K4
  refine code_block ?_
  refine code_loop (X := PV × Nat × List PV × Int) (fun x => [(0, .par 0 (.sl r.length (r.map (.int .i64)))), (1, .par 1 (.mp (flatE (tE e (VN e) 128)))), (4, .val x.1), (5, .own 11 40 2 x.2.1 x.2.2.1), (12, .par 0 (.sl r.length (r.map (.int .i64)))), (13, .val (.int .i64 (r.length))), (14, .val (.int .i64 x.2.2.2))]) (fun x => 0 ≤ x.2.2.2 ∧ x.2.2.2 ≤ r.length ∧ x.2.1 = (mvR e r false x.2.2.2.toNat).length ∧ x.2.2.1 = fl (mvR e r false x.2.2.2.toNat)) (fun x => (r.length - x.2.2.2).toNat) (_, _, _, _) (imp_covers ⟨rfl, rfl, rfl, rfl, rfl, rfl, rfl, trivial⟩) ?_ ?_
  · (try dsimp only)
    exact ⟨by omega, by omega, rfl, rfl⟩
  · intro x hI
    obtain ⟨t4_p, moves_n, moves_c, t14⟩ := x
    replace hI : 0 ≤ t14 ∧ t14 ≤ r.length ∧ moves_n = (mvR e r false t14.toNat).length ∧ moves_c = fl (mvR e r false t14.toNat) := hI
    show codeT _ _ _ [(0, .par 0 (.sl r.length (r.map (.int .i64)))), (1, .par 1 (.mp (flatE (tE e (VN e) 128)))), (4, .val t4_p), (5, .own 11 40 2 moves_n moves_c), (12, .par 0 (.sl r.length (r.map (.int .i64)))), (13, .val (.int .i64 (r.length))), (14, .val (.int .i64 t14))] _
    obtain ⟨i1, i2, rfl, rfl⟩ := hI
    have hml := mvR_len e r false t14.toNat
    refine code_seq (fun K5 hK5 => ?_)
    refine code_region ?_
    refine list_cons rfl (op_q (q_lt rfl rfl (by decide)) ?_)
    refine list_nil ?_
    refine hK5 _ ?_; clear hK5 K5
    refine code_seq (fun K6 hK6 => ?_)
    refine code_cond_d rfl (fun h1 => ?_) (fun h1 => ?_)
    · skip
      (try simp only [Decidable.not_not] at h1)
      refine code_skip ?_
      refine hK6 _ ?_; clear hK6 K6
      refine code_seq (fun K7 hK7 => ?_)
      refine code_block ?_
      refine code_seq (fun K8 hK8 => ?_)
      refine code_region ?_
      refine list_cons rfl (op_q (q_move rfl (by decide)) ?_)
      refine list_cons rfl (op_q (q_indexAddr_rd sl_22 rfl (.inl ⟨_, rfl, rfl⟩) rfl (by omega) (by omega) (by decide)) ?_)
      refine list_cons rfl (op_q (q_load_rd one_3 rfl (.inl ⟨_, (by first | rfl | exact congrArg (SV.rpar _) (drop_map1 _ 0 _ (by first | omega | (simp; omega)))), rfl⟩) (by decide)) ?_)
      refine list_cons rfl (op_q (q_assign rfl (by decide)) ?_)
      refine list_cons rfl (op_q (q_assign rfl (by decide)) ?_)
      refine list_nil ?_
      refine hK8 _ ?_; clear hK8 K8
      refine code_seq (fun K9 hK9 => ?_)
      refine code_region ?_
      refine list_cons rfl (op_q (q_move rfl (by decide)) ?_)
      refine list_nil ?_
      refine hK9 _ ?_; clear hK9 K9
      refine code_block ?_
      refine code_loop (X := PV × Nat × List PV × Int) (fun x => [(0, .par 0 (.sl r.length (r.map (.int .i64)))), (1, .par 1 (.mp (flatE (tE e (VN e) 128)))), (4, .val x.1), (5, .own 11 40 2 x.2.1 x.2.2.1), (6, .val (.int .i64 (t14))), (7, .val (.int .i64 (r.getD t14.toNat 0))), (12, .par 0 (.sl r.length (r.map (.int .i64)))), (13, .val (.int .i64 (r.length))), (14, .val (.int .i64 (t14))), (19, .val (.int .i64 x.2.2.2))]) (fun x => 0 ≤ x.2.2.2 ∧ x.2.2.2 ≤ 7 ∧ x.2.1 = (mvR e r false t14.toNat ++ mvB e r false t14.toNat x.2.2.2.toNat).length ∧ x.2.2.1 = fl (mvR e r false t14.toNat ++ mvB e r false t14.toNat x.2.2.2.toNat)) (fun x => (7 - x.2.2.2).toNat) (_, _, _, _) (imp_covers ⟨rfl, rfl, rfl, rfl, rfl, rfl, rfl, rfl, rfl, rfl, trivial⟩) ?_ ?_
      · (try dsimp only)
        exact ⟨by omega, by omega, (congrArg List.length (List.append_nil _)).symm, (congrArg fl (List.append_nil _)).symm⟩
      · intro x hI
        obtain ⟨t4_p, moves_n, moves_c, t19⟩ := x
        replace hI : 0 ≤ t19 ∧ t19 ≤ 7 ∧ moves_n = (mvR e r false t14.toNat ++ mvB e r false t14.toNat t19.toNat).length ∧ moves_c = fl (mvR e r false t14.toNat ++ mvB e r false t14.toNat t19.toNat) := hI
        show codeT _ _ _ [(0, .par 0 (.sl r.length (r.map (.int .i64)))), (1, .par 1 (.mp (flatE (tE e (VN e) 128)))), (4, .val t4_p), (5, .own 11 40 2 moves_n moves_c), (6, .val (.int .i64 (t14))), (7, .val (.int .i64 (r.getD t14.toNat 0))), (12, .par 0 (.sl r.length (r.map (.int .i64)))), (13, .val (.int .i64 (r.length))), (14, .val (.int .i64 (t14))), (19, .val (.int .i64 t19))] _
        obtain ⟨j1, j2, rfl, rfl⟩ := hI
        have hbl := mvB_len e r false t14.toNat t19.toNat
        have hal : (mvR e r false t14.toNat ++ mvB e r false t14.toNat t19.toNat).length ≤ 7 * t14.toNat + t19.toNat := by rw [List.length_append]; omega
        have hc := (hon t14.toNat (by omega)).1
        have hp2 := p2_le (k := t19.toNat) (by omega)
        have hmo := fun h : t19.toNat < 7 => mv_on (e := e) hc h
        refine code_seq (fun K10 hK10 => ?_)
        refine code_region ?_
        refine list_cons rfl (op_q (q_lt rfl rfl (by decide)) ?_)
        refine list_nil ?_
        refine hK10 _ ?_; clear hK10 K10
        refine code_seq (fun K11 hK11 => ?_)
        refine code_cond_d rfl (fun h2 => ?_) (fun h2 => ?_)
        · skip
          (try simp only [Decidable.not_not] at h2)
          refine code_skip ?_
          refine hK11 _ ?_; clear hK11 K11
          refine code_seq (fun K12 hK12 => ?_)
          refine code_block ?_
          refine code_seq (fun K13 hK13 => ?_)
          refine code_region ?_
          refine list_cons rfl (op_q (q_move rfl (by decide)) ?_)
          refine list_cons rfl (op_q (q_assign rfl (by decide)) ?_)
          refine list_nil ?_
          refine hK13 _ ?_; clear hK13 K13
          refine code_seq (fun K14 hK14 => ?_)
          refine code_region ?_
          refine list_cons rfl (op_q (q_move rfl (by decide)) ?_)
          refine list_cons rfl (op_q (q_move rfl (by decide)) ?_)
          refine list_cons rfl (op_q (q_move rfl (by decide)) ?_)
          refine list_cons rfl (op_q (by first | exact q_shl1 rfl rfl (by decide) (by omega) (by omega) | exact q_shlI rfl rfl (by decide) (by omega) (by omega) (by omega) | exact q_shl rfl rfl (by omega) (by decide)) ?_)
          refine list_cons rfl (op_q (by first | exact q_orI rfl rfl (by decide) (by omega) (by omega) (by omega) (by omega) | exact q_ib rfl rfl rfl (by decide)) ?_)
          by_cases h3 : onP e ((upN (r.getD t14.toNat 0).toNat t19.toNat : Nat) : Int)
          · skip
            refine list_cons rfl (op_q (q_lookupP (tk := .int .i64) Tryd.underlying41 Tryd.underlying3 zvt_3 rfl rfl (tE_flE _ _) rfl rfl (tE_hitI h3) (by decide)) ?_)
            refine list_cons rfl (op_q (q_move rfl (by decide)) ?_)
            refine list_cons rfl (op_q (q_extract rfl rfl (by decide)) ?_)
            refine list_cons rfl (op_q (q_extract rfl rfl (by decide)) ?_)
            refine list_cons rfl (op_q (q_assign rfl (by decide)) ?_)
            refine list_cons rfl (op_q (q_assign rfl (by decide)) ?_)
            refine list_nil ?_
            refine hK14 _ ?_; clear hK14 K14
            refine codeT.imp (σ' := [(0, .par 0 _), (1, .par 1 _), (4, .val _), (5, .own 11 40 2 _ _), (6, .val (.int .i64 _)), (7, .val (.int .i64 _)), (8, .val (.int .i64 _)), (10, .val (.bool _)), (12, .par 0 _), (13, .val (.int .i64 _)), (14, .val (.int .i64 _)), (19, .val (.int .i64 _))]) ?_ (imp_covers ⟨rfl, rfl, rfl, rfl, rfl, rfl, rfl, rfl, rfl, rfl, rfl, rfl, trivial⟩)
            refine code_seq (fun K15 hK15 => ?_)
            refine code_region ?_
            refine list_cons rfl (op_q (q_move rfl (by decide)) ?_)
            refine list_cons rfl (op_q (q_move rfl (by decide)) ?_)
            refine list_guard_y rfl rfl rfl rfl (by decide) rfl ?_
            refine id (op_q (q_move rfl (by decide)) ?_)
            refine list_guard_y rfl rfl rfl rfl (by decide) rfl ?_
            refine id (op_q (q_move rfl (by decide)) ?_)
            refine list_guard_y rfl rfl rfl rfl (by decide) rfl ?_
            refine id (op_call _ (impl_hasBar (r.getD t14.toNat 0) t19 hc (by omega)) rfl rfl (by decide) (by decide) (by decide) rfl ?_)
            rintro _ rfl
            refine list_guard_y rfl rfl rfl rfl (by decide) rfl ?_
            refine id (op_q (by first | exact q_notd rfl (by decide) | exact q_not rfl (by decide)) ?_)
            refine list_cons rfl (op_q (q_pick rfl rfl (by decide)) ?_)
            refine list_nil ?_
            refine hK15 _ ?_; clear hK15 K15
            refine codeT.imp (σ' := [(0, .par 0 _), (1, .par 1 _), (4, .val _), (5, .own 11 40 2 _ _), (6, .val (.int .i64 _)), (7, .val (.int .i64 _)), (8, .val (.int .i64 _)), (10, .val (.bool _)), (12, .par 0 _), (13, .val (.int .i64 _)), (14, .val (.int .i64 _)), (19, .val (.int .i64 _)), (37, .val (.bool _))]) ?_ (imp_covers ⟨rfl, rfl, rfl, rfl, rfl, rfl, rfl, rfl, rfl, rfl, rfl, rfl, rfl, trivial⟩)
            refine code_cond_d rfl (fun h4 => ?_) (fun h4 => ?_)
            · skip
              (try simp only [Decidable.not_not] at h4)
              refine code_region ?_
              refine list_cons rfl (op_q (q_move rfl (by decide)) ?_)
              refine list_cons rfl (op_q (q_move rfl (by decide)) ?_)
              refine list_cons rfl (op_q (q_move rfl (by decide)) ?_)
              refine list_cons rfl (op_q (q_build bt_40 (parts := [(0, .tmp 39), (1, .tmp 40)]) rfl rfl (by decide)) ?_)
              refine list_cons rfl (op_buildSlice sl_29 (parts := [(0, .tmp 41)]) rfl rfl rfl (by decide) (by decide) (by decide) rfl ?_)
              refine list_cons rfl (op_append_gen sl_29 (l := 11) (.inl rfl) rfl rfl (l2 := none) (.inl ⟨rfl, (by first | rfl | exact flat_map _ (fun _ => rfl) _)⟩) (by first | rfl | (simp [PV.cells, putAt, zeros]; done)) (by omega) (by decide) (by decide) (by decide) ?_)
              refine list_cons rfl (op_q (q_assign rfl (by decide)) ?_)
              refine list_nil ?_
              refine blk_n ?_
              refine hK12 _ ?_; clear hK12 K12
              refine codeT.imp (σ' := [(0, .par 0 _), (1, .par 1 _), (4, .val _), (5, .own 11 40 2 _ _), (6, .val (.int .i64 _)), (7, .val (.int .i64 _)), (8, .val (.int .i64 _)), (10, .val (.bool _)), (12, .par 0 _), (13, .val (.int .i64 _)), (14, .val (.int .i64 _)), (19, .val (.int .i64 _))]) ?_ (imp_covers ⟨rfl, rfl, rfl, rfl, rfl, rfl, rfl, rfl, rfl, rfl, rfl, rfl, trivial⟩)
              refine code_region ?_
              refine list_cons rfl (op_q (by first | exact q_addI rfl rfl (by decide) (by omega) (by omega) | exact q_ib rfl rfl rfl (by decide)) ?_)
              refine list_cons rfl (op_q (q_move rfl (by decide)) ?_)
              refine list_nil ?_
              refine then_n ⟨(_, _, _, _), imp_covers ⟨rfl, rfl, rfl, rfl, rfl, rfl, rfl, rfl, rfl, rfl, trivial⟩, ?_, ?_⟩
              · (try dsimp only)
                first
                | (have hm : mvP e r false t14.toNat t19.toNat := ⟨(hmo (by omega)).2 ⟨by assumption, by assumption⟩, fun k => by cases k⟩
                   have e2 := mv_yes (by omega) (by omega) hm
                   exact ⟨by omega, by omega, (len_snocM _ t14 t19).trans (congrArg List.length e2), (fl_snocM _ t14 t19).trans (congrArg fl e2)⟩)
                | (have hm : ¬ mvP e r false t14.toNat t19.toNat := fun z => by
                     have z2 := (hmo (by omega)).1 z.1
                     first | exact absurd z2.1 (by assumption) | exact absurd z2.2 (by simpa using h4) | exact z2.2 (by assumption)
                   have e2 := mv_no (by omega) hm
                   exact ⟨by omega, by omega, (congrArg List.length e2).symm, (congrArg fl e2).symm⟩)
              · (try dsimp only); omega
            (try simp only [Decidable.not_not] at h4)
            refine code_skip ?_
            refine blk_n ?_
            refine hK12 _ ?_; clear hK12 K12
            refine code_region ?_
            refine list_cons rfl (op_q (by first | exact q_addI rfl rfl (by decide) (by omega) (by omega) | exact q_ib rfl rfl rfl (by decide)) ?_)
            refine list_cons rfl (op_q (q_move rfl (by decide)) ?_)
            refine list_nil ?_
            refine then_n ⟨(_, _, _, _), imp_covers ⟨rfl, rfl, rfl, rfl, rfl, rfl, rfl, rfl, rfl, rfl, trivial⟩, ?_, ?_⟩
            · (try dsimp only)
              first
              | (have hm : mvP e r false t14.toNat t19.toNat := ⟨(hmo (by omega)).2 ⟨by assumption, by assumption⟩, fun k => by cases k⟩
                 have e2 := mv_yes (by omega) (by omega) hm
                 exact ⟨by omega, by omega, (len_snocM _ t14 t19).trans (congrArg List.length e2), (fl_snocM _ t14 t19).trans (congrArg fl e2)⟩)
              | (have hm : ¬ mvP e r false t14.toNat t19.toNat := fun z => by
                   have z2 := (hmo (by omega)).1 z.1
                   first | exact absurd z2.1 (by assumption) | exact absurd z2.2 (by simpa using h4) | exact z2.2 (by assumption)
                 have e2 := mv_no (by omega) hm
                 exact ⟨by omega, by omega, (congrArg List.length e2).symm, (congrArg fl e2).symm⟩)
            · (try dsimp only); omega
          · skip
            refine list_cons rfl (op_q (q_lookupP (tk := .int .i64) Tryd.underlying41 Tryd.underlying3 zvt_3 rfl rfl (tE_flE _ _) rfl rfl (tE_missI he h3) (by decide)) ?_)
            refine list_cons rfl (op_q (q_move rfl (by decide)) ?_)
            refine list_cons rfl (op_q (q_extract rfl rfl (by decide)) ?_)
            refine list_cons rfl (op_q (q_extract rfl rfl (by decide)) ?_)
            refine list_cons rfl (op_q (q_assign rfl (by decide)) ?_)
            refine list_cons rfl (op_q (q_assign rfl (by decide)) ?_)
            refine list_nil ?_
            refine hK14 _ ?_; clear hK14 K14
            refine codeT.imp (σ' := [(0, .par 0 _), (1, .par 1 _), (4, .val _), (5, .own 11 40 2 _ _), (6, .val (.int .i64 _)), (7, .val (.int .i64 _)), (8, .val (.int .i64 _)), (10, .val (.bool _)), (12, .par 0 _), (13, .val (.int .i64 _)), (14, .val (.int .i64 _)), (19, .val (.int .i64 _))]) ?_ (imp_covers ⟨rfl, rfl, rfl, rfl, rfl, rfl, rfl, rfl, rfl, rfl, rfl, rfl, trivial⟩)
            refine code_seq (fun K16 hK16 => ?_)
            refine code_region ?_
            refine list_cons rfl (op_q (q_move rfl (by decide)) ?_)
            refine list_cons rfl (op_q (q_move rfl (by decide)) ?_)
            refine list_guard_nT rfl rfl rfl rfl (by decide) (by decide) ?_
            refine list_guard_nT rfl rfl rfl rfl (by decide) (by decide) ?_
            refine list_guard_nT rfl rfl rfl rfl (by decide) (by decide) ?_
            refine list_guard_nT rfl rfl rfl rfl (by decide) (by decide) ?_
            refine list_cons rfl (op_q (q_pick rfl rfl (by decide)) ?_)
            refine list_nil ?_
            refine hK16 _ ?_; clear hK16 K16
            refine code_cond_f rfl ?_
            refine code_skip ?_
            refine blk_n ?_
            refine hK12 _ ?_; clear hK12 K12
            refine codeT.imp (σ' := [(0, .par 0 _), (1, .par 1 _), (4, .val _), (5, .own 11 40 2 _ _), (6, .val (.int .i64 _)), (7, .val (.int .i64 _)), (8, .val (.int .i64 _)), (10, .val (.bool _)), (12, .par 0 _), (13, .val (.int .i64 _)), (14, .val (.int .i64 _)), (19, .val (.int .i64 _))]) ?_ (imp_covers ⟨rfl, rfl, rfl, rfl, rfl, rfl, rfl, rfl, rfl, rfl, rfl, rfl, trivial⟩)
            refine code_region ?_
            refine list_cons rfl (op_q (by first | exact q_addI rfl rfl (by decide) (by omega) (by omega) | exact q_ib rfl rfl rfl (by decide)) ?_)
            refine list_cons rfl (op_q (q_move rfl (by decide)) ?_)
            refine list_nil ?_
            refine then_n ⟨(_, _, _, _), imp_covers ⟨rfl, rfl, rfl, rfl, rfl, rfl, rfl, rfl, rfl, rfl, trivial⟩, ?_, ?_⟩
            · (try dsimp only)
              first
              | (have hm : mvP e r false t14.toNat t19.toNat := ⟨(hmo (by omega)).2 ⟨by assumption, by assumption⟩, fun k => by cases k⟩
                 have e2 := mv_yes (by omega) (by omega) hm
                 exact ⟨by omega, by omega, (len_snocM _ t14 t19).trans (congrArg List.length e2), (fl_snocM _ t14 t19).trans (congrArg fl e2)⟩)
              | (have hm : ¬ mvP e r false t14.toNat t19.toNat := fun z => by
                   have z2 := (hmo (by omega)).1 z.1
                   first | exact absurd z2.1 (by assumption) | exact absurd z2.2 (by simpa using h3) | exact z2.2 (by assumption)
                 have e2 := mv_no (by omega) hm
                 exact ⟨by omega, by omega, (congrArg List.length e2).symm, (congrArg fl e2).symm⟩)
            · (try dsimp only); omega
        (try simp only [Decidable.not_not] at h2)
        refine code_exit ?_
        refine then_x ?_; clear hK11 K11
        refine then_x ?_
        refine blk_hit ?_
        refine blk_n ?_
        refine hK7 _ ?_; clear hK7 K7
        refine code_region ?_
        refine list_cons rfl (op_q (by first | exact q_addI rfl rfl (by decide) (by omega) (by omega) | exact q_ib rfl rfl rfl (by decide)) ?_)
        refine list_cons rfl (op_q (q_move rfl (by decide)) ?_)
        refine list_nil ?_
        refine then_n ⟨(_, _, _, _), imp_covers ⟨rfl, rfl, rfl, rfl, rfl, rfl, rfl, trivial⟩, ?_, ?_⟩
        · (try dsimp only)
          have h7 : t19.toNat = 7 := by omega
          have e2 := (congrArg (fun n => mvR e r false t14.toNat ++ mvB e r false t14.toNat n) h7).trans (mv_row (i := t14) (by omega)).symm
          exact ⟨by omega, by omega, congrArg List.length e2, congrArg fl e2⟩
        · (try dsimp only); omega
    (try simp only [Decidable.not_not] at h1)
    refine code_exit ?_
    refine then_x ?_; clear hK6 K6
    refine then_x ?_
    refine blk_hit ?_
    refine hK3 _ ?_; clear hK3 K3
    refine code_seq (fun K17 hK17 => ?_)
    refine code_region ?_
    refine list_cons rfl (op_q (q_move rfl (by decide)) ?_)
    refine list_cons rfl (op_q (q_assign rfl (by decide)) ?_)
    refine list_nil ?_
    refine hK17 _ ?_; clear hK17 K17
    refine code_ret ?_
    refine ends_ret (cs := []) rfl rfl rfl rfl trivial ?_
    rw [show t14.toNat = r.length by omega]
theorem bh_put {r : List Int} {a b : Int} (ha : 0 ≤ a ∧ a < r.length) {o : Nat} (ho : o = a.toNat * 1) : putAt (r.map (PV.int .i64)) o [PV.int .i64 ((upN (r.getD a.toNat 0).toNat b.toNat : Nat) : Int)] = (bhR r (a, b)).map (PV.int .i64) := by
  subst ho
  rw [put_map1 (PV.int .i64) r (by omega)]; rfl
theorem filtP_snoc {p : Int × Int → Prop} [DecidablePred p] {l : List (Int × Int)} {j : Nat} (h : j < l.length) : ((l.take (j + 1)).filter fun x => !decide (p x)) = ((l.take j).filter fun x => !decide (p x)) ++ if p (l.getD j (0, 0)) then [] else [l.getD j (0, 0)] := by
  rw [List.take_add_one, List.getElem?_eq_getElem h, List.filter_append, List.getD_eq_getElem?_getD, List.getElem?_eq_getElem h]
  congr 1
  show List.filter _ [l[j]] = _
  rw [List.filter_cons]
  by_cases hp : p l[j]
  · rw [if_neg (by simp [hp])]; simp [hp]
  · rw [if_pos (by simp [hp])]; simp [hp]
theorem filtP_none {p : Int × Int → Prop} [DecidablePred p] {l : List (Int × Int)} : ∀ k, k ≤ l.length → (∀ j, j < k → ¬ p (l.getD j (0, 0))) → ((l.take k).filter fun x => !decide (p x)) = l.take k
  | 0, _, _ => by simp
  | k + 1, h, hk => by
    rw [filtP_snoc (by omega), filtP_none k (by omega) (fun j hj => hk j (by omega)), if_neg (hk k (by omega)), List.take_add_one, List.getElem?_eq_getElem (show k < l.length by omega), List.getD_eq_getElem?_getD, List.getElem?_eq_getElem (show k < l.length by omega)]; rfl
theorem takeP_set {W : List (Int × Int)} {i : Nat} {v : Int × Int} (h : i < W.length) : (W.set i v).take (i + 1) = W.take i ++ [v] := by
  rw [List.take_add_one, List.take_set_of_le (by omega), List.getElem?_set_self (by omega)]; rfl
theorem fl_take : ∀ (W : List (Int × Int)) (i : Nat), (fl W).take (i * 2) = fl (W.take i)
  | W, 0 => by simp [fl]
  | [], i + 1 => by simp [fl]
  | w :: W, i + 1 => by
    have ih := fl_take W i
    show (PV.int .i64 w.1 :: PV.int .i64 w.2 :: fl W).take ((i + 1) * 2) = PV.int .i64 w.1 :: PV.int .i64 w.2 :: fl (W.take i)
    rw [show (i + 1) * 2 = i * 2 + 1 + 1 by omega, List.take_succ_cons, List.take_succ_cons, ih]
set_option maxRecDepth 4000 in
theorem cloneG_c (l : List Int) (hl : l.length ≤ 1000) : PCalls Tryd.prog 46 [.sl l.length (l.map (.int .i64))] (· = [.own 0 3 1 (l).length ((l).map (.int .i64))]) := by
  refine pcalls_of_code (n := 8) az Tryd.func46 (by kernel_rfl) rfl rfl (Nat.le_of_ble_eq_true rfl) (by intro t u h; simp [Tryd.f46] at h) ?_
  refine code_seq (fun K1 hK1 => ?_)
  refine code_region ?_
  refine list_cons rfl (op_q (q_assign rfl (by decide)) ?_)
  refine list_nil ?_
  refine hK1 _ ?_; clear hK1 K1
  refine code_seq (fun K2 hK2 => ?_)
  refine code_seq (fun K3 hK3 => ?_)
  refine code_region ?_
  refine list_cons rfl (op_q (q_move rfl (by decide)) ?_)
  refine list_cons rfl (op_eqnil Tryd.underlying22 rfl rfl (by decide) (fun h1 hzh1 => ?_) ?_)
  · skip
    refine list_nil ?_
    refine hK3 _ ?_; clear hK3 K3
    refine code_cond_t rfl ?_
    refine code_seq (fun K4 hK4 => ?_)
    refine code_region ?_
    refine list_cons rfl (op_q (q_assign rfl (by decide)) ?_)
    refine list_nil ?_
    refine hK4 _ ?_; clear hK4 K4
    refine codeT.imp ?_ (imp_nil (s := 2) (l := 902) (e := 3) (size := 1) (by first | exact .inl rfl | exact .inr rfl))
    refine code_ret ?_
    refine then_r ?_; clear hK2 K2
    refine ends_ret (cs := []) rfl rfl rfl rfl trivial ?_
    first
      | rfl
      | (have e : l = [] := List.eq_nil_of_length_eq_zero h1
         subst e; rfl)
      | (rw [show zeros [PV.int IntKind.i64 0] 0 = [] from rfl, List.nil_append, Nat.zero_add]; done)
  · skip
    refine list_nil ?_
    refine hK3 _ ?_; clear hK3 K3
    refine code_cond_f rfl ?_
    refine code_skip ?_
    refine hK2 _ ?_; clear hK2 K2
    refine code_seq (fun K5 hK5 => ?_)
    refine code_region ?_
    refine list_cons rfl (op_buildSlice sl_22 (parts := []) rfl rfl rfl (by decide) (by decide) (by decide) rfl ?_)
    refine list_cons rfl (op_q (q_move rfl (by decide)) ?_)
    refine list_cons rfl (op_append_gen sl_22 (l := 5) (.inl rfl) rfl rfl (l2 := none) (.inl ⟨rfl, (by first | rfl | exact flat_map _ (fun _ => rfl) _)⟩) (by first | rfl | simp | omega) (by omega) (by decide) (by decide) (by decide) ?_)
    refine list_cons rfl (op_q (q_assign rfl (by decide)) ?_)
    refine list_nil ?_
    refine hK5 _ ?_; clear hK5 K5
    refine codeT.imp (σ' := [(0, _), (2, _)]) ?_ (imp_covers ⟨rfl, rfl, trivial⟩)
    refine code_ret ?_
    refine ends_ret (cs := []) rfl rfl rfl rfl trivial ?_
    first
      | rfl
      | (have e : l = [] := List.eq_nil_of_length_eq_zero h1
         subst e; rfl)
      | (rw [show zeros [PV.int IntKind.i64 0] 0 = [] from rfl, List.nil_append, Nat.zero_add]; done)
set_option maxRecDepth 8000 in
set_option maxHeartbeats 4000000 in
theorem impl_behindMove (r : List Int) (a b : Int) (hr6 : r.length ≤ 6) (hc : ∀ j, j < r.length → 0 ≤ r.getD j 0 ∧ r.getD j 0 ≤ 127) (ha : 0 ≤ a ∧ a < r.length) (hb : 0 ≤ b ∧ b ≤ 6) : PCalls Tryd.prog 27 [.sl r.length (r.map (.int .i64)), .agg [.int .i64 a, .int .i64 b]] (· = [.own 0 3 1 (bhR r (a, b)).length ((bhR r (a, b)).map (.int .i64))]) := by
  refine pcalls_of_code (n := 19) az Tryd.func27 (by kernel_rfl) rfl rfl (Nat.le_of_ble_eq_true rfl) (by intro t u h; simp [Tryd.f27] at h) ?_
  have hca := hc a.toNat (by omega)
  have hp2 := p2_le (k := b.toNat) (by omega)
  refine code_seq (fun K1 hK1 => ?_)
  refine code_region ?_
  refine list_cons rfl (op_box rfl (.inl ⟨rfl, rfl⟩) (by decide) (by decide) rfl ?_)
  refine list_cons rfl (op_q (q_assign rfl (by decide)) ?_)
  refine list_nil ?_
  refine hK1 _ ?_; clear hK1 K1
  refine code_seq (fun K2 hK2 => ?_)
  refine code_region ?_
  refine list_cons rfl (op_q (q_move rfl (by decide)) ?_)
  refine list_cons rfl (op_call _ (cloneG_c _ (by omega)) rfl rfl (by decide) (by decide) (by decide) rfl ?_)
  rintro _ rfl
  refine list_cons rfl (op_q (q_assign rfl (by decide)) ?_)
  refine list_nil ?_
  refine hK2 _ ?_; clear hK2 K2
  refine codeT.imp (σ' := [(0, _), (1, _), (3, _), (4, _), (5, _)]) ?_ (imp_covers ⟨rfl, rfl, rfl, rfl, rfl, trivial⟩)
  refine code_seq (fun K3 hK3 => ?_)
  refine any_start fun ob1_0 => ?_
  refine any_op (rd := [5]) ob1_0 rfl rfl rfl (anyT_quiet [(5, _)] ⟨rfl, trivial⟩ rfl (q_move rfl (by decide))) (fun ob1_1 => ?_)
  refine any_op (rd := [3]) ob1_1 rfl rfl rfl (anyT_quiet [(3, _)] ⟨rfl, trivial⟩ rfl (q_indexAddr_arr arr_40 rfl rfl rfl (by omega) (by omega) (by decide))) (fun ob1_2 => ?_)
  refine any_op (rd := [9, 3]) ob1_2 rfl rfl rfl (anyT_quiet [(9, _), (3, _)] ⟨rfl, rfl, trivial⟩ rfl (q_load one_3 3 rfl rfl rfl (by first | rfl | exact get_map1 _ 0 _ (by omega)) (by decide))) (fun ob1_3 => ?_)
  refine any_op (rd := [8, 10]) ob1_3 rfl rfl rfl (anyT_quiet [(8, _), (10, _)] ⟨rfl, rfl, trivial⟩ rfl (q_indexAddr_own sl_22 rfl rfl (by omega) (by omega) (by decide))) (fun ob1_4 => ?_)
  refine any_op (rd := [11, 5]) ob1_4 rfl rfl rfl (anyT_quiet [(11, _), (5, _)] ⟨rfl, rfl, trivial⟩ rfl (q_load one_3 5 rfl rfl rfl (by first | rfl | exact get_map1 _ 0 _ (by omega)) (by decide))) (fun ob1_5 => ?_)
  refine any_op (rd := [3]) ob1_5 rfl rfl rfl (anyT_quiet [(3, _)] ⟨rfl, trivial⟩ rfl (q_indexAddr_arr arr_40 rfl rfl rfl (by omega) (by omega) (by decide))) (fun ob1_6 => ?_)
  refine any_op (rd := [13, 3]) ob1_6 rfl rfl rfl (anyT_quiet [(13, _), (3, _)] ⟨rfl, rfl, trivial⟩ rfl (q_load one_3 3 rfl rfl rfl (by first | rfl | exact get_map1 _ 0 _ (by omega)) (by decide))) (fun ob1_7 => ?_)
  refine any_op (rd := [14]) ob1_7 rfl rfl rfl (anyT_quiet [(14, _)] ⟨rfl, trivial⟩ rfl (by first | exact q_shl1 rfl rfl (by decide) (by omega) (by omega) | exact q_shlI rfl rfl (by decide) (by omega) (by omega) (by omega) | exact q_shl rfl rfl (by omega) (by decide))) (fun ob1_8 => ?_)
  refine any_end [[], [], [1], [0, 1, 2], [0, 1, 2, 3], [], [5], [5, 6], [0, 1, 2, 3, 4, 5, 6, 7], [0, 1, 2, 3, 4, 5, 6, 7, 8], [0, 1, 2, 3, 4, 5, 6, 7, 8, 9]] ob1_8 (by kernel_rfl) (Nat.le_of_ble_eq_true rfl) (by decide) (by decide) (by kernel_rfl) (by kernel_rfl) (by kernel_rfl) (by kernel_rfl) (by kernel_rfl) ?_
  clear ob1_0 ob1_1 ob1_2 ob1_3 ob1_4 ob1_5 ob1_6 ob1_7 ob1_8
  refine listT.imp (σ' := [(0, _), (1, _), (3, _), (4, _), (5, _), (8, _), (9, _), (10, _), (11, _), (12, _), (13, _), (14, _), (15, _)]) ?_ (imp_covers ⟨rfl, rfl, rfl, rfl, rfl, rfl, rfl, rfl, rfl, rfl, rfl, rfl, rfl, trivial⟩)
  refine list_cons rfl (op_q (by first | exact q_orI rfl rfl (by decide) (by omega) (by omega) (by omega) (by omega) | exact q_ib rfl rfl rfl (by decide)) ?_)
  refine list_cons rfl (op_q (q_indexAddr_own sl_22 rfl rfl (by omega) (by omega) (by decide)) ?_)
  refine list_cons rfl (op_store (one_3).2 5 [5, 8] (by intro t ht; simp only [List.mem_cons, List.not_mem_nil, or_false] at ht; rcases ht with rfl | rfl <;> rfl) (.inl rfl) rfl rfl rfl rfl rfl rfl (by first | decide | (rw [List.length_map]; omega)) (by decide) rfl ?_)
  refine list_nil ?_
  refine hK3 _ ?_; clear hK3 K3
  refine codeT.imp (σ' := [(0, _), (1, _), (3, _), (4, _), (5, _)]) ?_ (imp_covers ⟨rfl, rfl, rfl, rfl, rfl, trivial⟩)
  refine code_seq (fun K4 hK4 => ?_)
  refine code_region ?_
  refine list_cons rfl (op_q (q_move rfl (by decide)) ?_)
  refine list_cons rfl (op_q (q_assign rfl (by decide)) ?_)
  refine list_nil ?_
  refine hK4 _ ?_; clear hK4 K4
  refine code_ret ?_
  refine ends_ret (cs := []) rfl rfl rfl rfl trivial ?_
  first
    | (rw [bhR_len]; exact congrArg (fun z => [SV.own 0 3 1 r.length z]) (bh_put ha rfl))
    | (rw [bhR_len, ← bh_put ha rfl]; rfl)
theorem impl_behindE (r : List Int) (a b : Int) (cs : List PV) (hcs : cs = [.int .i64 a, .int .i64 b]) (hr6 : r.length ≤ 6) (hc : ∀ j, j < r.length → 0 ≤ r.getD j 0 ∧ r.getD j 0 ≤ 127) (ha : 0 ≤ a ∧ a < r.length) (hb : 0 ≤ b ∧ b ≤ 6) : PCalls Tryd.prog 27 [.sl r.length (r.map (.int .i64)), .agg cs] (· = [.own 0 3 1 (bhR r (a, b)).length ((bhR r (a, b)).map (.int .i64))]) := by
  subst hcs; exact impl_behindMove r a b hr6 hc ha hb
set_option maxRecDepth 8000 in
set_option maxHeartbeats 4000000 in
theorem impl_winRule (r e : List Int) (a b : Int) (he : CellsP e) (hr6 : r.length ≤ 6) (hon : ∀ j, j < r.length → onP e (r.getD j 0)) (ha : 0 ≤ a ∧ a < r.length) (hb : 0 ≤ b ∧ b ≤ 6) (hm : ∀ j, j < (bhR r (a, b)).length → onP e ((bhR r (a, b)).getD j 0)) : PCalls Tryd.prog 68 [.agg [.int .i64 a, .int .i64 b], .ptr [.sl r.length (r.map (.int .i64))], .ptr [.mp (flatE (tE e (VN e) 128))]] (· = [.val (.bool (decide (xrK e (bhR r (a, b)) (bhR r (a, b)).length ≠ 0)))]) := by
  refine pcalls_of_code (n := 10) az Tryd.func68 (by kernel_rfl) rfl rfl (Nat.le_of_ble_eq_true rfl) (by intro t u h; simp [Tryd.f68] at h) ?_
  refine codeT.imp ?_ (imp_rpar (s := 1) (i := 1) rfl)
  refine codeT.imp ?_ (imp_rpar (s := 2) (i := 2) rfl)
  refine code_seq (fun K1 hK1 => ?_)
  refine code_region ?_
  refine list_cons rfl (op_box rfl (.inl ⟨rfl, rfl⟩) (by decide) (by decide) rfl ?_)
  refine list_cons rfl (op_q (q_assign rfl (by decide)) ?_)
  refine list_nil ?_
  refine hK1 _ ?_; clear hK1 K1
  refine code_seq (fun K2 hK2 => ?_)
  refine any_start fun ob2_0 => ?_
  refine any_op (rd := [1]) ob2_0 rfl rfl rfl (anyT_quiet [(1, _)] ⟨rfl, trivial⟩ rfl (q_load_rd one_22 rfl (.inl ⟨_, (by first | rfl | exact congrArg (SV.rpar _) (drop_map1 _ [] _ (by first | omega | (simp; omega)))), rfl⟩) (by decide))) (fun ob2_1 => ?_)
  refine any_op (rd := [3]) ob2_1 rfl rfl rfl (anyT_quiet [(3, _)] ⟨rfl, trivial⟩ rfl (q_load_agg agg_40 3 (.inr ⟨rfl, _, rfl⟩) rfl rfl (by first | decide | omega | exact Nat.le_refl _ | (simp; done) | (simp; omega)) (by first | rfl | exact flat_part (flat_map _ (fun _ => rfl) _) _ _) (by decide))) (fun ob2_2 => ?_)
  refine any_op (rd := [5, 6]) ob2_2 rfl rfl rfl (fun σ hag hfr => by have e5 : σ.at 5 = some _ := (hag 5 (by decide)).trans rfl; have e6 : σ.at 6 = some _ := (hag 6 (by decide)).trans rfl; exact op_call _ (impl_behindE r a b _ rfl hr6 (fun j hj => (hon j hj).1) ha hb) (evs_cons e5 (evs_cons e6 evs_nil)) rfl (by decide) (by decide) (by decide) hfr (fun rs hR => by subst hR; rfl)) (fun ob2_3 => ?_)
  refine any_op (rd := [2]) ob2_3 rfl rfl rfl (anyT_quiet [(2, _)] ⟨rfl, trivial⟩ rfl (q_load_rd one_41 rfl (.inl ⟨_, (by first | rfl | exact congrArg (SV.rpar _) (drop_map1 _ [] _ (by first | omega | (simp; omega)))), rfl⟩) (by decide))) (fun ob2_4 => ?_)
  refine any_end [[], [], [0, 1], [], [0, 1, 2, 3], [0, 1, 2, 3, 4]] ob2_4 (by kernel_rfl) (Nat.le_of_ble_eq_true rfl) (by decide) (by decide) (by kernel_rfl) (by kernel_rfl) (by kernel_rfl) (by kernel_rfl) (by kernel_rfl) ?_
  clear ob2_0 ob2_1 ob2_2 ob2_3 ob2_4
  refine listT.imp (σ' := [(0, _), (1, _), (2, _), (3, _), (4, _), (5, _), (6, _), (7, _), (8, _)]) ?_ (imp_covers ⟨rfl, rfl, rfl, rfl, rfl, rfl, rfl, rfl, rfl, trivial⟩)
  refine list_cons rfl (op_call _ (impl_winsAt (bhR r (a, b)) e he (by rw [bhR_len]; exact hr6) hm) rfl rfl (by decide) (by decide) (by decide) rfl ?_)
  rintro _ rfl
  refine list_cons rfl (op_q (q_assign rfl (by decide)) ?_)
  refine list_nil ?_
  refine hK2 _ ?_; clear hK2 K2
  refine codeT.imp (σ' := [(0, _), (1, _), (2, _), (3, _), (4, _)]) ?_ (imp_covers ⟨rfl, rfl, rfl, rfl, rfl, trivial⟩)
  refine code_ret ?_
  refine ends_ret (cs := []) rfl rfl rfl rfl trivial ?_
  rfl
set_option maxRecDepth 8000 in
set_option maxHeartbeats 4000000 in
theorem indexP_c (l : List (Int × Int)) (f : FuncId) (z caps : List PV) (p : Int × Int → Prop) [DecidablePred p] (hl : l.length ≤ 1000) (hf : ∀ j, j < l.length → PCalls Tryd.prog f (.agg [.int .i64 (l.getD j (0, 0)).1, .int .i64 (l.getD j (0, 0)).2] :: .ptr z :: caps) (· = [.val (.bool (decide (p (l.getD j (0, 0)))))])) : PCalls Tryd.prog 82 [.sl l.length (fl l), .clo f (.ptr z :: caps)] (fun rs => ∃ i : Int, rs = [.val (.int .i64 i)] ∧ ((i = -1 ∧ ∀ j, j < l.length → ¬ p (l.getD j (0, 0))) ∨ (0 ≤ i ∧ i < l.length ∧ p (l.getD i.toNat (0, 0)) ∧ ∀ j, j < i.toNat → ¬ p (l.getD j (0, 0))))) := by
  refine pcalls_of_code (n := 19) az Tryd.func82 (by kernel_rfl) rfl rfl (Nat.le_of_ble_eq_true rfl) (by intro t u h; simp [Tryd.f82] at h) ?_
  have hfl := fl_len l
  have hff := fl_flat l
  refine code_seq (fun K1 hK1 => ?_)
  refine code_region ?_
  refine list_cons rfl (op_q (q_assign rfl (by decide)) ?_)
  refine list_nil ?_
  refine hK1 _ ?_; clear hK1 K1
  refine code_seq (fun K2 hK2 => ?_)
  refine code_seq (fun K3 hK3 => ?_)
  refine code_region ?_
  refine list_cons rfl (op_q (q_move rfl (by decide)) ?_)
  refine list_cons rfl (op_q (q_len_sl Tryd.underlying29 rfl rfl (by decide)) ?_)
  refine list_cons rfl (op_q (q_move rfl (by decide)) ?_)
  refine list_nil ?_
  refine hK3 _ ?_; clear hK3 K3
  refine code_block ?_
  refine code_loop (X := Int × Int) (fun x => [(0, .par 0 (.sl l.length (fl l))), (1, .par 1 (.clo f (.ptr z :: caps))), (4, .val (.int .i64 x.1)), (7, .val (.int .i64 (l.length))), (8, .val (.int .i64 x.2))]) (fun x => 0 ≤ x.2 ∧ x.2 ≤ l.length ∧ ∀ j, j < x.2.toNat → ¬ p (l.getD j (0, 0))) (fun x => (l.length - x.2).toNat) (_, _) (imp_covers ⟨rfl, rfl, rfl, rfl, rfl, trivial⟩) ?_ ?_
  · (try dsimp only)
    exact ⟨by omega, by omega, fun j hj => by simp at hj⟩
  · intro x hI
    obtain ⟨t4, t8⟩ := x
    replace hI : 0 ≤ t8 ∧ t8 ≤ l.length ∧ ∀ j, j < t8.toNat → ¬ p (l.getD j (0, 0)) := hI
    show codeT _ _ _ [(0, .par 0 (.sl l.length (fl l))), (1, .par 1 (.clo f (.ptr z :: caps))), (4, .val (.int .i64 t4)), (7, .val (.int .i64 (l.length))), (8, .val (.int .i64 t8))] _
    obtain ⟨i1, i2, i3⟩ := hI
    refine code_seq (fun K4 hK4 => ?_)
    refine code_region ?_
    refine list_cons rfl (op_q (q_lt rfl rfl (by decide)) ?_)
    refine list_nil ?_
    refine hK4 _ ?_; clear hK4 K4
    refine code_seq (fun K5 hK5 => ?_)
    refine code_cond_d rfl (fun h1 => ?_) (fun h1 => ?_)
    · skip
      (try simp only [Decidable.not_not] at h1)
      refine code_skip ?_
      refine hK5 _ ?_; clear hK5 K5
      refine code_seq (fun K6 hK6 => ?_)
      refine code_block ?_
      refine code_seq (fun K7 hK7 => ?_)
      refine code_region ?_
      refine list_cons rfl (op_q (q_move rfl (by decide)) ?_)
      refine list_cons rfl (op_q (q_assign rfl (by decide)) ?_)
      refine list_nil ?_
      refine hK7 _ ?_; clear hK7 K7
      refine code_seq (fun K8 hK8 => ?_)
      refine code_region ?_
      refine list_cons rfl (op_q (q_move rfl (by decide)) ?_)
      refine list_cons rfl (op_q (q_move rfl (by decide)) ?_)
      refine list_cons rfl (op_q (q_move rfl (by decide)) ?_)
      refine list_cons rfl (op_q (q_indexAddr_rd sl_29 rfl (.inl ⟨_, rfl, rfl⟩) rfl (by omega) (by omega) (by decide)) ?_)
      refine list_cons rfl (op_q (q_load_rd_aggE agg_40 rfl (.inl ⟨_, rfl⟩) (by first | decide | omega | exact Nat.le_refl _ | (simp; done) | (simp; omega)) (fl_at l t8.toNat (by omega)) rfl (by decide)) ?_)
      refine list_cons rfl (op_callV _ rfl rfl rfl rfl (pcV (hf t8.toNat (by omega))) (by decide) ?_)
      rintro _ rfl
      refine list_nil ?_
      refine hK8 _ ?_; clear hK8 K8
      refine codeT.imp (σ' := [(0, _), (1, _), (4, _), (5, _), (7, _), (8, _), (16, _)]) ?_ (imp_covers ⟨rfl, rfl, rfl, rfl, rfl, rfl, rfl, trivial⟩)
      refine code_cond_d rfl (fun h2 => ?_) (fun h2 => ?_)
      · skip
        (try simp only [Decidable.not_not] at h2)
        refine code_seq (fun K9 hK9 => ?_)
        refine code_region ?_
        refine list_cons rfl (op_q (q_move rfl (by decide)) ?_)
        refine list_cons rfl (op_q (q_assign rfl (by decide)) ?_)
        refine list_nil ?_
        refine hK9 _ ?_; clear hK9 K9
        refine code_ret ?_
        refine blk_r ?_
        refine then_r ?_; clear hK6 K6
        refine then_r ?_
        refine blk_r ?_
        refine then_r ?_; clear hK2 K2
        refine ends_ret (cs := []) rfl rfl rfl rfl trivial ?_
        first
          | exact ⟨_, rfl, .inr ⟨by omega, by omega, h2, i3⟩⟩
          | exact ⟨_, rfl, .inl ⟨rfl, fun j hj => i3 j (by omega)⟩⟩
      (try simp only [Decidable.not_not] at h2)
      refine code_skip ?_
      refine blk_n ?_
      refine hK6 _ ?_; clear hK6 K6
      refine code_region ?_
      refine list_cons rfl (op_q (by first | exact q_addI rfl rfl (by decide) (by omega) (by omega) | exact q_ib rfl rfl rfl (by decide)) ?_)
      refine list_cons rfl (op_q (q_move rfl (by decide)) ?_)
      refine list_nil ?_
      refine then_n ⟨(_, _), imp_covers ⟨rfl, rfl, rfl, rfl, rfl, trivial⟩, ?_, ?_⟩
      · (try dsimp only)
        refine ⟨by omega, by omega, fun j hj => ?_⟩
        by_cases e : j = t8.toNat
        · subst e; exact h2
        · exact i3 j (by omega)
      · (try dsimp only); omega
    (try simp only [Decidable.not_not] at h1)
    refine code_exit ?_
    refine then_x ?_; clear hK5 K5
    refine then_x ?_
    refine blk_hit ?_
    refine hK2 _ ?_; clear hK2 K2
    refine code_seq (fun K10 hK10 => ?_)
    refine code_region ?_
    refine list_cons rfl (op_q (q_assign rfl (by decide)) ?_)
    refine list_nil ?_
    refine hK10 _ ?_; clear hK10 K10
    refine code_ret ?_
    refine ends_ret (cs := []) rfl rfl rfl rfl trivial ?_
    first
      | exact ⟨_, rfl, .inr ⟨by omega, by omega, h1, i3⟩⟩
      | exact ⟨_, rfl, .inl ⟨rfl, fun j hj => i3 j (by omega)⟩⟩
set_option maxRecDepth 8000 in
set_option maxHeartbeats 4000000 in
theorem deleteP_c (l : List (Int × Int)) (f : FuncId) (z caps : List PV) (p : Int × Int → Prop) [DecidablePred p] (hl : l.length ≤ 1000) (hf : ∀ j, j < l.length → PCalls Tryd.prog f (.agg [.int .i64 (l.getD j (0, 0)).1, .int .i64 (l.getD j (0, 0)).2] :: .ptr z :: caps) (· = [.val (.bool (decide (p (l.getD j (0, 0)))))])) : MCalls Tryd.prog 67 false (some (.own 40 2 l.length (fl l))) [.clo f (.ptr z :: caps)] fun rs _ => rs = [.iow 40 2 (l.filter fun x => !decide (p x)).length (fl (l.filter fun x => !decide (p x)))] := by
  refine mcalls_of_code (n := 42) az Tryd.func67 (by kernel_rfl) rfl rfl (Nat.le_of_ble_eq_true rfl) (by intro t u h; simp [Tryd.f67] at h) ?_
  have hfl := fl_len l
  have hff := fl_flat l
  refine code_seq (fun K1 hK1 => ?_)
  refine code_region ?_
  refine list_cons rfl (op_q (q_assign rfl (by decide)) ?_)
  refine list_nil ?_
  refine hK1 _ ?_; clear hK1 K1
  refine code_seq (fun K2 hK2 => ?_)
  refine code_region ?_
  refine list_cons rfl (op_q (q_move rfl (by decide)) ?_)
  refine list_cons rfl (op_q (q_move rfl (by decide)) ?_)
  refine list_cons rfl (op_call _ (indexP_c l f z caps p hl hf) rfl rfl (by decide) (by decide) (by decide) rfl ?_)
  rintro _ ⟨ix, rfl, hix⟩
  refine list_cons rfl (op_q (q_assign rfl (by decide)) ?_)
  refine list_nil ?_
  refine hK2 _ ?_; clear hK2 K2
  refine codeT.imp (σ' := [(0, _), (1, _), (4, _), (5, _)]) ?_ (imp_covers ⟨rfl, rfl, rfl, rfl, trivial⟩)
  refine code_seq (fun K3 hK3 => ?_)
  refine code_seq (fun K4 hK4 => ?_)
  refine code_region ?_
  refine list_cons rfl (op_q (q_move rfl (by decide)) ?_)
  refine list_cons rfl (op_q (q_eq rfl rfl (by decide)) ?_)
  refine list_nil ?_
  refine hK4 _ ?_; clear hK4 K4
  refine code_cond_d rfl (fun h1 => ?_) (fun h1 => ?_)
  · skip
    (try simp only [Decidable.not_not] at h1)
    refine code_seq (fun K5 hK5 => ?_)
    refine code_region ?_
    refine list_cons rfl (op_q (q_move rfl (by decide)) ?_)
    refine list_cons rfl (op_q (q_assign rfl (by decide)) ?_)
    refine list_nil ?_
    refine hK5 _ ?_; clear hK5 K5
    refine codeT.imp ?_ (imp_iowO (x := 4) rfl)
    refine code_ret ?_
    refine then_r ?_; clear hK3 K3
    refine ends_ret (cs := _) rfl rfl rfl rfl rfl ?_
    first
      | (have hn : (l.filter fun x => !decide (p x)) = l := by
           rcases hix with ⟨_, hn⟩ | ⟨g1, _⟩
           · have := filtP_none l.length (Nat.le_refl _) hn; rwa [List.take_length] at this
           · omega
         rw [hn]; done)
      | (have hf2 : W.take i.toNat = (l.filter fun x => !decide (p x)) := by
           rw [w2, show j.toNat = l.length by omega, List.take_length]
         have hl2 : i.toNat = (l.filter fun x => !decide (p x)).length := by rw [← hf2, List.length_take]; omega
         have hwl := fl_len W
         have hc2 : ∀ zz, List.take (i.toNat * 2) (putAt (fl W) (i.toNat * 2) zz) = fl (l.filter fun x => !decide (p x)) := by
           intro zz
           rw [← hf2, putAt, List.append_assoc, List.take_append_of_le_length (by rw [List.length_take]; omega), List.take_take, Nat.min_self, fl_take]
         rw [hc2]
         rw [hl2]; done)
  (try simp only [Decidable.not_not] at h1)
  refine code_skip ?_
  refine hK3 _ ?_; clear hK3 K3
  refine code_seq (fun K6 hK6 => ?_)
  refine code_seq (fun K7 hK7 => ?_)
  refine code_region ?_
  refine list_cons rfl (op_q (q_move rfl (by decide)) ?_)
  refine list_cons rfl (op_q (by first | exact q_addI rfl rfl (by decide) (by omega) (by omega) | exact q_ib rfl rfl rfl (by decide)) ?_)
  refine list_cons rfl (op_q (q_assign rfl (by decide)) ?_)
  refine list_nil ?_
  refine hK7 _ ?_; clear hK7 K7
  refine code_block ?_
  refine code_loop (X := Nat × List PV × PV × Int × Int) (fun x => [(0, .own 2000 40 2 x.1 x.2.1), (1, .par 1 (.clo f (.ptr z :: caps))), (4, .val x.2.2.1), (5, .val (.int .i64 x.2.2.2.1)), (6, .val (.int .i64 x.2.2.2.2))]) (fun x => 0 ≤ x.2.2.2.1 ∧ x.2.2.2.1 < x.2.2.2.2 ∧ x.2.2.2.2 ≤ l.length ∧ ∃ W : List (Int × Int), x.1 = l.length ∧ x.2.1 = fl W ∧ W.length = l.length ∧ W.take x.2.2.2.1.toNat = ((l.take x.2.2.2.2.toNat).filter fun x => !decide (p x)) ∧ ∀ q : Nat, x.2.2.2.2.toNat ≤ q → W.getD q (0, 0) = l.getD q (0, 0)) (fun x => (l.length - x.2.2.2.2).toNat) (_, _, _, _, _) (imp_covers ⟨rfl, rfl, rfl, rfl, rfl, trivial⟩) ?_ ?_
  · (try dsimp only)
    rcases hix with ⟨h0, _⟩ | ⟨g1, g2, g3, g4⟩
    · exact absurd h0 (by assumption)
    · refine ⟨by omega, by omega, by omega, l, rfl, rfl, rfl, ?_, fun _ _ => rfl⟩
      rw [show (ix + 1).toNat = ix.toNat + 1 by omega, filtP_snoc (by omega), filtP_none ix.toNat (by omega) g4, if_pos g3, List.append_nil]
  · intro x hI
    obtain ⟨s_n, s_c, t4_p, i, j⟩ := x
    replace hI : 0 ≤ i ∧ i < j ∧ j ≤ l.length ∧ ∃ W : List (Int × Int), s_n = l.length ∧ s_c = fl W ∧ W.length = l.length ∧ W.take i.toNat = ((l.take j.toNat).filter fun x => !decide (p x)) ∧ ∀ q : Nat, j.toNat ≤ q → W.getD q (0, 0) = l.getD q (0, 0) := hI
    show codeT _ _ _ [(0, .own 2000 40 2 s_n s_c), (1, .par 1 (.clo f (.ptr z :: caps))), (4, .val t4_p), (5, .val (.int .i64 i)), (6, .val (.int .i64 j))] _
    obtain ⟨i1, i2, i3, W, rfl, rfl, w1, w2, w3⟩ := hI
    have hv : j.toNat < l.length → PCalls Tryd.prog f (.agg [.int .i64 (W.getD j.toNat (0, 0)).1, .int .i64 (W.getD j.toNat (0, 0)).2] :: .ptr z :: caps) (· = [.val (.bool (decide (p (W.getD j.toNat (0, 0)))))]) := fun h => by rw [w3 j.toNat (Nat.le_refl _)]; exact hf _ h
    have hwf := fl_flat W
    refine code_seq (fun K8 hK8 => ?_)
    refine code_seq (fun K9 hK9 => ?_)
    refine code_region ?_
    refine list_cons rfl (op_q (q_move rfl (by decide)) ?_)
    refine list_cons rfl (op_q (q_move rfl (by decide)) ?_)
    refine list_cons rfl (op_q (q_len_sl Tryd.underlying29 rfl rfl (by decide)) ?_)
    refine list_cons rfl (op_q (q_lt rfl rfl (by decide)) ?_)
    refine list_nil ?_
    refine hK9 _ ?_; clear hK9 K9
    refine code_cond_d rfl (fun h2 => ?_) (fun h2 => ?_)
    · skip
      (try simp only [Decidable.not_not] at h2)
      refine code_skip ?_
      refine hK8 _ ?_; clear hK8 K8
      refine code_seq (fun K10 hK10 => ?_)
      refine code_block ?_
      refine code_seq (fun K11 hK11 => ?_)
      refine code_region ?_
      refine list_cons rfl (op_q (q_move rfl (by decide)) ?_)
      refine list_cons rfl (op_q (q_move rfl (by decide)) ?_)
      refine list_cons rfl (op_q (q_indexAddr_own sl_29 rfl rfl (by omega) (by omega) (by decide)) ?_)
      refine list_cons rfl (op_q (q_cast (q_load_agg agg_40 0 (.inl rfl) rfl rfl (by first | decide | exact Nat.le_refl _ | (rw [fl_len]; omega)) (by first | rfl | exact flat_part (fl_flat _) _ _) (by decide)) (congrArg (fun z => SV.val (PV.agg z)) (fl_at W j.toNat (by omega)))) ?_)
      refine list_cons rfl (op_alloc zt_40 (by decide) (by decide) rfl ?_)
      refine list_cons rfl (op_store (agg_40).2 7 [7] (by intro t ht; simp only [List.mem_cons, List.not_mem_nil, or_false] at ht; subst ht; rfl) (.inr ⟨rfl, _, rfl⟩) rfl rfl rfl rfl (by first | rfl | exact flat_part (flat_map _ (fun _ => rfl) _) _ _ | exact flat_map _ (fun _ => rfl) _) (by first | rfl | rfl) (by first | decide | exact Nat.le_refl _ | (rw [fl_len]; omega)) (by decide) rfl ?_)
      refine list_nil ?_
      refine hK11 _ ?_; clear hK11 K11
      refine codeT.imp (σ' := [(0, _), (1, _), (4, _), (5, _), (6, _), (7, _)]) ?_ (imp_covers ⟨rfl, rfl, rfl, rfl, rfl, rfl, trivial⟩)
      refine code_seq (fun K12 hK12 => ?_)
      refine code_region ?_
      refine list_cons rfl (op_q (q_move rfl (by decide)) ?_)
      refine list_cons rfl (op_q (q_load_agg agg_40 7 (.inr ⟨rfl, _, rfl⟩) rfl rfl (by first | decide | exact Nat.le_refl _ | (rw [fl_len]; omega)) (by first | rfl | exact flat_part (fl_flat _) _ _) (by decide)) ?_)
      refine list_cons rfl (op_callV _ rfl rfl rfl rfl (pcV (hv (by omega))) (by decide) ?_)
      rintro _ rfl
      refine list_cons rfl (op_q (by first | exact q_notd rfl (by decide) | exact q_not rfl (by decide)) ?_)
      refine list_nil ?_
      refine hK12 _ ?_; clear hK12 K12
      refine codeT.imp (σ' := [(0, _), (1, _), (4, _), (5, _), (6, _), (7, _), (29, _)]) ?_ (imp_covers ⟨rfl, rfl, rfl, rfl, rfl, rfl, rfl, trivial⟩)
      refine code_cond_d rfl (fun h3 => ?_) (fun h3 => ?_)
      · skip
        (try simp only [Decidable.not_not] at h3)
        refine code_seq (fun K13 hK13 => ?_)
        refine code_region ?_
        refine list_cons rfl (op_q (q_move rfl (by decide)) ?_)
        refine list_cons rfl (op_q (q_move rfl (by decide)) ?_)
        refine list_cons rfl (op_q (q_load_agg agg_40 7 (.inr ⟨rfl, _, rfl⟩) rfl rfl (by first | decide | omega | exact Nat.le_refl _ | (simp; done) | (simp; omega)) (by first | rfl | exact flat_part (fl_flat _) _ _) (by decide)) ?_)
        refine list_cons rfl (op_q (q_indexAddr_own sl_29 rfl rfl (by omega) (by omega) (by decide)) ?_)
        refine list_cons rfl (op_store (agg_40).2 0 [0, 30] (by intro t ht; simp only [List.mem_cons, List.not_mem_nil, or_false] at ht; rcases ht with rfl | rfl <;> rfl) (.inl rfl) rfl rfl rfl rfl (by first | rfl | exact flat_part (flat_map _ (fun _ => rfl) _) _ _ | exact flat_map _ (fun _ => rfl) _) (by first | rfl | rfl) (by first | decide | exact Nat.le_refl _ | (rw [fl_len]; omega)) (by decide) rfl ?_)
        refine list_nil ?_
        refine hK13 _ ?_; clear hK13 K13
        refine codeT.imp (σ' := [(0, _), (1, _), (4, _), (5, _), (6, _), (7, _)]) ?_ (imp_covers ⟨rfl, rfl, rfl, rfl, rfl, rfl, trivial⟩)
        refine code_region ?_
        refine list_cons rfl (op_q (q_move rfl (by decide)) ?_)
        refine list_cons rfl (op_q (by first | exact q_addI rfl rfl (by decide) (by omega) (by omega) | exact q_ib rfl rfl rfl (by decide)) ?_)
        refine list_cons rfl (op_q (q_assign rfl (by decide)) ?_)
        refine list_nil ?_
        refine blk_n ?_
        refine hK10 _ ?_; clear hK10 K10
        refine code_region ?_
        refine list_cons rfl (op_q (q_move rfl (by decide)) ?_)
        refine list_cons rfl (op_q (by first | exact q_addI rfl rfl (by decide) (by omega) (by omega) | exact q_ib rfl rfl rfl (by decide)) ?_)
        refine list_cons rfl (op_q (q_assign rfl (by decide)) ?_)
        refine list_nil ?_
        refine then_n ⟨(_, _, _, _, _), imp_covers ⟨rfl, rfl, rfl, rfl, rfl, trivial⟩, ?_, ?_⟩
        · (try dsimp only)
          have hvj := w3 j.toNat (Nat.le_refl _)
          first
            | (have hp : ¬ p (W.getD j.toNat (0, 0)) := (by assumption)
               refine ⟨by omega, by omega, by omega, W.set i.toNat (W.getD j.toNat (0, 0)), rfl, fl_put W i.toNat _ _ (by omega), by rw [List.length_set]; exact w1, ?_, fun q hq => ?_⟩
               · rw [show (i + 1).toNat = i.toNat + 1 by omega, show (j + 1).toNat = j.toNat + 1 by omega, takeP_set (by omega), filtP_snoc (by omega), w2, hvj, if_neg (by rw [← hvj]; exact hp)]
               · rw [← w3 q (by omega), List.getD_eq_getElem?_getD, List.getElem?_set_ne (by omega), List.getD_eq_getElem?_getD])
            | (have hp : p (W.getD j.toNat (0, 0)) := (by assumption)
               refine ⟨by omega, by omega, by omega, W, rfl, rfl, w1, ?_, fun q hq => w3 q (by omega)⟩
               rw [show (j + 1).toNat = j.toNat + 1 by omega, filtP_snoc (by omega), if_pos (by rw [← hvj]; exact hp), List.append_nil]
               exact w2)
        · (try dsimp only); omega
      (try simp only [Decidable.not_not] at h3)
      refine code_skip ?_
      refine blk_n ?_
      refine hK10 _ ?_; clear hK10 K10
      refine code_region ?_
      refine list_cons rfl (op_q (q_move rfl (by decide)) ?_)
      refine list_cons rfl (op_q (by first | exact q_addI rfl rfl (by decide) (by omega) (by omega) | exact q_ib rfl rfl rfl (by decide)) ?_)
      refine list_cons rfl (op_q (q_assign rfl (by decide)) ?_)
      refine list_nil ?_
      refine then_n ⟨(_, _, _, _, _), imp_covers ⟨rfl, rfl, rfl, rfl, rfl, trivial⟩, ?_, ?_⟩
      · (try dsimp only)
        have hvj := w3 j.toNat (Nat.le_refl _)
        first
          | (have hp : ¬ p (W.getD j.toNat (0, 0)) := (by assumption)
             refine ⟨by omega, by omega, by omega, W.set i.toNat (W.getD j.toNat (0, 0)), rfl, fl_put W i.toNat _ _ (by omega), by rw [List.length_set]; exact w1, ?_, fun q hq => ?_⟩
             · rw [show (i + 1).toNat = i.toNat + 1 by omega, show (j + 1).toNat = j.toNat + 1 by omega, takeP_set (by omega), filtP_snoc (by omega), w2, hvj, if_neg (by rw [← hvj]; exact hp)]
             · rw [← w3 q (by omega), List.getD_eq_getElem?_getD, List.getElem?_set_ne (by omega), List.getD_eq_getElem?_getD])
          | (have hp : p (W.getD j.toNat (0, 0)) := (by assumption)
             refine ⟨by omega, by omega, by omega, W, rfl, rfl, w1, ?_, fun q hq => w3 q (by omega)⟩
             rw [show (j + 1).toNat = j.toNat + 1 by omega, filtP_snoc (by omega), if_pos (by rw [← hvj]; exact hp), List.append_nil]
             exact w2)
      · (try dsimp only); omega
    (try simp only [Decidable.not_not] at h2)
    refine code_exit ?_
    refine then_x ?_; clear hK8 K8
    refine then_x ?_
    refine blk_hit ?_
    refine hK6 _ ?_; clear hK6 K6
    refine code_seq (fun K14 hK14 => ?_)
    refine code_region ?_
    refine list_cons rfl (op_q (q_move rfl (by decide)) ?_)
    refine list_cons rfl (op_q (q_move rfl (by decide)) ?_)
    refine list_cons rfl (op_q (q_sliceOwn sl_29 rfl (by omega) ⟨_, rfl⟩ rfl (by omega) (by omega) (by omega) (by decide)) ?_)
    refine list_cons rfl (op_clearG sl_29 [0, 17, 36] (by intro t ht; simp only [List.mem_cons, List.not_mem_nil, or_false] at ht; rcases ht with rfl | rfl | rfl <;> rfl) 0 rfl rfl (by omega) rfl ?_)
    refine list_nil ?_
    refine hK14 _ ?_; clear hK14 K14
    refine codeT.imp (σ' := [(0, _), (1, _), (4, _), (5, _), (6, _)]) ?_ (imp_covers ⟨rfl, rfl, rfl, rfl, rfl, trivial⟩)
    refine code_seq (fun K15 hK15 => ?_)
    refine code_region ?_
    refine list_cons rfl (op_q (q_move rfl (by decide)) ?_)
    refine list_cons rfl (op_q (q_move rfl (by decide)) ?_)
    refine list_cons rfl (op_q (q_sliceOwnP sl_29 rfl (by omega) ⟨_, rfl⟩ (by omega) (by omega) (by decide)) ?_)
    refine list_cons rfl (op_q (q_assign rfl (by decide)) ?_)
    refine list_nil ?_
    refine hK15 _ ?_; clear hK15 K15
    refine codeT.imp ?_ (imp_iowO (x := 4) rfl)
    refine code_ret ?_
    refine ends_ret (cs := _) rfl rfl rfl rfl rfl ?_
    first
      | (have hn : (l.filter fun x => !decide (p x)) = l := by
           rcases hix with ⟨_, hn⟩ | ⟨g1, _⟩
           · have := filtP_none l.length (Nat.le_refl _) hn; rwa [List.take_length] at this
           · omega
         rw [hn]; done)
      | (have hf2 : W.take i.toNat = (l.filter fun x => !decide (p x)) := by
           rw [w2, show j.toNat = l.length by omega, List.take_length]
         have hl2 : i.toNat = (l.filter fun x => !decide (p x)).length := by rw [← hf2, List.length_take]; omega
         have hwl := fl_len W
         have hc2 : ∀ zz, List.take (i.toNat * 2) (putAt (fl W) (i.toNat * 2) zz) = fl (l.filter fun x => !decide (p x)) := by
           intro zz
           rw [← hf2, putAt, List.append_assoc, List.take_append_of_le_length (by rw [List.length_take]; omega), List.take_take, Nat.min_self, fl_take]
         rw [hc2]
         rw [hl2]; done)
theorem win_del {r l : List Int} (hW : WroP r l) : ((mvR (gcE l) r false r.length).filter fun x => !decide (xrK (gcE l) (bhR r x) (bhR r x).length ≠ 0)) = mvR (gcE l) r true r.length := by
  rw [← win_filter hW]
  congr 1
  funext x
  unfold kpM
  by_cases h : xrK (gcE l) (bhR r x) (bhR r x).length = 0 <;> simp [h]
theorem win_rule {r l : List Int} (hW : WroP r l) (j : Nat) (hj : j < (mvR (gcE l) r false r.length).length) : PCalls Tryd.prog 68 (.agg [.int .i64 ((mvR (gcE l) r false r.length).getD j (0, 0)).1, .int .i64 ((mvR (gcE l) r false r.length).getD j (0, 0)).2] :: .ptr [.sl r.length (r.map (.int .i64))] :: [.ptr [.mp (flatE (tE (gcE l) (VN (gcE l)) 128))]]) (· = [.val (.bool (decide (xrK (gcE l) (bhR r ((mvR (gcE l) r false r.length).getD j (0, 0))) (bhR r ((mvR (gcE l) r false r.length).getD j (0, 0))).length ≠ 0)))]) := by
  have e : (mvR (gcE l) r false r.length).getD j (0, 0) = (mvR (gcE l) r false r.length)[j] := by simp [hj]
  obtain ⟨a, b, h1, h2, h3, h4⟩ := mvR_mem.1 (List.getElem_mem hj)
  rw [e, h4]
  exact impl_winRule r (gcE l) a b (gcE_cells l) hW.2.1.1 (wro_on hW) (by omega) (by omega) (bh_cell (gcE_cells l) (wro_on hW) h1 h2 h3.1)
set_option maxRecDepth 8000 in
set_option maxHeartbeats 4000000 in
theorem impl_winningAt (r l : List Int) (hW : WroP r l) : MCalls Tryd.prog 44 true none [.sl r.length (r.map (.int .i64)), .mp (flatE (tE (gcE l) (VN (gcE l)) 128))] (fun rs _ => rs = [.own 0 40 2 (mvR (gcE l) r true r.length).length (fl (mvR (gcE l) r true r.length))]) := by
  refine mcalls_of_code (n := 10) az Tryd.func44 (by kernel_rfl) rfl rfl (Nat.le_of_ble_eq_true rfl) (by intro t u h; simp [Tryd.f44] at h) ?_
  have hml := mvR_len (gcE l) r false r.length
  have hr6 := hW.2.1.1
  refine code_seq (fun K1 hK1 => ?_)
  refine code_region ?_
  refine list_cons rfl (op_box rfl (.inr rfl) (by decide) (by decide) rfl ?_)
  refine list_cons rfl (op_box rfl (.inr rfl) (by decide) (by decide) rfl ?_)
  refine list_cons rfl (op_q (q_assign rfl (by decide)) ?_)
  refine list_nil ?_
  refine hK1 _ ?_; clear hK1 K1
  refine code_seq (fun K2 hK2 => ?_)
  refine code_region ?_
  refine list_cons rfl (op_q (q_load_boxD one_22 rfl (by decide)) ?_)
  refine list_cons rfl (op_q (q_load_boxD one_41 rfl (by decide)) ?_)
  refine list_cons rfl (op_call _ (impl_movesAt r (gcE l) (gcE_cells l) hr6 (wro_on hW)) rfl rfl (by decide) (by decide) (by decide) rfl ?_)
  rintro _ rfl
  refine list_cons rfl (op_makeFuncC (xs := [.tmp 2, .tmp 3]) rfl rfl rfl (by decide) (by decide) rfl ?_)
  refine list_cons rfl (op_callM (deleteP_c (mvR (gcE l) r false r.length) 68 [.sl r.length (r.map (.int .i64))] [.ptr [.mp (flatE (tE (gcE l) (VN (gcE l)) 128))]] (fun x => xrK (gcE l) (bhR r x) (bhR r x).length ≠ 0) (by omega) (win_rule hW)) (.tmp 7) 7 [7] [.tmp 8] _ rfl rfl (by intro y hy; cases hy; exact ⟨rfl, (by intro t ht; simp only [List.mem_cons, List.not_mem_nil, or_false] at ht; subst ht; rfl), (by intro s hs; simp only [List.mem_cons, List.not_mem_nil, or_false] at hs; subst hs; first | (simp [SV.labels]; done) | (simp [SV.labels, packS, SV.back]; done) | exact List.not_mem_nil)⟩) (by decide) (by decide) (by decide) rfl (fun _ => rfl) ?_)
  rintro _ _ rfl; rw [win_del hW]
  refine list_cons rfl (op_q (q_assign rfl (by decide)) ?_)
  refine list_nil ?_
  refine hK2 _ ?_; clear hK2 K2
  refine codeT.imp (σ' := [(0, _), (1, _), (2, _), (3, _), (4, _)]) ?_ (imp_covers ⟨rfl, rfl, rfl, rfl, rfl, trivial⟩)
  refine code_ret ?_
  refine ends_ret (cs := []) rfl rfl rfl rfl trivial ?_
  first | rfl
end Go.Proofs.YtfagllolcalfiabDoor
