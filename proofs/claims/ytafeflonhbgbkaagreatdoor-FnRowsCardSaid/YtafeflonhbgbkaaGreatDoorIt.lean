/- Contracts of functions, walked over the pure layer; each says for which arguments. -/
import Derived.Test.YtafeflonhbgbkaaGreatDoorItTy
import Derived.Shelf.Strings.BuilderRune
import Derived.Lib.AppendIntMem
import Derived.Test.YtafeflonhbgbkaaGreatDoorTf
import Derived.Test.YtafeflonhbgbkaaGreatDoorSp
import Derived.Test.YtafeflonhbgbkaaGreatDoorShelf
import Derived.Test.YtafeflonhbgbkaaGreatDoorBl
namespace Go.Proofs.YtafeflonhbgbkaaGreatDoor
open Go.RowKit ItTy
set_option linter.unusedVariables false
set_option linter.unusedSimpArgs false

theorem itoa_c (n : Int) (h0 : -9223372036854775808 ≤ n) (h1 : n ≤ 9223372036854775807) : PCalls Tryz.prog 60 [.int .i64 n] (· = [.val (.str (Lib.itoa n))]) := by
  refine pcalls_flatG (enters_of Tryz.func60 (by kernel_rfl) rfl) fun w vs hg ha => ?_
  obtain ⟨v0, r0, rfl, ha0, ha⟩ := repArgs_cons ha
  obtain rfl := repArgs_nil ha
  simp only [Rep] at ha0
  subst ha0
  have htab : Lib.TabIs Tryz.prog w "internal/strconv.uint64pow10" .u64 Lib.pow10Tab := var_of hg (g := 2) (by kernel_rfl) rfl
  refine (Tryz.strconv_Itoa n h0 h1 w htab).mono fun e w' ⟨he, k, os, hw⟩ => ⟨[.string ⟨(Lib.itoa n).toArray⟩], [.str (Lib.itoa n)], he, hw ▸ Lib.below_grow _ w (Nat.le_refl _) k os, ?_, rfl⟩
  exact ⟨_, _, rfl, by simp [Rep], rfl⟩

def fmtN (n : Int) : List UInt8 := if -999999 ≤ n ∧ n ≤ 999999 then Lib.itoa n else []

set_option maxRecDepth 4000 in
theorem impl_FormatInt (n : Int) : PCalls Tryz.prog 32 [.int .i64 n] (· = [.val (.str (fmtN n)), .val (.bool (decide (-999999 ≤ n ∧ n ≤ 999999)))]) := by
  refine pcalls_of_code (n := 12) az Tryz.func32 (by kernel_rfl) rfl rfl (Nat.le_of_ble_eq_true rfl) (by intro t u h; simp [Tryz.f32] at h) ?_
  refine code_seq (fun K1 hK1 => ?_)
  refine code_region ?_
  refine list_cons rfl (op_q (q_assign rfl (by decide)) ?_)
  refine list_cons rfl (op_q (q_assign rfl (by decide)) ?_)
  refine list_nil ?_
  refine hK1 _ ?_; clear hK1 K1
  refine code_seq (fun K2 hK2 => ?_)
  refine code_seq (fun K3 hK3 => ?_)
  refine code_region ?_
  refine list_cons rfl (op_q (q_move rfl (by decide)) ?_)
  refine list_cons rfl (op_q (q_lt rfl rfl (by decide)) ?_)
  refine list_cons rfl (op_q (q_move rfl (by decide)) ?_)
  refine list_guard_d rfl rfl rfl rfl (by decide) rfl (by decide) (fun h1 => ?_) (fun h1 => ?_)
  · simp only [Bool.false_eq_true, if_true, if_false, Decidable.not_not] at h1
    refine id (op_q (q_move rfl (by decide)) ?_)
    refine list_guard_y rfl rfl rfl rfl (by decide) rfl ?_
    refine id (op_q (q_gt rfl rfl (by decide)) ?_)
    refine list_cons rfl (op_q (q_pick rfl rfl (by decide)) ?_)
    refine list_nil ?_
    refine hK3 _ ?_; clear hK3 K3
    refine code_cond_d rfl (fun h2 => ?_) (fun h2 => ?_)
    · skip
      (try simp only [Decidable.not_not] at h2)
      refine code_seq (fun K4 hK4 => ?_)
      refine code_region ?_
      refine list_cons rfl (op_q (q_assign rfl (by decide)) ?_)
      refine list_cons rfl (op_q (q_assign rfl (by decide)) ?_)
      refine list_nil ?_
      refine hK4 _ ?_; clear hK4 K4
      refine code_ret ?_
      refine then_r ?_; clear hK2 K2
      refine ends_ret (cs := []) rfl rfl rfl rfl trivial ?_
      first
        | (have e : ¬ (-999999 ≤ n ∧ n ≤ 999999) := by omega
           simp only [fmtN, if_neg e, decide_eq_false e])
        | (have e : (-999999 ≤ n ∧ n ≤ 999999) := by omega
           simp only [fmtN, if_pos e, decide_eq_true e])
    (try simp only [Decidable.not_not] at h2)
    refine code_skip ?_
    refine hK2 _ ?_; clear hK2 K2
    refine code_seq (fun K5 hK5 => ?_)
    refine code_region ?_
    refine list_cons rfl (op_q (q_move rfl (by decide)) ?_)
    refine list_cons rfl (op_call _ (itoa_c _ (by omega) (by omega)) rfl rfl (by decide) (by decide) (by decide) rfl ?_)
    rintro _ rfl
    refine list_cons rfl (op_q (q_assign rfl (by decide)) ?_)
    refine list_cons rfl (op_q (q_assign rfl (by decide)) ?_)
    refine list_nil ?_
    refine hK5 _ ?_; clear hK5 K5
    refine codeT.imp (σ' := [(0, _), (2, _), (3, _)]) ?_ (imp_covers ⟨rfl, rfl, rfl, trivial⟩)
    refine code_ret ?_
    refine ends_ret (cs := []) rfl rfl rfl rfl trivial ?_
    first
      | (have e : ¬ (-999999 ≤ n ∧ n ≤ 999999) := by omega
         simp only [fmtN, if_neg e, decide_eq_false e])
      | (have e : (-999999 ≤ n ∧ n ≤ 999999) := by omega
         simp only [fmtN, if_pos e, decide_eq_true e])
  simp only [Bool.false_eq_true, if_true, if_false, Decidable.not_not] at h1
  refine list_guard_n rfl rfl rfl rfl (by decide) rfl ?_
  refine list_cons rfl (op_q (q_pick rfl rfl (by decide)) ?_)
  refine list_nil ?_
  refine hK3 _ ?_; clear hK3 K3
  refine code_cond_t rfl ?_
  refine code_seq (fun K6 hK6 => ?_)
  refine code_region ?_
  refine list_cons rfl (op_q (q_assign rfl (by decide)) ?_)
  refine list_cons rfl (op_q (q_assign rfl (by decide)) ?_)
  refine list_nil ?_
  refine hK6 _ ?_; clear hK6 K6
  refine code_ret ?_
  refine then_r ?_; clear hK2 K2
  refine ends_ret (cs := []) rfl rfl rfl rfl trivial ?_
  first
    | (have e : ¬ (-999999 ≤ n ∧ n ≤ 999999) := by omega
       simp only [fmtN, if_neg e, decide_eq_false e])
    | (have e : (-999999 ≤ n ∧ n ≤ 999999) := by omega
       simp only [fmtN, if_pos e, decide_eq_true e])

theorem below_drewN (w : World) : ∀ q, Below w.heap.size w (w.drewN q)
  | 0 => by first | exact Below.refl _ _ | (unfold World.drewN; exact Below.refl _ _)
  | q + 1 => by
    have := below_drewN w q
    first
      | exact ⟨this.os, this.tape, this.output, this.size, this.block⟩
      | (unfold World.drewN; exact ⟨this.os, this.tape, this.output, this.size, this.block⟩)
theorem equalI_c (a b : List Int) (ha : a.length ≤ 9223372036854775807) (hb : b.length ≤ 9223372036854775807) : PCalls Tryz.prog 70 [.sl a.length (a.map (.int .i64)), .sl b.length (b.map (.int .i64))] (· = [.val (.bool (decide (a = b)))]) := by
  refine pcalls_flat (enters_of Tryz.func70 (by kernel_rfl) rfl) fun w vs hv => ?_
  obtain ⟨v0, r0, rfl, h0, hv⟩ := repArgs_cons hv
  obtain ⟨v1, r1, rfl, h1, hv⟩ := repArgs_cons hv
  obtain rfl := repArgs_nil hv
  have sl : ∀ (l : List Int) (F : Nat → Prop) (v : Value), Rep w F (.sl l.length (l.map (.int .i64))) v → ∃ ad c, v = .slice ad l.length c ∧ (0 < l.length → ∃ bk o, ad = some ⟨bk, o, none⟩ ∧ ∀ j, j < l.length → w.cell? ⟨bk, o + j, none⟩ = some (.int .i64 (l.getD j 0))) := by
    intro l F v h
    simp only [Rep] at h
    rcases h with ⟨rfl, hn, _⟩ | ⟨bk, o, c, us, rfl, _, _, hc, hr⟩
    · exact ⟨none, 0, by rw [hn], fun h => by omega⟩
    · refine ⟨_, c, rfl, fun _ => ⟨bk, o, rfl, fun j hj => hc j _ ?_⟩⟩
      rw [ints_rep hr]; simp [hj]
  obtain ⟨ad0, c0, rfl, k0⟩ := sl a _ _ h0
  obtain ⟨ad1, c1, rfl, k1⟩ := sl b _ _ h1
  have fin : ∀ (e : Ending) (w' : World) (r : Bool), r = decide (a = b) → e = .returned (.bool r) → Below w.heap.size w w' → ∃ us rs, e = .returned (packV us) ∧ Below w.heap.size w w' ∧ RepVs w' rs us ∧ rs.map SV.val = [.val (.bool (decide (a = b)))] := fun e w' r hr he hw => ⟨[.bool r], [.bool r], he, hw, ⟨_, _, rfl, by simp [Rep], rfl⟩, by rw [hr]; rfl⟩
  by_cases hl : a.length = b.length
  · by_cases h : 0 < a.length
    · obtain ⟨b0, o0, rfl, q0⟩ := k0 h
      obtain ⟨b1, o1, rfl, q1⟩ := k1 (by omega)
      refine (Tryz.slices_Equal_int b0 o0 a.length c0 b1 o1 b.length c1 a b w (Nat.le_refl _) (Nat.le_refl _) ha hb q0 q1).mono fun e w' ⟨he, q, hw⟩ => fin e w' _ ?_ he (hw ▸ below_drewN w q)
      rw [List.take_length, List.take_length, Bool.eq_iff_iff]; simp
    · have ea : a = [] := List.eq_nil_of_length_eq_zero (by omega)
      have eb : b = [] := List.eq_nil_of_length_eq_zero (by omega)
      subst ea; subst eb
      exact (Tryz.slices_Equal_int_empty ad0 ad1 c0 0 c1 w (by decide)).mono fun e w' ⟨he, hw⟩ => fin e w' _ rfl he (hw ▸ Below.refl _ _)
  · exact (Tryz.slices_Equal_int_lens ad0 ad1 a.length c0 b.length c1 w hl).mono fun e w' ⟨he, hw⟩ => fin e w' _ (by rw [decide_eq_false (fun k => hl (by rw [k]))]) he (hw ▸ Below.refl _ _)

end Go.Proofs.YtafeflonhbgbkaaGreatDoor
