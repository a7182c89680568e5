/- Contracts of functions, walked over the pure layer; each says for which arguments. -/
import Derived.Test.Ytbddhdbieelpjaaa2Ty
import Derived.Test.YtbddhdbieelpjaaTf
import Derived.Test.Ytbddhdbieelpjaaa1
namespace Go.Proofs.Ytbddhdbieelpjaa
open Go.RowKit a2Ty
set_option linter.unusedVariables false
set_option linter.unusedSimpArgs false

set_option maxRecDepth 100000 in
theorem onesCount_c (c : Int) (h0 : 0 ≤ c) (h1 : c ≤ 127) : PCalls Try.prog 22 [.int .u64 c] (· = [.val (.int .i64 (((cnt7 c.toNat : Nat) : Int)))]) := by
  have h := below_int (p := fun i => oneInt (crun Tf.tf noExt 200 6 22 [.int .u64 (Int.ofNat i)]) (((cnt7 i : Nat) : Int))) (k := 128) (by kernel_rfl) h0 (by omega)
  have e : Int.ofNat c.toNat = c := Int.toNat_of_nonneg h0
  rw [e] at h
  exact pcalls_run Tf.tf (oneInt_ok h)

set_option maxRecDepth 4000 in
theorem impl_IsCell (c : Int) : PCalls Try.prog 19 [.int .i64 c] (· = [.val (.bool (decide (0 ≤ c ∧ c ≤ 127)))]) := by
  refine pcalls_of_code (n := 9) az Try.func19 (by kernel_rfl) rfl rfl (Nat.le_of_ble_eq_true rfl) (by intro t u h; simp [Try.f19] at h) ?_
  refine code_seq (fun K1 hK1 => ?_)
  refine code_region ?_
  refine list_cons rfl (op_q (q_assign rfl (by decide)) ?_)
  refine list_nil ?_
  refine hK1 _ ?_; clear hK1 K1
  refine code_seq (fun K2 hK2 => ?_)
  refine code_region ?_
  refine list_cons rfl (op_q (q_move rfl (by decide)) ?_)
  refine list_cons rfl (op_q (q_ge rfl rfl (by decide)) ?_)
  refine list_cons rfl (op_q (q_move rfl (by decide)) ?_)
  refine list_guard_d rfl rfl rfl rfl (by decide) rfl (by decide) (fun h1 => ?_) (fun h1 => ?_)
  · simp only [Bool.false_eq_true, if_true, if_false, Decidable.not_not] at h1
    refine id (op_q (q_move rfl (by decide)) ?_)
    refine list_guard_y rfl rfl rfl rfl (by decide) rfl ?_
    refine id (op_q (q_lt rfl rfl (by decide)) ?_)
    refine list_cons rfl (op_q (q_pick rfl rfl (by decide)) ?_)
    refine list_cons rfl (op_q (q_assign rfl (by decide)) ?_)
    refine list_nil ?_
    refine hK2 _ ?_; clear hK2 K2
    refine code_ret ?_
    refine ends_ret (cs := []) rfl rfl rfl rfl trivial ?_
    first | (congr 3; exact decide_eq_decide.mpr ⟨fun k => by omega, fun k => by omega⟩) | (rw [decide_eq_false (by omega)])
  simp only [Bool.false_eq_true, if_true, if_false, Decidable.not_not] at h1
  refine list_guard_n rfl rfl rfl rfl (by decide) rfl ?_
  refine list_cons rfl (op_q (q_pick rfl rfl (by decide)) ?_)
  refine list_cons rfl (op_q (q_assign rfl (by decide)) ?_)
  refine list_nil ?_
  refine hK2 _ ?_; clear hK2 K2
  refine code_ret ?_
  refine ends_ret (cs := []) rfl rfl rfl rfl trivial ?_
  first | (congr 3; exact decide_eq_decide.mpr ⟨fun k => by omega, fun k => by omega⟩) | (rw [decide_eq_false (by omega)])

set_option maxRecDepth 4000 in
theorem impl_CountBars (c : Int) : PCalls Try.prog 20 [.int .i64 c] (· = [.val (.int .i64 (if 0 ≤ c ∧ c ≤ 127 then ((cnt7 c.toNat : Nat) : Int) else 0)), .val (.bool (decide (0 ≤ c ∧ c ≤ 127)))]) := by
  refine pcalls_of_code (n := 10) az Try.func20 (by kernel_rfl) rfl rfl (Nat.le_of_ble_eq_true rfl) (by intro t u h; simp [Try.f20] at h) ?_
  refine code_seq (fun K1 hK1 => ?_)
  refine code_region ?_
  refine list_cons rfl (op_q (q_assign rfl (by decide)) ?_)
  refine list_cons rfl (op_q (q_assign rfl (by decide)) ?_)
  refine list_nil ?_
  refine hK1 _ ?_; clear hK1 K1
  refine code_seq (fun K2 hK2 => ?_)
  refine code_seq (fun K3 hK3 => ?_)
  refine code_region ?_
  refine list_cons rfl (op_q (q_move rfl (by decide)) ?_)
  refine list_cons rfl (op_call _ (impl_IsCell _) rfl rfl (by decide) (by decide) (by decide) rfl ?_)
  rintro _ rfl
  refine list_cons rfl (op_q (by first | exact q_notd rfl (by decide) | exact q_not rfl (by decide)) ?_)
  refine list_nil ?_
  refine hK3 _ ?_; clear hK3 K3
  refine codeT.imp (σ' := [(0, _), (2, _), (3, _), (6, _)]) ?_ (imp_covers ⟨rfl, rfl, rfl, rfl, trivial⟩)
  refine code_cond_d rfl (fun h1 => ?_) (fun h1 => ?_)
  · skip
    (try simp only [Decidable.not_not] at h1)
    refine code_seq (fun K4 hK4 => ?_)
    refine code_region ?_
    refine list_cons rfl (op_q (q_assign rfl (by decide)) ?_)
    refine list_cons rfl (op_q (q_assign rfl (by decide)) ?_)
    refine list_nil ?_
    refine hK4 _ ?_; clear hK4 K4
    refine code_ret ?_
    refine then_r ?_; clear hK2 K2
    refine ends_ret (cs := []) rfl rfl rfl rfl trivial ?_
    simp only [if_neg h1, decide_eq_false h1]
  (try simp only [Decidable.not_not] at h1)
  refine code_skip ?_
  refine hK2 _ ?_; clear hK2 K2
  refine code_seq (fun K5 hK5 => ?_)
  refine code_region ?_
  refine list_cons rfl (op_q (q_move rfl (by decide)) ?_)
  refine list_cons rfl (op_q (by first | exact q_convU (by rw [Try.underlying3]; rfl) Try.underlying40 rfl (by decide) (by omega) (by omega) | exact q_conv (by rw [Try.underlying3]; rfl) Try.underlying40 rfl (by decide)) ?_)
  refine list_cons rfl (op_call _ (onesCount_c _ (by omega) (by omega)) rfl rfl (by decide) (by decide) (by decide) rfl ?_)
  rintro _ rfl
  refine list_cons rfl (op_q (q_assign rfl (by decide)) ?_)
  refine list_cons rfl (op_q (q_assign rfl (by decide)) ?_)
  refine list_nil ?_
  refine hK5 _ ?_; clear hK5 K5
  refine codeT.imp (σ' := [(0, _), (2, _), (3, _)]) ?_ (imp_covers ⟨rfl, rfl, rfl, trivial⟩)
  refine code_ret ?_
  refine ends_ret (cs := []) rfl rfl rfl rfl trivial ?_
  simp only [if_pos h1, decide_eq_true h1]

set_option maxRecDepth 4000 in
theorem impl_FarCells (a b : Int) : PCalls Try.prog 12 [.int .i64 a, .int .i64 b] (· = [.val (.int .i64 (if (0 ≤ a ∧ a ≤ 127) ∧ (0 ≤ b ∧ b ≤ 127) then ((cnt7 (a.toNat ^^^ b.toNat) : Nat) : Int) else 0)), .val (.bool (decide ((0 ≤ a ∧ a ≤ 127) ∧ (0 ≤ b ∧ b ≤ 127))))]) := by
  refine pcalls_of_code (n := 20) az Try.func12 (by kernel_rfl) rfl rfl (Nat.le_of_ble_eq_true rfl) (by intro t u h; simp [Try.f12] at h) ?_
  refine code_seq (fun K1 hK1 => ?_)
  refine code_region ?_
  refine list_cons rfl (op_q (q_assign rfl (by decide)) ?_)
  refine list_cons rfl (op_q (q_assign rfl (by decide)) ?_)
  refine list_nil ?_
  refine hK1 _ ?_; clear hK1 K1
  refine code_seq (fun K2 hK2 => ?_)
  refine code_seq (fun K3 hK3 => ?_)
  refine code_region ?_
  refine list_cons rfl (op_q (q_move rfl (by decide)) ?_)
  refine list_cons rfl (op_call _ (impl_IsCell _) rfl rfl (by decide) (by decide) (by decide) rfl ?_)
  rintro _ rfl
  refine list_cons rfl (op_q (by first | exact q_notd rfl (by decide) | exact q_not rfl (by decide)) ?_)
  refine list_cons rfl (op_q (q_move rfl (by decide)) ?_)
  refine list_guard_d rfl rfl rfl rfl (by decide) rfl (by decide) (fun h1 => ?_) (fun h1 => ?_)
  · simp only [Bool.false_eq_true, if_true, if_false, Decidable.not_not] at h1
    refine id (op_q (q_move rfl (by decide)) ?_)
    refine list_guard_y rfl rfl rfl rfl (by decide) rfl ?_
    refine id (op_call _ (impl_IsCell _) rfl rfl (by decide) (by decide) (by decide) rfl ?_)
    rintro _ rfl
    refine list_guard_y rfl rfl rfl rfl (by decide) rfl ?_
    refine id (op_q (by first | exact q_notd rfl (by decide) | exact q_not rfl (by decide)) ?_)
    refine list_cons rfl (op_q (q_pick rfl rfl (by decide)) ?_)
    refine list_nil ?_
    refine hK3 _ ?_; clear hK3 K3
    refine codeT.imp (σ' := [(0, _), (1, _), (4, _), (5, _), (13, _)]) ?_ (imp_covers ⟨rfl, rfl, rfl, rfl, rfl, trivial⟩)
    refine code_cond_d rfl (fun h2 => ?_) (fun h2 => ?_)
    · skip
      (try simp only [Decidable.not_not] at h2)
      refine code_seq (fun K4 hK4 => ?_)
      refine code_region ?_
      refine list_cons rfl (op_q (q_assign rfl (by decide)) ?_)
      refine list_cons rfl (op_q (q_assign rfl (by decide)) ?_)
      refine list_nil ?_
      refine hK4 _ ?_; clear hK4 K4
      refine code_ret ?_
      refine then_r ?_; clear hK2 K2
      refine ends_ret (cs := []) rfl rfl rfl rfl trivial ?_
      first
        | (have e : ¬ ((0 ≤ a ∧ a ≤ 127) ∧ (0 ≤ b ∧ b ≤ 127)) := by omega
           simp only [if_neg e, decide_eq_false e])
        | (have e : ((0 ≤ a ∧ a ≤ 127) ∧ (0 ≤ b ∧ b ≤ 127)) := by omega
           have e2 := xor7 e.1 e.2
           have e3 : 0 ≤ ((a.toNat ^^^ b.toNat : Nat) : Int) ∧ ((a.toNat ^^^ b.toNat : Nat) : Int) ≤ 127 := ⟨by omega, e2⟩
           simp only [if_pos e, decide_eq_true e, if_pos e3, decide_eq_true e3, Int.toNat_natCast])
    (try simp only [Decidable.not_not] at h2)
    refine code_skip ?_
    refine hK2 _ ?_; clear hK2 K2
    refine code_seq (fun K5 hK5 => ?_)
    refine code_region ?_
    refine list_cons rfl (op_q (q_move rfl (by decide)) ?_)
    refine list_cons rfl (op_q (q_move rfl (by decide)) ?_)
    refine list_cons rfl (op_q (by first | exact q_xorI rfl rfl (by decide) (by omega) (by omega) (by omega) (by omega) | exact q_ib rfl rfl rfl (by decide)) ?_)
    refine list_cons rfl (op_call _ (impl_CountBars _) rfl rfl (by decide) (by decide) (by decide) rfl ?_)
    rintro _ rfl
    refine list_cons rfl (op_q (q_extract rfl rfl (by decide)) ?_)
    refine list_cons rfl (op_q (q_extract rfl rfl (by decide)) ?_)
    refine list_cons rfl (op_q (q_assign rfl (by decide)) ?_)
    refine list_cons rfl (op_q (q_assign rfl (by decide)) ?_)
    refine list_nil ?_
    refine hK5 _ ?_; clear hK5 K5
    refine codeT.imp (σ' := [(0, _), (1, _), (4, _), (5, _)]) ?_ (imp_covers ⟨rfl, rfl, rfl, rfl, trivial⟩)
    refine code_ret ?_
    refine ends_ret (cs := []) rfl rfl rfl rfl trivial ?_
    first
      | (have e : ¬ ((0 ≤ a ∧ a ≤ 127) ∧ (0 ≤ b ∧ b ≤ 127)) := by omega
         simp only [if_neg e, decide_eq_false e])
      | (have e : ((0 ≤ a ∧ a ≤ 127) ∧ (0 ≤ b ∧ b ≤ 127)) := by omega
         have e2 := xor7 e.1 e.2
         have e3 : 0 ≤ ((a.toNat ^^^ b.toNat : Nat) : Int) ∧ ((a.toNat ^^^ b.toNat : Nat) : Int) ≤ 127 := ⟨by omega, e2⟩
         simp only [if_pos e, decide_eq_true e, if_pos e3, decide_eq_true e3, Int.toNat_natCast])
  simp only [Bool.false_eq_true, if_true, if_false, Decidable.not_not] at h1
  refine list_guard_n rfl rfl rfl rfl (by decide) rfl ?_
  refine list_guard_n rfl rfl rfl rfl (by decide) rfl ?_
  refine list_cons rfl (op_q (q_pick rfl rfl (by decide)) ?_)
  refine list_nil ?_
  refine hK3 _ ?_; clear hK3 K3
  refine code_cond_t rfl ?_
  refine code_seq (fun K6 hK6 => ?_)
  refine code_region ?_
  refine list_cons rfl (op_q (q_assign rfl (by decide)) ?_)
  refine list_cons rfl (op_q (q_assign rfl (by decide)) ?_)
  refine list_nil ?_
  refine hK6 _ ?_; clear hK6 K6
  refine code_ret ?_
  refine then_r ?_; clear hK2 K2
  refine ends_ret (cs := []) rfl rfl rfl rfl trivial ?_
  first
    | (have e : ¬ ((0 ≤ a ∧ a ≤ 127) ∧ (0 ≤ b ∧ b ≤ 127)) := by omega
       simp only [if_neg e, decide_eq_false e])
    | (have e : ((0 ≤ a ∧ a ≤ 127) ∧ (0 ≤ b ∧ b ≤ 127)) := by omega
       have e2 := xor7 e.1 e.2
       have e3 : 0 ≤ ((a.toNat ^^^ b.toNat : Nat) : Int) ∧ ((a.toNat ^^^ b.toNat : Nat) : Int) ≤ 127 := ⟨by omega, e2⟩
       simp only [if_pos e, decide_eq_true e, if_pos e3, decide_eq_true e3, Int.toNat_natCast])

def celS (k : Nat) : List Int := filN 10 (fun d => digT.getD d 0) k
theorem celS_get {s : Nat} (h : s < 10) : ((celS 10).map (PV.int .i64))[s]? = some (.int .i64 (digT.getD s 0)) := by
  have h2 := get_map1 (PV.int .i64) 0 (celS 10) (k := s) (by unfold celS; rw [filN_len]; exact h)
  rw [Nat.mul_one] at h2
  rw [h2]
  have h1 := filN_at 10 (fun d => digT.getD d 0) 10 s h
  rw [if_pos h] at h1
  unfold celS
  rw [h1]
theorem row_get {a b : Nat} (ha : a < 10) (hb : b < 10) : ((((tabS 100).map (PV.int .i64)).drop (a * 10)).take 10)[b]? = some (.int .i64 (dgt a b)) := by
  rw [List.getElem?_take, if_pos hb, List.getElem?_drop]
  have h2 := get_map1 (PV.int .i64) 0 (tabS 100) (k := a * 10 + b) (by simp [tabS, filN_len]; omega)
  rw [Nat.mul_one] at h2
  rw [h2, tab_at ha hb]
theorem put_new {a b : List PV} {n : Nat} (ha : a.length = n) (hb : b.length = n) : putAt a 0 (PV.agg b).cells = b := by
  unfold putAt PV.cells
  simp only [List.take_zero, List.nil_append, Nat.zero_add]
  rw [List.drop_of_length_le (by omega), List.append_nil]
theorem celS_all : ((((celS 10).map (PV.int .i64)).drop 0).take 10) = (celS 10).map (PV.int .i64) := by
  rw [List.drop_zero, List.take_of_length_le (by simp [celS, filN_len])]

def usd (l : List Int) (k : Nat) : List PV := (List.range 10).map (fun (d : Nat) => PV.bool (decide (hasK l (d : Int) k = true)))
theorem usd_len (l : List Int) (k : Nat) : (usd l k).length = 10 := by simp [usd]
theorem usd_flat (l : List Int) (k : Nat) : PV.flatL (usd l k) = true := flat_map _ (fun _ => rfl) _
theorem usd_get (l : List Int) (k : Nat) {d : Int} (h0 : 0 ≤ d) (h1 : d < 10) : (usd l k)[d.toNat]? = some (.bool (decide (hasK l d k = true))) := by
  unfold usd
  rw [List.getElem?_map, List.getElem?_range (by omega), Option.map_some, Int.toNat_of_nonneg h0]
theorem usd_get1 (l : List Int) (k : Nat) {d : Int} (h0 : 0 ≤ d) (h1 : d < 10) : (usd l k)[d.toNat * 1]? = some (.bool (decide (hasK l d k = true))) := by
  rw [Nat.mul_one]; exact usd_get l k h0 h1
theorem usd_put (l : List Int) (k : Nat) {d : Int} {o : Nat} (h0 : 0 ≤ d) (h1 : d < 10) (hd : l.getD k 0 = d) (ho : o = d.toNat) : putAt (usd l k) o [PV.bool true] = usd l (k + 1) := by
  subst ho
  have hl := usd_len l k
  apply List.ext_getElem?
  intro j
  rw [putAt, List.append_assoc, List.getElem?_append, List.length_take, hl, show min d.toNat 10 = d.toNat by omega]
  by_cases hj : j < 10
  · have e2 := usd_get l (k + 1) (d := j) (by omega) (by omega)
    have e1 := usd_get l k (d := j) (by omega) (by omega)
    rw [Int.toNat_natCast] at e1 e2
    rw [e2, hasK, hd]
    by_cases c : j < d.toNat
    · rw [if_pos c, List.getElem?_take, if_pos c, e1, decide_eq_false (show ¬ d = (j : Int) by omega), Bool.or_false]
    · rw [if_neg c]
      by_cases c2 : j = d.toNat
      · rw [c2, Nat.sub_self, decide_eq_true (show d = ((d.toNat : Nat) : Int) by omega), Bool.or_true]; rfl
      · rw [List.getElem?_append, if_neg (by simp only [List.length_cons, List.length_nil]; omega), List.getElem?_drop, List.length_cons, List.length_nil, show d.toNat + (0 + 1) + (j - d.toNat - (0 + 1)) = j by omega, e1, decide_eq_false (show ¬ d = (j : Int) by omega), Bool.or_false]
  · have e2 : (usd l (k + 1))[j]? = none := List.getElem?_eq_none (by rw [usd_len]; omega)
    rw [e2, if_neg (by omega)]
    exact List.getElem?_eq_none (by simp only [List.length_append, List.length_cons, List.length_nil, List.length_drop, hl]; omega)
theorem usd_0 (l : List Int) : List.replicate 10 (PV.bool false) = usd l 0 := rfl
def lnk (l : List Int) (r : Bool) : Nat := if r then l.length else l.length - 1
theorem tab_get {a b : Nat} (ha : a < 10) (hb : b < 10) : ((tabS 100).map (PV.int .i64))[a * 10 + b * 1]? = some (.int .i64 (dgt a b)) := by
  have h2 := get_map1 (PV.int .i64) 0 (tabS 100) (k := a * 10 + b) (by simp [tabS, filN_len]; omega)
  rw [Nat.mul_one] at h2
  rw [Nat.mul_one, h2, tab_at ha hb]
theorem lnk_le (l : List Int) (r : Bool) : lnk l r ≤ l.length := by unfold lnk; split <;> omega

theorem xor_sub7 (a b : Nat) (ha : a < 128) (hb : b < 128) : a ^^^ (a &&& b) = a - (a &&& b) := by
  have k : below 128 (fun x => below 128 (fun y => Nat.beq (x ^^^ (x &&& y)) (x - (x &&& y)))) = true := by kernel_rfl
  exact Nat.eq_of_beq_eq_true (below_ok (below_ok k a ha) b hb)
theorem shF_andNot {fx fy c : Int} (hx : 0 ≤ fx ∧ fx ≤ 127) (hc : 0 ≤ c ∧ c ≤ 127) : (((((c.toNat ^^^ (c.toNat &&& fx.toNat) : Nat) : Int)).toNat ||| fy.toNat : Nat) : Int) = shF fx fy c := by
  unfold shF shB
  rw [Int.toNat_natCast, xor_sub7 _ _ (by omega) (by omega)]
theorem xor7b {a b : Int} (ha : 0 ≤ a ∧ a ≤ 127) (hb : 0 ≤ b ∧ b ≤ 127) : 0 ≤ ((a.toNat ^^^ (a.toNat &&& b.toNat) : Nat) : Int) ∧ ((a.toNat ^^^ (a.toNat &&& b.toNat) : Nat) : Int) ≤ 127 := by
  rw [xor_sub7 _ _ (by omega) (by omega)]; omega
theorem ofInt_pos {x : Int} (h0 : -9223372036854775808 ≤ x) (h1 : x ≤ 9223372036854775807) (h : (BitVec.ofInt 64 x).toNat < 9223372036854775808) : x = ((BitVec.ofInt 64 x).toNat : Int) := by
  rw [BitVec.toNat_ofInt] at h ⊢
  omega
theorem ior_in {x y : Int} (hx : -9223372036854775808 ≤ x ∧ x ≤ 9223372036854775807) (hy : -9223372036854775808 ≤ y ∧ y ≤ 9223372036854775807) (h : 0 ≤ ior .i64 x y ∧ ior .i64 x y ≤ 127) : (0 ≤ x ∧ x ≤ 127) ∧ (0 ≤ y ∧ y ≤ 127) := by
  have hlt := (BitVec.ofInt 64 x ||| BitVec.ofInt 64 y).isLt
  have e : (BitVec.ofInt 64 x ||| BitVec.ofInt 64 y).toNat ≤ 127 := by
    unfold ior at h
    rw [show IntKind.i64.bits = 64 from rfl] at h
    generalize (BitVec.ofInt 64 x ||| BitVec.ofInt 64 y).toNat = m at h hlt
    rw [IntKind.wrap_i64] at h
    omega
  rw [BitVec.toNat_or] at e
  have e1 : (BitVec.ofInt 64 x).toNat ≤ 127 := Nat.le_trans Nat.left_le_or e
  have e2 : (BitVec.ofInt 64 y).toNat ≤ 127 := Nat.le_trans Nat.right_le_or e
  have k1 := ofInt_pos hx.1 hx.2 (by omega)
  have k2 := ofInt_pos hy.1 hy.2 (by omega)
  omega
theorem ior_7 {x y : Int} (hx : 0 ≤ x ∧ x ≤ 127) (hy : 0 ≤ y ∧ y ≤ 127) : ior .i64 x y = ((x.toNat ||| y.toNat : Nat) : Int) := by
  have h := ior_nat x.toNat y.toNat (by omega) (by omega)
  rwa [Int.toNat_of_nonneg hx.1, Int.toNat_of_nonneg hy.1] at h
section
variable {fx fy gx gy : Int} (b1 : -9223372036854775808 ≤ fx ∧ fx ≤ 9223372036854775807) (b2 : -9223372036854775808 ≤ fy ∧ fy ≤ 9223372036854775807) (b3 : -9223372036854775808 ≤ gx ∧ gx ≤ 9223372036854775807) (b4 : -9223372036854775808 ≤ gy ∧ gy ≤ 9223372036854775807)
theorem join_of (h : FaultP fx fy ∧ FaultP gx gy ∧ FaultP ((fx.toNat ||| gx.toNat : Nat) : Int) ((fy.toNat ||| gy.toNat : Nat) : Int)) : FaultP (ior .i64 fx gx) (ior .i64 fy gy) ∧ ior .i64 fx gx = ((fx.toNat ||| gx.toNat : Nat) : Int) ∧ ior .i64 fy gy = ((fy.toNat ||| gy.toNat : Nat) : Int) := by
  have e1 := ior_7 h.1.1 h.2.1.1
  have e2 := ior_7 h.1.2.1 h.2.1.2.1
  rw [e1, e2]; exact ⟨h.2.2, rfl, rfl⟩
theorem sub_zero7 {a b c d : Nat} (h : (a ||| c) &&& (b ||| d) = 0) : a &&& b = 0 ∧ c &&& d = 0 := by
  constructor
  · apply Nat.eq_of_testBit_eq
    intro i
    have := congrArg (fun z => z.testBit i) h
    simp only [Nat.testBit_and, Nat.testBit_or, Nat.zero_testBit] at this ⊢
    cases ha : a.testBit i <;> cases hb : b.testBit i <;> simp_all
  · apply Nat.eq_of_testBit_eq
    intro i
    have := congrArg (fun z => z.testBit i) h
    simp only [Nat.testBit_and, Nat.testBit_or, Nat.zero_testBit] at this ⊢
    cases ha : c.testBit i <;> cases hb : d.testBit i <;> simp_all
include b1 b2 b3 b4 in
theorem join_is (h : FaultP (ior .i64 fx gx) (ior .i64 fy gy)) : FaultP fx fy ∧ FaultP gx gy ∧ FaultP ((fx.toNat ||| gx.toNat : Nat) : Int) ((fy.toNat ||| gy.toNat : Nat) : Int) := by
  obtain ⟨h1, h2⟩ := ior_in b1 b3 h.1
  obtain ⟨h3, h4⟩ := ior_in b2 b4 h.2.1
  have e1 := ior_7 h1 h2
  have e2 := ior_7 h3 h4
  rw [e1, e2] at h
  have hz := h.2.2
  rw [Int.toNat_natCast, Int.toNat_natCast] at hz
  obtain ⟨z1, z2⟩ := sub_zero7 hz
  exact ⟨⟨h1, h3, z1⟩, ⟨h2, h4, z2⟩, h⟩
end

abbrev GM := List (PV × Option (Nat × List PV))
/-- The entries, as the state tells them. -/
def gE (m : List (Int × List Int)) : GM := m.map fun p => (.int .i64 p.1, some (p.2.length, p.2.map (.int .i64)))
theorem gE_len (m : List (Int × List Int)) : (gE m).length = m.length := by simp [gE]
theorem gE_at {m : List (Int × List Int)} {i : Nat} {c : Int} {v : List Int} (h : m[i]? = some (c, v)) : (gE m)[i]? = some (.int .i64 c, some (v.length, v.map (.int .i64))) := by
  unfold gE; rw [List.getElem?_map, h]; rfl
theorem findG_gE (c : Int) : ∀ (m : List (Int × List Int)) (i : Nat), findG (.int .i64) (.int .i64 c) (gE m) i = some (posI c m i)
  | [], i => rfl
  | p :: r, i => by
    have ih := findG_gE c r (i + 1)
    have hk : keyEq (.int .i64) (.int .i64 c) (.int .i64 p.1) = some (decide (c = p.1)) := by
      show (bif kEq .i64 .i64 then some (intEq c p.1) else none) = _
      rw [show kEq .i64 .i64 = true from rfl, cond_true, intEq_eq]
      by_cases e : c = p.1
      · subst e; simp
      · rw [decide_eq_false e]; simp [e]
    show (match keyEq (.int .i64) (.int .i64 c) (.int .i64 p.1) with
      | some true => some (some i)
      | some false => findG (.int .i64) (.int .i64 c) (gE r) (i + 1)
      | none => none) = some (if c = p.1 then some i else posI c r (i + 1))
    rw [hk]
    by_cases e : c = p.1
    · rw [if_pos e, decide_eq_true e]
    · rw [if_neg e, decide_eq_false e]; exact ih
theorem findG_set {t : TK} {k k' : PV} {o o' : Option (Nat × List PV)} : ∀ {es : GM} {j i : Nat}, es[j]? = some (k', o) → findG t k (es.set j (k', o')) i = findG t k es i
  | [], j, i, h => by simp at h
  | (k0, o0) :: r, 0, i, h => by
    simp at h; obtain ⟨rfl, rfl⟩ := h; rfl
  | (k0, o0) :: r, j + 1, i, h => by
    have ih := @findG_set t k k' o o' r j (i + 1) (by simpa using h)
    show (match keyEq t k k0 with
      | some true => some (some i)
      | some false => findG t k (r.set j (k', o')) (i + 1)
      | none => none) = _
    rw [ih]; rfl
theorem gE_hit {c d : Int} : ∀ {m : List (Int × List Int)} {i j : Nat} {v : List Int} {o : Option (Nat × List PV)}, posI c m i = some (i + j) → m[j]? = some (c, v) → ((gE m).set j (.int .i64 c, o)).set j (.int .i64 c, some (v.length + 1, v.map (.int .i64) ++ [.int .i64 d])) = gE (upI c d m)
  | [], i, j, v, o, h, _ => by simp [posI] at h
  | p :: r, i, j, v, o, h, hv => by
    unfold posI at h
    unfold upI
    split at h
    · rename_i hc
      have hj : j = 0 := by simp only [Option.some.injEq] at h; omega
      subst hj
      simp at hv
      rw [if_pos hc]
      subst hv
      simp [gE]
    · rename_i hc
      have hle := posI_le c r (i + 1) (i + j) h
      rw [if_neg hc]
      obtain ⟨j, rfl⟩ : ∃ j', j = j' + 1 := ⟨j - 1, by omega⟩
      have ih := @gE_hit c d r (i + 1) j v o (by rw [h]; congr 1; omega) (by simpa using hv)
      show _ :: _ = _ :: gE (upI c d r)
      rw [← ih]; rfl
theorem gE_miss {c d : Int} : ∀ {m : List (Int × List Int)} {i : Nat}, posI c m i = none → gE m ++ [(.int .i64 c, some (0 + 1, [] ++ [.int .i64 d]))] = gE (upI c d m)
  | [], i, h => rfl
  | p :: r, i, h => by
    unfold posI at h
    unfold upI
    split at h
    · cases h
    · rename_i hc
      rw [if_neg hc]
      have ih := @gE_miss c d r (i + 1) h
      show _ :: (gE r ++ _) = _ :: gE (upI c d r)
      rw [← ih]
theorem flat_snoc (l : List Int) (d : Int) : PV.flatL (l.map (PV.int .i64) ++ [PV.int .i64 d]) = true := by
  have : l.map (PV.int .i64) ++ [PV.int .i64 d] = (l ++ [d]).map (PV.int .i64) := by simp
  rw [this]; exact flat_map _ (fun _ => rfl) _

def fxOf (j : Nat) : Int := ((j / 128 : Nat) : Int)
def fyOf (j : Nat) : Int := ((j % 128 : Nat) : Int)
theorem fx_at {d l : Int} (d0 : 0 ≤ d) (l0 : 0 ≤ l) (l1 : l < 128) : fxOf (d.toNat * 128 + l.toNat) = d ∧ fyOf (d.toNat * 128 + l.toNat) = l := by
  unfold fxOf fyOf; omega
def fltA (k : Nat) : List Nat := (List.range k).filter fun j => decide (FaultP (fxOf j) (fyOf j))
theorem fltA_yes {k : Nat} (h : FaultP (fxOf k) (fyOf k)) : fltA (k + 1) = fltA k ++ [k] := by
  unfold fltA; rw [List.range_succ, List.filter_append, List.filter_cons, if_pos (decide_eq_true h)]; rfl
theorem fltA_no {k : Nat} (h : ¬ FaultP (fxOf k) (fyOf k)) : fltA (k + 1) = fltA k := by
  unfold fltA; rw [List.range_succ, List.filter_append, List.filter_cons, if_neg (fun e => h (of_decide_eq_true e))]; simp
theorem fltA_get {x : Nat} (hp : FaultP (fxOf x) (fyOf x)) : ∀ m, x < m → (fltA m)[(fltA x).length]? = some x
  | 0, h => absurd h (Nat.not_lt_zero x)
  | m + 1, h => by
    by_cases e : x = m
    · subst e; rw [fltA_yes hp, List.getElem?_append_right (Nat.le_refl _), Nat.sub_self]; rfl
    · have ih := fltA_get hp m (by omega)
      by_cases c : FaultP (fxOf m) (fyOf m)
      · rw [fltA_yes c]
        have hl : (fltA x).length < (fltA m).length := by
          by_cases hc : (fltA x).length < (fltA m).length
          · exact hc
          · rw [List.getElem?_eq_none (by omega)] at ih; cases ih
        rw [List.getElem?_append_left hl]; exact ih
      · rw [fltA_no c]; exact ih
def fE (i : Nat) : List PV := [.agg [.int .i64 (fxOf ((fltA 16384).getD i 0)), .int .i64 (fyOf ((fltA 16384).getD i 0))]]
theorem fE_lt {d l : Int} (d0 : 0 ≤ d) (d1 : d < 128) (l0 : 0 ≤ l) (l1 : l < 128) (h : FaultP d l) : (fltA (d.toNat * 128 + l.toNat)).length < (fltA 16384).length := by
  have e := fx_at d0 l0 l1
  have k := fltA_get (x := d.toNat * 128 + l.toNat) (by rw [e.1, e.2]; exact h) 16384 (by omega)
  by_cases hc : (fltA (d.toNat * 128 + l.toNat)).length < (fltA 16384).length
  · exact hc
  · rw [List.getElem?_eq_none (by omega)] at k; cases k
theorem fE_at {d l : Int} (d0 : 0 ≤ d) (d1 : d < 128) (l0 : 0 ≤ l) (l1 : l < 128) (h : FaultP d l) : fE (fltA (d.toNat * 128 + l.toNat)).length = [.agg [.int .i64 d, .int .i64 l]] := by
  have e := fx_at d0 l0 l1
  have k := fltA_get (x := d.toNat * 128 + l.toNat) (by rw [e.1, e.2]; exact h) 16384 (by omega)
  unfold fE
  rw [List.getD_eq_getElem?_getD, k, Option.getD_some, e.1, e.2]
theorem fE_yes {d l : Int} (d0 : 0 ≤ d) (l0 : 0 ≤ l) (l1 : l < 128) (h : FaultP d l) : (fltA (d.toNat * 128 + l.toNat)).length + 1 = (fltA (d.toNat * 128 + (l + 1).toNat)).length := by
  have e := fx_at d0 l0 l1
  rw [show d.toNat * 128 + (l + 1).toNat = d.toNat * 128 + l.toNat + 1 by omega, fltA_yes (by rw [e.1, e.2]; exact h), List.length_append]; rfl
theorem fE_no {d l : Int} (d0 : 0 ≤ d) (l0 : 0 ≤ l) (l1 : l < 128) (h : ¬ FaultP d l) : (fltA (d.toNat * 128 + l.toNat)).length = (fltA (d.toNat * 128 + (l + 1).toNat)).length := by
  have e := fx_at d0 l0 l1
  rw [show d.toNat * 128 + (l + 1).toNat = d.toNat * 128 + l.toNat + 1 by omega, fltA_no (by rw [e.1, e.2]; exact h)]
theorem fE_ok {i : Nat} (h : i < (fltA 16384).length) : FaultP (fxOf ((fltA 16384).getD i 0)) (fyOf ((fltA 16384).getD i 0)) := by
  rw [List.getD_eq_getElem?_getD, List.getElem?_eq_getElem h, Option.getD_some]
  have := List.getElem_mem h
  unfold fltA at this
  exact of_decide_eq_true (List.mem_filter.1 this).2
theorem fltA_len (k : Nat) : (fltA k).length ≤ k := by
  unfold fltA; exact Nat.le_trans (List.length_filter_le _ _) (by simp)
def hOk (s : Int) (j : Nat) : Bool := decide (((cnt7 (fxOf j).toNat + cnt7 (fyOf j).toNat : Nat) : Int) = s ∧ (grp (fxOf j) (fyOf j)).length = 10)
def cHi (s : Int) (i : Nat) : Nat := ((fltA 16384).take i).countP (hOk s)
theorem cHi_le (s : Int) (i : Nat) : cHi s i ≤ i := by
  unfold cHi
  exact Nat.le_trans List.countP_le_length (by rw [List.length_take]; omega)
theorem cHi_succ (s : Int) {i : Nat} (h : i < (fltA 16384).length) : cHi s (i + 1) = cHi s i + if hOk s ((fltA 16384).getD i 0) = true then 1 else 0 := by
  unfold cHi
  rw [List.take_add_one, List.getElem?_eq_getElem h, List.countP_append, List.getD_eq_getElem?_getD, List.getElem?_eq_getElem h, Option.getD_some, Option.toList_some, List.countP_singleton]
theorem cHi_yes (s : Int) {i : Nat} (h : i < (fltA 16384).length) (k : ((cnt7 (fxOf ((fltA 16384).getD i 0)).toNat + cnt7 (fyOf ((fltA 16384).getD i 0)).toNat : Nat) : Int) = s ∧ (grp (fxOf ((fltA 16384).getD i 0)) (fyOf ((fltA 16384).getD i 0))).length = 10) : ((cHi s i : Nat) : Int) + 1 = ((cHi s (i + 1) : Nat) : Int) := by
  have e : hOk s ((fltA 16384).getD i 0) = true := decide_eq_true k
  rw [cHi_succ s h, if_pos e]; rfl
theorem cHi_no (s : Int) {i : Nat} (h : i < (fltA 16384).length) (k : ¬ (((cnt7 (fxOf ((fltA 16384).getD i 0)).toNat + cnt7 (fyOf ((fltA 16384).getD i 0)).toNat : Nat) : Int) = s ∧ (grp (fxOf ((fltA 16384).getD i 0)) (fyOf ((fltA 16384).getD i 0))).length = 10)) : ((cHi s i : Nat) : Int) = ((cHi s (i + 1) : Nat) : Int) := by
  have e : ¬ hOk s ((fltA 16384).getD i 0) = true := fun e => k (of_decide_eq_true e)
  rw [cHi_succ s h, if_neg e]; rfl
def cHs (s : Int) (k : Nat) : Nat := (fltA k).countP (hOk s)
theorem cHs_end (s : Int) : cHi s (fltA 16384).length = cHs s 16384 := by
  unfold cHi cHs; rw [List.take_length]
theorem cHs_yes (s : Int) {d l : Int} (d0 : 0 ≤ d) (l0 : 0 ≤ l) (l1 : l < 128) (h : FaultP d l) (h1 : ((cnt7 d.toNat + cnt7 l.toNat : Nat) : Int) = s) (h2 : (grp d l).length = 10) : ((cHs s (d.toNat * 128 + l.toNat) : Nat) : Int) + 1 = ((cHs s (d.toNat * 128 + (l + 1).toNat) : Nat) : Int) := by
  have e := fx_at d0 l0 l1
  unfold cHs
  rw [show d.toNat * 128 + (l + 1).toNat = d.toNat * 128 + l.toNat + 1 by omega, fltA_yes (by rw [e.1, e.2]; exact h), List.countP_append, List.countP_singleton, if_pos (by unfold hOk; rw [e.1, e.2]; exact decide_eq_true ⟨h1, h2⟩)]; rfl
theorem cHs_no (s : Int) {d l : Int} (d0 : 0 ≤ d) (l0 : 0 ≤ l) (l1 : l < 128) (h : ¬ (FaultP d l ∧ ((cnt7 d.toNat + cnt7 l.toNat : Nat) : Int) = s ∧ (grp d l).length = 10)) : ((cHs s (d.toNat * 128 + l.toNat) : Nat) : Int) = ((cHs s (d.toNat * 128 + (l + 1).toNat) : Nat) : Int) := by
  have e := fx_at d0 l0 l1
  unfold cHs
  rw [show d.toNat * 128 + (l + 1).toNat = d.toNat * 128 + l.toNat + 1 by omega]
  by_cases c : FaultP d l
  · rw [fltA_yes (by rw [e.1, e.2]; exact c), List.countP_append, List.countP_singleton, if_neg (by unfold hOk; rw [e.1, e.2]; exact fun k => h ⟨c, of_decide_eq_true k⟩)]; rfl
  · rw [fltA_no (by rw [e.1, e.2]; exact c)]
theorem cHs_le (s : Int) (k : Nat) : cHs s k ≤ k := Nat.le_trans List.countP_le_length (fltA_len k)
theorem cnt7_or {x y : Int} (h : FaultP x y) : cnt7 (x.toNat ||| y.toNat) = cnt7 x.toNat + cnt7 y.toNat := by
  have k : below 128 (fun x => below 128 (fun y => !Nat.beq (x &&& y) 0 || Nat.beq (cnt7 (x ||| y)) (cnt7 x + cnt7 y))) = true := by kernel_rfl
  have hb := h.b
  have k2 := below_ok (below_ok k x.toNat (by omega)) y.toNat (by omega)
  rw [h.2.2] at k2
  exact Nat.eq_of_beq_eq_true (by simpa using k2)

theorem hasK_ints : ∀ (n : Nat) (l : List Int), n ≤ l.length → HasK (List.replicate n [BK.int .i64]).flatten (l.map (PV.int .i64))
  | 0, _, _ => trivial
  | n + 1, [], h => absurd h (by simp)
  | n + 1, x :: l, h => by
    rw [List.replicate_succ, List.flatten_cons]
    exact ⟨PV.int .i64 x, l.map (PV.int .i64), rfl, ⟨x, rfl⟩, hasK_ints n l (by simpa using h)⟩
theorem eqP_ints : ∀ (a b : List Int), a.length = b.length → (EqP (a.map (PV.int .i64)) (b.map (PV.int .i64)) ↔ a = b)
  | [], [], _ => by simp [EqP]
  | [], _ :: _, h => by simp at h
  | _ :: _, [], h => by simp at h
  | x :: a, y :: b, h => by
    have ih := eqP_ints a b (by simpa using h)
    simp only [List.map_cons, EqP, Eq1, ih, List.cons.injEq]
theorem res_agg7 {az : TypeId → Nat} {σ : St} {t u l e : Nat} {cs : List PV} (h : σ.at t = some (.box l e cs)) (haz : (az u == 0) = false) (hf : PV.flatL cs = true) (hl : cs.length = az u) : St.res az σ [.cell t u] = some [.val (.agg cs)] := by
  unfold St.res
  rw [h, show St.res az σ [] = some [] from rfl]
  simp only [haz, Bool.false_eq_true, if_false]
  rw [hf, hl]
  simp
theorem put_all7 {a b : List PV} {n : Nat} (ha : a.length = n) (hb : b.length = n) : putAt a 0 (PV.agg b).cells = b := by
  unfold putAt PV.cells
  simp only [List.take_zero, List.nil_append, Nat.zero_add]
  rw [List.drop_of_length_le (by omega), List.append_nil]
theorem fltS {b k : Int} (h : StP b k) : FaultP (sdk b k) (slt b k) := by
  have hb := h.bd
  refine ⟨hb.1, hb.2, ?_⟩
  unfold sdk slt
  by_cases e : k = 1
  · rw [if_neg (show ¬ k = 2 by omega)]; simp
  · rw [if_neg e]; simp
/-- The digit cells of a test. -/
def celT (l : List Int) : List Int := l.map fun d => digT.getD d.toNat 0
theorem celT_len (l : List Int) : (celT l).length = l.length := by simp [celT]
theorem celT_at {l : List Int} {j : Nat} (h : j < l.length) : (celT l).getD j 0 = digT.getD (l.getD j 0).toNat 0 := by
  unfold celT
  simp [List.getD_eq_getElem?_getD, h]
/-- What the first m digits of a test show under a State, and zeros. -/
def shwK (l : List Int) (b k : Int) (m : Nat) : List Int := (List.range 10).map fun j => if j < m then shF (sdk b k) (slt b k) (digT.getD (l.getD j 0).toNat 0) else 0
theorem shwK_len (l : List Int) (b k : Int) (m : Nat) : (shwK l b k m).length = 10 := by simp [shwK]
theorem shwK_at {l : List Int} {b k : Int} {m j : Nat} (h : j < 10) : (shwK l b k m).getD j 0 = if j < m then shF (sdk b k) (slt b k) (digT.getD (l.getD j 0).toNat 0) else 0 := by
  unfold shwK
  rw [List.getD_eq_getElem?_getD, List.getElem?_map, List.getElem?_range h]; rfl
theorem shw_put {l : List Int} {b k v : Int} {m o : Nat} (h : m < 10) (ho : o = m) (hv : v = shF (sdk b k) (slt b k) (digT.getD (l.getD m 0).toNat 0)) : putAt ((shwK l b k m).map (PV.int .i64)) (o * 1) [PV.int .i64 v] = (shwK l b k (m + 1)).map (PV.int .i64) := by
  subst ho; subst hv
  rw [put_map1 (PV.int .i64) _ (by rw [shwK_len]; exact h)]
  congr 1
  apply List.ext_getElem (by simp [shwK])
  intro j h1 h2
  rw [List.getElem_set]
  have hj : j < 10 := by simpa [shwK] using h1
  simp only [shwK, List.getElem_map, List.getElem_range]
  by_cases e : o = j
  · rw [if_pos e, if_pos (by omega), e]
  · rw [if_neg e]
    by_cases e2 : j < o
    · rw [if_pos e2, if_pos (by omega)]
    · rw [if_neg e2, if_neg (by omega)]
theorem shF_good (n : Nat) : shF (sdk 0 0) (slt 0 0) (digT.getD n 0) = digT.getD n 0 := by
  by_cases h : n < 10
  · have key : ∀ i : Fin 10, shF (sdk 0 0) (slt 0 0) (digT.getD i.val 0) = digT.getD i.val 0 := by decide
    exact key ⟨n, h⟩
  · have e : digT.getD n 0 = 0 := by
      rw [List.getD_eq_getElem?_getD, List.getElem?_eq_none (by simp [digT]; omega)]; rfl
    rw [e]; decide
theorem shw_ne {l : List Int} (hT : TstP l) (b k : Int) : shwK l b k l.length ≠ shwK l 0 0 l.length ↔ 0 ≤ plc l b k := by
  have h10 := hT.1
  constructor
  · intro hne
    by_cases hp : 0 ≤ plc l b k
    · exact hp
    · exfalso
      apply hne
      apply List.ext_getElem (by simp [shwK])
      intro j h1 h2
      have hj : j < 10 := by simpa [shwK] using h1
      simp only [shwK, List.getElem_map, List.getElem_range]
      by_cases e : j < l.length
      · rw [if_pos e, if_pos e, shF_good]
        have hall : ∀ i, i < l.length → ¬ FdP b k (l.getD i 0) := by
          have hn := plc_bd l b k
          have hpl : plc l b k = -1 := by omega
          intro i hi hf
          unfold plc at hpl
          split at hpl
          · omega
          · rename_i hnone
            have := List.find?_eq_none.1 hnone i (List.mem_range.2 hi)
            exact this (decide_eq_true hf)
        have := hall j e
        unfold FdP at this
        exact Decidable.not_not.1 this
      · rw [if_neg e, if_neg e]
  · intro hp heq
    unfold plc at hp
    split at hp
    · rename_i i hi
      have hm := List.mem_range.1 (List.mem_of_find?_eq_some hi)
      have hf0 := List.find?_some (p := fun i => decide (FdP b k (l.getD i 0))) hi
      have hf : FdP b k (l.getD i 0) := of_decide_eq_true hf0
      have e1 := shwK_at (l := l) (b := b) (k := k) (m := l.length) (j := i) (by omega)
      have e2 := shwK_at (l := l) (b := 0) (k := 0) (m := l.length) (j := i) (by omega)
      rw [if_pos hm] at e1 e2
      rw [heq, e2, shF_good] at e1
      exact hf e1.symm
    · omega
/-- The States of the first so many that are as wanted. -/
def flt (p : Int → Int → Prop) [∀ b k, Decidable (p b k)] (n : Nat) : List (Int × Int) := (allS.take n).filter fun s => decide (p s.1 s.2)
theorem flt_len (p : Int → Int → Prop) [∀ b k, Decidable (p b k)] (n : Nat) : (flt p n).length ≤ 15 := by
  unfold flt
  refine Nat.le_trans (List.length_filter_le _ _) ?_
  rw [List.length_take, allS_len]; omega
def stN (k b : Nat) : Nat := if k = 0 then min b 1 else 1 + 7 * (k - 1) + b
theorem stN_yes {b k : Int} (hk : 0 ≤ k ∧ k ≤ 2) (hb : 0 ≤ b ∧ b ≤ 6) (h : StP b k) : allS.take (stN k.toNat (b + 1).toNat) = allS.take (stN k.toNat b.toNat) ++ [(b, k)] := by
  obtain ⟨kn, rfl⟩ : ∃ n : Nat, k = n := ⟨k.toNat, by omega⟩
  obtain ⟨bn, rfl⟩ : ∃ n : Nat, b = n := ⟨b.toNat, by omega⟩
  have key : ∀ i : Fin 3, ∀ j : Fin 7, StP (j.val : Int) (i.val : Int) → allS.take (stN i.val (j.val + 1)) = allS.take (stN i.val j.val) ++ [((j.val : Int), (i.val : Int))] := by decide
  have := key ⟨kn, by omega⟩ ⟨bn, by omega⟩ h
  rw [show ((bn : Int) + 1).toNat = bn + 1 by omega]
  exact this
theorem stN_no {b k : Int} (hk : 0 ≤ k ∧ k ≤ 2) (hb : 0 ≤ b ∧ b ≤ 6) (h : ¬ StP b k) : allS.take (stN k.toNat (b + 1).toNat) = allS.take (stN k.toNat b.toNat) := by
  obtain ⟨kn, rfl⟩ : ∃ n : Nat, k = n := ⟨k.toNat, by omega⟩
  obtain ⟨bn, rfl⟩ : ∃ n : Nat, b = n := ⟨b.toNat, by omega⟩
  have key : ∀ i : Fin 3, ∀ j : Fin 7, ¬ StP (j.val : Int) (i.val : Int) → allS.take (stN i.val (j.val + 1)) = allS.take (stN i.val j.val) := by decide
  have := key ⟨kn, by omega⟩ ⟨bn, by omega⟩ h
  rw [show ((bn : Int) + 1).toNat = bn + 1 by omega]
  exact this
theorem stN_next {k : Int} (hk : 0 ≤ k ∧ k ≤ 2) : stN (k + 1).toNat 0 = stN k.toNat 7 := by
  obtain ⟨kn, rfl⟩ : ∃ n : Nat, k = n := ⟨k.toNat, by omega⟩
  rw [show ((kn : Int) + 1).toNat = kn + 1 by omega, show ((kn : Int)).toNat = kn by omega]
  have key : ∀ i : Fin 3, stN (i.val + 1) 0 = stN i.val 7 := by decide
  exact key ⟨kn, by omega⟩
theorem flt_yes {p : Int → Int → Prop} [∀ b k, Decidable (p b k)] {b k : Int} (hk : 0 ≤ k ∧ k ≤ 2) (hb : 0 ≤ b ∧ b ≤ 6) (h : StP b k) (hp : p b k) : flt p (stN k.toNat (b + 1).toNat) = flt p (stN k.toNat b.toNat) ++ [(b, k)] := by
  unfold flt
  rw [stN_yes hk hb h, List.filter_append, List.filter_cons, if_pos (decide_eq_true hp)]; rfl
theorem flt_no {p : Int → Int → Prop} [∀ b k, Decidable (p b k)] {b k : Int} (hk : 0 ≤ k ∧ k ≤ 2) (hb : 0 ≤ b ∧ b ≤ 6) (h : ¬ (StP b k ∧ p b k)) : flt p (stN k.toNat (b + 1).toNat) = flt p (stN k.toNat b.toNat) := by
  unfold flt
  by_cases hs : StP b k
  · rw [stN_yes hk hb hs, List.filter_append, List.filter_cons, if_neg (fun e => h ⟨hs, of_decide_eq_true e⟩)]; simp
  · rw [stN_no hk hb hs]
theorem snocS {g g' : List (Int × Int)} {a b : Int} (h : g' = g ++ [(a, b)]) : g'.length = g.length + 1 ∧ fl g' = fl g ++ [PV.int .i64 a, PV.int .i64 b] := by
  subst h; exact ⟨by simp, by simp [fl]⟩
theorem fnd_of {l : List Int} (hT : TstP l) : flt (fun b k => 0 ≤ plc l b k) 15 = fnd l true ∧ flt (fun b k => k ≠ 0 ∧ ¬ 0 ≤ plc l b k) 15 = fnd l false := by
  have h0 : ¬ 0 ≤ plc l 0 0 := fun h => (shw_ne hT 0 0).2 h rfl
  have e : allS = (0, 0) :: allS.drop 1 := rfl
  have ek : allS.take 15 = allS := rfl
  have ed : (allS.take 15).drop 1 = allS.drop 1 := rfl
  constructor
  · unfold flt fnd fndK
    rw [ed, ek, e, List.filter_cons, if_neg (fun z => h0 (of_decide_eq_true z))]
    apply List.filter_congr
    intro s _
    simp
  · unfold flt fnd fndK
    rw [ed, ek, e, List.filter_cons, if_neg (fun z => (of_decide_eq_true z).1 rfl)]
    apply List.filter_congr
    intro s hs
    have hk : s.2 ≠ 0 := by
      have key : ∀ s ∈ allS.drop 1, s.2 ≠ 0 := by decide
      exact key s hs
    by_cases hp : 0 ≤ plc l s.1 s.2
    · rw [decide_eq_false (fun z => z.2 hp), decide_eq_true hp]; rfl
    · rw [decide_eq_true ⟨hk, hp⟩, decide_eq_false hp]; rfl

end Go.Proofs.Ytbddhdbieelpjaa
