/- Contracts of functions, walked over the pure layer; each says for which arguments. -/
import Derived.Test.YtiiobkibgkagbaaDoorPaTy
import Derived.Lib.AppendIntMem
import Derived.Lib.AtoiTie
import Derived.Test.YtiiobkibgkagbaaDoorTf
import Derived.Test.YtiiobkibgkagbaaDoorShelf
import Derived.Test.YtiiobkibgkagbaaDoorSp
import Derived.Test.YtiiobkibgkagbaaDoorIt
import Derived.Test.YtiiobkibgkagbaaDoorNm
namespace Go.Proofs.YtiiobkibgkagbaaDoor
open Go.RowKit PaTy
set_option linter.unusedVariables false
set_option linter.unusedSimpArgs false

theorem dFrom_app (a b : List UInt8) : ∀ acc, Lib.decFrom acc (a ++ b) = (Lib.decFrom acc a).bind fun m => Lib.decFrom m b := by
  induction a with
  | nil => intro acc; rfl
  | cons c a ih =>
    intro acc
    simp only [List.cons_append, Lib.decFrom]
    cases Lib.digitVal c with
    | none => rfl
    | some d => exact ih _
theorem digV {d : Nat} (h : d < 10) : Lib.digitVal (UInt8.ofNat (48 + d)) = some d := by
  unfold Lib.digitVal
  have e : (UInt8.ofNat (48 + d)).toNat = 48 + d := by simp; omega
  rw [e, if_pos (by omega)]; congr 1; omega
theorem dFrom_dec : ∀ (k u : Nat), u ≤ k → Lib.decFrom 0 (Lib.decDigits u) = some u
  | 0, u, h => by
    rw [show u = 0 by omega, Lib.decDigits_one (by decide)]; rfl
  | k + 1, u, h => by
    by_cases hu : u < 10
    · rw [Lib.decDigits_one hu]
      simp only [Lib.decFrom, digV hu]; congr 1; omega
    · rw [dec_ge hu, dFrom_app, dFrom_dec k (u / 10) (by omega)]
      simp only [Option.bind_some, Lib.decFrom, digV (Nat.mod_lt u (by decide))]
      congr 1; omega
theorem dec_ne (u : Nat) : Lib.decDigits u ≠ [] := by
  by_cases h : u < 10
  · rw [Lib.decDigits_one h]; simp
  · rw [dec_ge h]; simp
theorem dec_dig : ∀ (k u : Nat), u ≤ k → ∀ c ∈ Lib.decDigits u, 48 ≤ c.toNat ∧ c.toNat ≤ 57
  | 0, u, h, c, hc => by
    rw [show u = 0 by omega, Lib.decDigits_one (by decide)] at hc
    simp only [List.mem_singleton] at hc
    subst hc; decide
  | k + 1, u, h, c, hc => by
    have one : ∀ d : Nat, d < 10 → 48 ≤ (UInt8.ofNat (48 + d)).toNat ∧ (UInt8.ofNat (48 + d)).toNat ≤ 57 := fun d hd => by
      have e : (UInt8.ofNat (48 + d)).toNat = 48 + d := by simp; omega
      omega
    by_cases hu : u < 10
    · rw [Lib.decDigits_one hu] at hc
      simp only [List.mem_singleton] at hc
      subst hc; exact one u hu
    · rw [dec_ge hu] at hc
      rcases List.mem_append.1 hc with hc | hc
      · exact dec_dig k (u / 10) (by omega) c hc
      · simp only [List.mem_singleton] at hc
        subst hc; exact one _ (Nat.mod_lt u (by decide))
theorem atoi_itoa {n : Int} (h : -999999 ≤ n ∧ n ≤ 999999) : Lib.atoiAll (Lib.itoa n) = .ok n := by
  have hl : ∀ u : Nat, u ≤ 999999 → (Lib.decDigits u).length ≤ 6 := fun u hu => dec_len 6 u (by decide) (by omega)
  have hd : ∀ u : Nat, Lib.decNat (Lib.decDigits u) = some u := fun u => by
    unfold Lib.decNat
    rw [if_neg (by rw [List.isEmpty_iff]; exact dec_ne u)]; exact dFrom_dec u u (Nat.le_refl _)
  by_cases h0 : n < 0
  · have h1 := hl (-n).toNat (by omega)
    rw [itoa_lt h0, Lib.atoiAll_short _ (by simp only [List.length_cons]; omega)]
    simp only [Lib.atoi, BEq.rfl, if_true, hd, Option.map_some, Lib.NumEnd.ofOption]
    congr 1; omega
  · have h1 := hl n.toNat (by omega)
    rw [itoa_ge (by omega), Lib.atoiAll_short _ (by omega)]
    cases hc : Lib.decDigits n.toNat with
    | nil => exact absurd hc (dec_ne _)
    | cons c r =>
      have hcd := dec_dig n.toNat n.toNat (Nat.le_refl _) c (by rw [hc]; exact List.mem_cons_self)
      have e1 : (c == 45) = false := by
        rw [beq_eq_false_iff_ne]; rintro rfl; exact absurd hcd.1 (by decide)
      have e2 : (c == 43) = false := by
        rw [beq_eq_false_iff_ne]; rintro rfl; exact absurd hcd.1 (by decide)
      simp only [Lib.atoi, e1, e2, Bool.false_eq_true, if_false]
      rw [← hc, hd]
      simp only [Option.map_some, Lib.NumEnd.ofOption]
      congr 1; omega
/-- The number of a text. -/
def rdV (s : List UInt8) : Int := match Lib.atoiAll s with
  | .ok v => v
  | _ => 0
def RdP (s : List UInt8) : Prop := (-999999 ≤ rdV s ∧ rdV s ≤ 999999) ∧ Lib.itoa (rdV s) = s
instance (s : List UInt8) : Decidable (RdP s) := by unfold RdP; infer_instance
theorem rd_of {s : List UInt8} {n : Int} (h : -999999 ≤ n ∧ n ≤ 999999) (e : Lib.itoa n = s) : RdP s ∧ rdV s = n := by
  have k : rdV s = n := by
    unfold rdV; rw [← e, atoi_itoa h]
  exact ⟨⟨by rw [k]; exact h, by rw [k]; exact e⟩, k⟩
theorem rd_ok {s : List UInt8} (h : RdP s) : Lib.atoiAll s = .ok (rdV s) := by
  have := atoi_itoa h.1; rwa [h.2] at this
/-- What stands behind a minus. -/
def tailM (s : List UInt8) : List UInt8 := if 1 < s.length ∧ s.getD 0 0 = 45 then s.drop 1 else s
theorem tailM_of {s : List UInt8} (h : RdP s) : tailM s = Lib.decDigits (rdV s).natAbs ∧ ((tailM s).length < s.length ↔ rdV s < 0) := by
  have hd := dec_ne (rdV s).natAbs
  have h2 := h.2
  by_cases h0 : rdV s < 0
  · rw [itoa_lt h0] at h2
    have e : (-(rdV s)).toNat = (rdV s).natAbs := by omega
    rw [e] at h2
    have hl : 0 < (Lib.decDigits (rdV s).natAbs).length := List.length_pos_iff.2 hd
    have ht : tailM s = Lib.decDigits (rdV s).natAbs := by
      unfold tailM
      have h1 : 1 < s.length ∧ s.getD 0 0 = 45 := ⟨by rw [← h2]; simp only [List.length_cons]; omega, by rw [← h2]; rfl⟩
      rw [if_pos h1]
      exact (congrArg (List.drop 1) h2).symm
    refine ⟨ht, fun _ => h0, fun _ => ?_⟩
    rw [ht]
    have := congrArg List.length h2
    simp only [List.length_cons] at this
    omega
  · rw [itoa_ge (by omega)] at h2
    have e : (rdV s).toNat = (rdV s).natAbs := by omega
    rw [e] at h2
    have ht : tailM s = s := by
      unfold tailM
      rw [if_neg]
      rintro ⟨_, hc⟩
      have hl : 0 < s.length := by rw [← h2]; exact List.length_pos_iff.2 hd
      have hm : s.getD 0 0 ∈ Lib.decDigits (rdV s).natAbs := by
        rw [h2, List.getD_eq_getElem?_getD, List.getElem?_eq_getElem hl]; exact List.getElem_mem hl
      have hcd := dec_dig _ _ (Nat.le_refl (rdV s).natAbs) _ hm
      rw [hc] at hcd
      exact absurd hcd.1 (by decide)
    exact ⟨by rw [ht, h2], ⟨fun k => by rw [ht] at k; omega, fun k => by omega⟩⟩

theorem dFrom_bd : ∀ (l : List UInt8) (acc m : Nat), Lib.decFrom acc l = some m → m < (acc + 1) * 10 ^ l.length
  | [], acc, m, h => by simp only [Lib.decFrom, Option.some.injEq] at h; subst h; simp
  | c :: l, acc, m, h => by
    unfold Lib.decFrom at h
    split at h
    · rename_i d hd
      have := dFrom_bd l _ m h
      have hdd : d ≤ 9 := by
        unfold Lib.digitVal at hd
        split at hd
        · have := Option.some.inj hd; omega
        · cases hd
      rw [List.length_cons, Nat.pow_succ]
      refine Nat.lt_of_lt_of_le this ?_
      calc (acc * 10 + d + 1) * 10 ^ l.length ≤ ((acc + 1) * 10) * 10 ^ l.length := Nat.mul_le_mul_right _ (by omega)
        _ = (acc + 1) * (10 ^ l.length * 10) := by rw [Nat.mul_assoc, Nat.mul_comm 10]
    · cases h
theorem dFrom_6 {l : List UInt8} {m : Nat} (h : Lib.decFrom 0 l = some m) (hl : l.length ≤ 6) : m ≤ 999999 := by
  have h1 := dFrom_bd l 0 m h
  have h2 : 10 ^ l.length ≤ 10 ^ 6 := Nat.pow_le_pow_right (by omega) hl
  omega
theorem dFrom_snoc {t : List UInt8} {i m : Nat} (hi : i < t.length) (h : Lib.decFrom 0 (t.take i) = some m) (h1 : 48 ≤ (t.getD i 0).toNat) (h2 : (t.getD i 0).toNat ≤ 57) : Lib.decFrom 0 (t.take (i + 1)) = some (m * 10 + ((t.getD i 0).toNat - 48)) := by
  have e : t.take (i + 1) = t.take i ++ [t.getD i 0] := by
    rw [List.take_add_one, List.getElem?_eq_getElem hi, List.getD_eq_getElem?_getD, List.getElem?_eq_getElem hi]; rfl
  rw [e, dFrom_app, h, Option.bind_some]
  unfold Lib.decFrom
  have hd : Lib.digitVal (t.getD i 0) = some ((t.getD i 0).toNat - 48) := by
    unfold Lib.digitVal; rw [if_pos ⟨h1, h2⟩]
  rw [hd]; rfl
theorem tail_y {s : List UInt8} (h1 : 1 < (s.length : Int)) (h2 : ((s.getD (Int.toNat 0) 0).toNat : Int) = 45) : List.take ((s.length : Int).toNat - Int.toNat 1) (List.drop (Int.toNat 1) s) = tailM s := by
  have e : s.getD 0 0 = 45 := by
    apply UInt8.toNat_inj.1
    have h3 : ((s.getD 0 0).toNat : Int) = 45 := h2
    show (s.getD 0 0).toNat = 45
    omega
  unfold tailM
  rw [if_pos ⟨by omega, e⟩, show Int.toNat 1 = 1 from rfl, List.take_of_length_le (by rw [List.length_drop]; omega)]
theorem tail_n {s : List UInt8} (h : ¬ (1 < (s.length : Int) ∧ ((s.getD (Int.toNat 0) 0).toNat : Int) = 45)) : s = tailM s := by
  unfold tailM
  rw [if_neg]
  rintro ⟨h1, h2⟩
  refine h ⟨by omega, ?_⟩
  show ((s.getD 0 0).toNat : Int) = 45
  rw [h2]; rfl
theorem rd_not {s : List UInt8} (h : ¬ Lib.atoiAll s = .ok (rdV s)) : ∀ v, Lib.atoiAll s ≠ .ok v := fun v hv => h (by
  have e : rdV s = v := by unfold rdV; rw [hv]
  rw [e]; exact hv)
theorem rd_tail {s : List UInt8} (h : RdP s) : (1 ≤ (tailM s).length ∧ (tailM s).length ≤ 6) ∧ (∀ i, i < (tailM s).length → 48 ≤ ((tailM s).getD i 0).toNat ∧ ((tailM s).getD i 0).toNat ≤ 57) ∧ Lib.decFrom 0 (tailM s) = some (rdV s).natAbs := by
  obtain ⟨h1, _⟩ := tailM_of h
  have hb := h.1
  rw [h1]
  refine ⟨⟨List.length_pos_iff.2 (dec_ne _), dec_len 6 _ (by decide) (by omega)⟩, fun i hi => ?_, dFrom_dec _ _ (Nat.le_refl _)⟩
  refine dec_dig (rdV s).natAbs (rdV s).natAbs (Nat.le_refl _) _ ?_
  rw [List.getD_eq_getElem?_getD, List.getElem?_eq_getElem hi]; exact List.getElem_mem hi

theorem atoi_Y (s : List UInt8) (hl : s.length ≤ 1048576) (v : Int) (h : Lib.atoiAll s = .ok v) : PCalls Tryd.prog 30 [.str s] (· = [.val (.int .i64 v), .val (.cst 1)]) := by
  refine pcalls_flatG (enters_of Tryd.func30 (by kernel_rfl) rfl) fun w vs hg ha => ?_
  obtain ⟨v0, r0, rfl, ha0, ha⟩ := repArgs_cons ha
  obtain rfl := repArgs_nil ha
  simp only [Rep] at ha0
  subst ha0
  refine (Tryd.strconv_Atoi_ok (.mk s.toArray) (by show s.toArray.size ≤ _; simp; omega) v (by simpa using h) w).mono fun e w' ⟨he, hw⟩ => ⟨[.int .i64 v, .nilIface], [.int .i64 v, .cst 1], he, ?_, ⟨_, _, rfl, by simp [Rep], _, _, rfl, by simp [Rep, cstV], rfl⟩, rfl⟩
  rcases hw with rfl | ⟨t, rfl⟩
  · exact Below.refl _ _
  · exact Lib.bytesWorld_below _ _ _
theorem atoi_N (s : List UInt8) (hl : s.length ≤ 1048576) (h : ∀ v, Lib.atoiAll s ≠ .ok v) : PCalls Tryd.prog 30 [.str s] (fun rs => ∃ v : Int, rs = [.val (.int .i64 v), .val .ifc]) := by
  refine pcalls_flatG (enters_of Tryd.func30 (by kernel_rfl) rfl) fun w vs hg ha => ?_
  obtain ⟨v0, r0, rfl, ha0, ha⟩ := repArgs_cons ha
  obtain rfl := repArgs_nil ha
  simp only [Rep] at ha0
  subst ha0
  have cel : ∀ g, glob g = some [.ifc] → ∃ t u, w.cell? ⟨g, 0, none⟩ = some (.iface t u) := fun g hgl => by
    obtain ⟨vs, ⟨e, fr, h1⟩, _, v, r, rfl, _, ⟨t, u, rfl⟩, _⟩ := hg g [.ifc] hgl
    exact ⟨t, u, by rw [cell_of_row w _ 0 _ e fr h1]; rfl⟩
  rcases hc : Lib.atoiAll s with v | _ | _
  · exact absurd hc (h v)
  ·
    obtain ⟨t, u, hcl⟩ := cel 0 rfl
    refine (Any.strconv_Atoi_syntax Tryd.laysC172 (.mk s.toArray) (by show s.toArray.size ≤ _; simp; omega) (by simpa using hc) _ w hcl (.inr ⟨t, u, rfl⟩)).mono fun e w' ⟨N, he, _, _, hw⟩ => ⟨[.int .i64 0, .iface _ _], [.int .i64 0, .ifc], he, hw, ⟨_, _, rfl, by simp [Rep], _, _, rfl, ⟨_, _, rfl⟩, rfl⟩, ⟨0, rfl⟩⟩
  ·
    obtain ⟨t, u, hcl⟩ := cel 1 rfl
    refine (Any.strconv_Atoi_range Tryd.laysC172 (.mk s.toArray) (by show s.toArray.size ≤ _; simp; omega) (by simpa using hc) _ w hcl (.inr ⟨t, u, rfl⟩)).mono fun e w' ⟨N, he, _, _, hw⟩ => ⟨[.int .i64 (Lib.atoiSat s), .iface _ _], [.int .i64 (Lib.atoiSat s), .ifc], he, hw, ⟨_, _, rfl, by simp [Rep], _, _, rfl, ⟨_, _, rfl⟩, rfl⟩, ⟨_, rfl⟩⟩

set_option maxRecDepth 4000 in
theorem impl_ParseInt (s : List UInt8) (hl : s.length ≤ 1048576) : PCalls Tryd.prog 12 [.str s] (· = [.val (.int .i64 (if RdP s then rdV s else 0)), .val (.bool (decide (RdP s)))]) := by
  refine pcalls_of_code (n := 28) az Tryd.func12 (by kernel_rfl) rfl rfl (Nat.le_of_ble_eq_true rfl) (by intro t u h; simp [Tryd.f12] at h) ?_
  refine code_seq (fun K1 hK1 => ?_)
  refine code_region ?_
  refine list_cons rfl (op_q (q_assign rfl (by decide)) ?_)
  refine list_cons rfl (op_q (q_assign rfl (by decide)) ?_)
  refine list_nil ?_
  refine hK1 _ ?_; clear hK1 K1
  refine code_seq (fun K2 hK2 => ?_)
  refine code_region ?_
  refine list_cons rfl (op_q (q_move rfl (by decide)) ?_)
  by_cases h1 : Lib.atoiAll s = .ok (rdV s)
  · skip
    refine list_cons rfl (op_call _ (atoi_Y s hl _ h1) rfl rfl (by decide) (by decide) (by decide) rfl ?_)
    rintro _ rfl
    refine list_cons rfl (op_q (q_move rfl (by decide)) ?_)
    refine list_cons rfl (op_q (q_extract rfl rfl (by decide)) ?_)
    refine list_cons rfl (op_q (q_extract rfl rfl (by decide)) ?_)
    refine list_cons rfl (op_q (q_assign rfl (by decide)) ?_)
    refine list_cons rfl (op_q (q_assign rfl (by decide)) ?_)
    refine list_nil ?_
    refine hK2 _ ?_; clear hK2 K2
    refine codeT.imp (σ' := [(0, _), (2, _), (3, _), (4, _), (5, _)]) ?_ (imp_covers ⟨rfl, rfl, rfl, rfl, rfl, trivial⟩)
    refine code_seq (fun K3 hK3 => ?_)
    refine code_seq (fun K4 hK4 => ?_)
    refine code_region ?_
    refine list_cons rfl (op_q (q_move rfl (by decide)) ?_)
    refine list_cons rfl (op_q (q_ifne Tryd.underlying49 rfl (.inr ⟨rfl, rfl⟩) (by decide)) ?_)
    refine list_nil ?_
    refine hK4 _ ?_; clear hK4 K4
    refine code_cond_f rfl ?_
    refine code_skip ?_
    refine hK3 _ ?_; clear hK3 K3
    refine code_seq (fun K5 hK5 => ?_)
    refine code_region ?_
    refine list_cons rfl (op_q (q_move rfl (by decide)) ?_)
    refine list_cons rfl (op_call _ (impl_FormatInt _) rfl rfl (by decide) (by decide) (by decide) rfl ?_)
    rintro _ rfl
    refine list_cons rfl (op_q (q_move rfl (by decide)) ?_)
    refine list_cons rfl (op_q (q_extract rfl rfl (by decide)) ?_)
    refine list_cons rfl (op_q (q_extract rfl rfl (by decide)) ?_)
    refine list_cons rfl (op_q (q_assign rfl (by decide)) ?_)
    refine list_cons rfl (op_q (q_assign rfl (by decide)) ?_)
    refine list_nil ?_
    refine hK5 _ ?_; clear hK5 K5
    refine codeT.imp (σ' := [(0, _), (2, _), (3, _), (4, _), (5, _), (6, _), (7, _)]) ?_ (imp_covers ⟨rfl, rfl, rfl, rfl, rfl, rfl, rfl, trivial⟩)
    refine code_seq (fun K6 hK6 => ?_)
    refine code_seq (fun K7 hK7 => ?_)
    refine code_region ?_
    refine list_cons rfl (op_q (q_move rfl (by decide)) ?_)
    refine list_cons rfl (op_q (by first | exact q_notd rfl (by decide) | exact q_not rfl (by decide)) ?_)
    refine list_cons rfl (op_q (q_move rfl (by decide)) ?_)
    refine list_guard_d rfl rfl rfl rfl (by decide) rfl (by decide) (fun h2 => ?_) (fun h2 => ?_)
    · simp only [Bool.false_eq_true, if_true, if_false, Decidable.not_not] at h2
      refine id (op_q (q_move rfl (by decide)) ?_)
      refine list_guard_y rfl rfl rfl rfl (by decide) rfl ?_
      refine id (op_q (q_move rfl (by decide)) ?_)
      refine list_guard_y rfl rfl rfl rfl (by decide) rfl ?_
      refine id (op_q (q_sne rfl rfl (by decide)) ?_)
      refine list_cons rfl (op_q (q_pick rfl rfl (by decide)) ?_)
      refine list_nil ?_
      refine hK7 _ ?_; clear hK7 K7
      refine code_cond_d rfl (fun h3 => ?_) (fun h3 => ?_)
      · skip
        (try simp only [Decidable.not_not] at h3)
        refine code_seq (fun K8 hK8 => ?_)
        refine code_region ?_
        refine list_cons rfl (op_q (q_assign rfl (by decide)) ?_)
        refine list_cons rfl (op_q (q_assign rfl (by decide)) ?_)
        refine list_nil ?_
        refine hK8 _ ?_; clear hK8 K8
        refine codeT.imp (σ' := [(0, _), (2, _), (3, _), (4, _), (5, _), (6, _), (7, _)]) ?_ (imp_covers ⟨rfl, rfl, rfl, rfl, rfl, rfl, rfl, trivial⟩)
        refine code_ret ?_
        refine then_r ?_; clear hK6 K6
        refine ends_ret (cs := []) rfl rfl rfl rfl trivial ?_
        first
          | (have e : ¬ RdP s := fun e => absurd (rd_ok e) (by assumption)
             rw [if_neg e, decide_eq_false e]; done)
          | (have e : ¬ RdP s := fun e => absurd e.1 (by assumption)
             rw [if_neg e, decide_eq_false e]; done)
          | (have hx := h3
             have hb : -999999 ≤ rdV s ∧ rdV s ≤ 999999 := (by assumption)
             unfold fmtN at hx
             rw [if_pos hb] at hx
             have e : ¬ RdP s := fun e => hx e.2
             rw [if_neg e, decide_eq_false e]; done)
          | (have hx := h3
             have hb : -999999 ≤ rdV s ∧ rdV s ≤ 999999 := (by assumption)
             unfold fmtN at hx
             rw [if_pos hb] at hx
             have e : RdP s := ⟨hb, hx⟩
             rw [if_pos e, decide_eq_true e]; done)
      (try simp only [Decidable.not_not] at h3)
      refine code_skip ?_
      refine hK6 _ ?_; clear hK6 K6
      refine codeT.imp (σ' := [(0, _), (2, _), (3, _), (4, _), (5, _), (6, _), (7, _)]) ?_ (imp_covers ⟨rfl, rfl, rfl, rfl, rfl, rfl, rfl, trivial⟩)
      refine code_seq (fun K9 hK9 => ?_)
      refine code_region ?_
      refine list_cons rfl (op_q (q_move rfl (by decide)) ?_)
      refine list_cons rfl (op_q (q_assign rfl (by decide)) ?_)
      refine list_cons rfl (op_q (q_assign rfl (by decide)) ?_)
      refine list_nil ?_
      refine hK9 _ ?_; clear hK9 K9
      refine code_ret ?_
      refine ends_ret (cs := []) rfl rfl rfl rfl trivial ?_
      first
        | (have e : ¬ RdP s := fun e => absurd (rd_ok e) (by assumption)
           rw [if_neg e, decide_eq_false e]; done)
        | (have e : ¬ RdP s := fun e => absurd e.1 (by assumption)
           rw [if_neg e, decide_eq_false e]; done)
        | (have hx := h3
           have hb : -999999 ≤ rdV s ∧ rdV s ≤ 999999 := (by assumption)
           unfold fmtN at hx
           rw [if_pos hb] at hx
           have e : ¬ RdP s := fun e => hx e.2
           rw [if_neg e, decide_eq_false e]; done)
        | (have hx := h3
           have hb : -999999 ≤ rdV s ∧ rdV s ≤ 999999 := (by assumption)
           unfold fmtN at hx
           rw [if_pos hb] at hx
           have e : RdP s := ⟨hb, hx⟩
           rw [if_pos e, decide_eq_true e]; done)
    simp only [Bool.false_eq_true, if_true, if_false, Decidable.not_not] at h2
    refine list_guard_n rfl rfl rfl rfl (by decide) rfl ?_
    refine list_guard_n rfl rfl rfl rfl (by decide) rfl ?_
    refine list_cons rfl (op_q (q_pick rfl rfl (by decide)) ?_)
    refine list_nil ?_
    refine hK7 _ ?_; clear hK7 K7
    refine code_cond_t rfl ?_
    refine code_seq (fun K10 hK10 => ?_)
    refine code_region ?_
    refine list_cons rfl (op_q (q_assign rfl (by decide)) ?_)
    refine list_cons rfl (op_q (q_assign rfl (by decide)) ?_)
    refine list_nil ?_
    refine hK10 _ ?_; clear hK10 K10
    refine code_ret ?_
    refine then_r ?_; clear hK6 K6
    refine ends_ret (cs := []) rfl rfl rfl rfl trivial ?_
    first
      | (have e : ¬ RdP s := fun e => absurd (rd_ok e) (by assumption)
         rw [if_neg e, decide_eq_false e]; done)
      | (have e : ¬ RdP s := fun e => absurd e.1 (by assumption)
         rw [if_neg e, decide_eq_false e]; done)
      | (have hx := h2
         have hb : -999999 ≤ rdV s ∧ rdV s ≤ 999999 := (by assumption)
         unfold fmtN at hx
         rw [if_pos hb] at hx
         have e : ¬ RdP s := fun e => hx e.2
         rw [if_neg e, decide_eq_false e]; done)
      | (have hx := h2
         have hb : -999999 ≤ rdV s ∧ rdV s ≤ 999999 := (by assumption)
         unfold fmtN at hx
         rw [if_pos hb] at hx
         have e : RdP s := ⟨hb, hx⟩
         rw [if_pos e, decide_eq_true e]; done)
  · skip
    refine list_cons rfl (op_call _ (atoi_N s hl (rd_not h1)) rfl rfl (by decide) (by decide) (by decide) rfl ?_)
    rintro _ ⟨v, rfl⟩
    refine list_cons rfl (op_q (q_move rfl (by decide)) ?_)
    refine list_cons rfl (op_q (q_extract rfl rfl (by decide)) ?_)
    refine list_cons rfl (op_q (q_extract rfl rfl (by decide)) ?_)
    refine list_cons rfl (op_q (q_assign rfl (by decide)) ?_)
    refine list_cons rfl (op_q (q_assign rfl (by decide)) ?_)
    refine list_nil ?_
    refine hK2 _ ?_; clear hK2 K2
    refine codeT.imp (σ' := [(0, _), (2, _), (3, _), (4, _), (5, _)]) ?_ (imp_covers ⟨rfl, rfl, rfl, rfl, rfl, trivial⟩)
    refine code_seq (fun K11 hK11 => ?_)
    refine code_seq (fun K12 hK12 => ?_)
    refine code_region ?_
    refine list_cons rfl (op_q (q_move rfl (by decide)) ?_)
    refine list_cons rfl (op_q (q_ifne Tryd.underlying49 rfl (.inl ⟨rfl, rfl⟩) (by decide)) ?_)
    refine list_nil ?_
    refine hK12 _ ?_; clear hK12 K12
    refine code_cond_t rfl ?_
    refine code_seq (fun K13 hK13 => ?_)
    refine code_region ?_
    refine list_cons rfl (op_q (q_assign rfl (by decide)) ?_)
    refine list_cons rfl (op_q (q_assign rfl (by decide)) ?_)
    refine list_nil ?_
    refine hK13 _ ?_; clear hK13 K13
    refine code_ret ?_
    refine then_r ?_; clear hK11 K11
    refine ends_ret (cs := []) rfl rfl rfl rfl trivial ?_
    first
      | (have e : ¬ RdP s := fun e => absurd (rd_ok e) (by assumption)
         rw [if_neg e, decide_eq_false e]; done)
      | (have e : ¬ RdP s := fun e => absurd e.1 (by assumption)
         rw [if_neg e, decide_eq_false e]; done)
      | (have hx := h1
         have hb : -999999 ≤ rdV s ∧ rdV s ≤ 999999 := (by assumption)
         unfold fmtN at hx
         rw [if_pos hb] at hx
         have e : ¬ RdP s := fun e => hx e.2
         rw [if_neg e, decide_eq_false e]; done)
      | (have hx := h1
         have hb : -999999 ≤ rdV s ∧ rdV s ≤ 999999 := (by assumption)
         unfold fmtN at hx
         rw [if_pos hb] at hx
         have e : RdP s := ⟨hb, hx⟩
         rw [if_pos e, decide_eq_true e]; done)

set_option maxRecDepth 8000 in
set_option maxHeartbeats 1000000 in
theorem spec_l1Read (s : List UInt8) (hl : s.length ≤ 1048576) : PCalls Tryd.prog 31 [.str s] (· = [.val (.int .i64 (if RdP s then rdV s else 0)), .val (.bool (decide (RdP s)))]) := by
  refine pcalls_of_code (n := 58) az Tryd.func31 (by kernel_rfl) rfl rfl (Nat.le_of_ble_eq_true rfl) (by intro t u h; simp [Tryd.f31] at h) ?_
  refine code_seq (fun K1 hK1 => ?_)
  refine code_region ?_
  refine list_cons rfl (op_q (q_assign rfl (by decide)) ?_)
  refine list_cons rfl (op_q (q_assign rfl (by decide)) ?_)
  refine list_nil ?_
  refine hK1 _ ?_; clear hK1 K1
  refine code_seq (fun K2 hK2 => ?_)
  refine code_region ?_
  refine list_cons rfl (op_q (q_move rfl (by decide)) ?_)
  refine list_cons rfl (op_q (q_assign rfl (by decide)) ?_)
  refine list_nil ?_
  refine hK2 _ ?_; clear hK2 K2
  refine code_seq (fun K3 hK3 => ?_)
  refine code_seq (fun K4 hK4 => ?_)
  refine code_region ?_
  refine list_cons rfl (op_q (q_move rfl (by decide)) ?_)
  refine list_cons rfl (op_q (q_len_str Tryd.underlying9 rfl (by decide)) ?_)
  refine list_cons rfl (op_q (q_gt rfl rfl (by decide)) ?_)
  refine list_cons rfl (op_q (q_move rfl (by decide)) ?_)
  refine list_guard_d rfl rfl rfl rfl (by decide) rfl (by decide) (fun h1 => ?_) (fun h1 => ?_)
  · simp only [Bool.false_eq_true, if_true, if_false, Decidable.not_not] at h1
    (try simp only [Decidable.not_not] at h1)
    refine id (op_q (q_move rfl (by decide)) ?_)
    refine list_guard_y rfl rfl rfl rfl (by decide) rfl ?_
    refine id (op_q (q_index_str Tryd.underlying9 rfl rfl (by omega) (by omega) (by decide)) ?_)
    refine list_guard_y rfl rfl rfl rfl (by decide) rfl ?_
    refine id (op_q (q_eq rfl rfl (by decide)) ?_)
    refine list_cons rfl (op_q (q_pick rfl rfl (by decide)) ?_)
    refine list_nil ?_
    refine hK4 _ ?_; clear hK4 K4
    refine codeT.imp (σ' := [(0, _), (2, _), (3, _), (4, _), (15, _)]) ?_ (imp_covers ⟨rfl, rfl, rfl, rfl, rfl, trivial⟩)
    refine code_cond_d rfl (fun h2 => ?_) (fun h2 => ?_)
    · skip
      (try simp only [Decidable.not_not] at h2)
      refine code_region ?_
      refine list_cons rfl (op_q (q_move rfl (by decide)) ?_)
      refine list_cons rfl (op_q (q_slice_str Tryd.underlying9 rfl ⟨_, rfl⟩ rfl (by omega) (by omega) (by omega) (by decide)) ?_)
      refine list_cons rfl (op_q (q_assign rfl (by decide)) ?_)
      refine list_nil ?_
      refine hK3 _ ?_; clear hK3 K3
      refine code_seq (fun K5 hK5 => ?_)
      refine code_seq (fun K6 hK6 => ?_)
      refine code_region ?_
      refine list_cons rfl (op_q (q_move rfl (by decide)) ?_)
      refine list_cons rfl (op_q (q_len_str Tryd.underlying9 rfl (by decide)) ?_)
      refine list_cons rfl (op_call _ (spec_l1In _ _ _) rfl rfl (by decide) (by decide) (by decide) rfl ?_)
      rintro _ rfl
      refine list_cons rfl (op_q (by first | exact q_notd rfl (by decide) | exact q_not rfl (by decide)) ?_)
      refine list_nil ?_
      refine hK6 _ ?_; clear hK6 K6
      refine codeT.imp (σ' := [(0, _), (2, _), (3, _), (4, _), (21, _)]) ?_ (imp_covers ⟨rfl, rfl, rfl, rfl, rfl, trivial⟩)
      refine code_cond_d rfl (fun h3 => ?_) (fun h3 => ?_)
      · skip
        (try simp only [Decidable.not_not] at h3)
        refine code_seq (fun K7 hK7 => ?_)
        refine code_region ?_
        refine list_cons rfl (op_q (q_assign rfl (by decide)) ?_)
        refine list_cons rfl (op_q (q_assign rfl (by decide)) ?_)
        refine list_nil ?_
        refine hK7 _ ?_; clear hK7 K7
        refine code_ret ?_
        refine then_r ?_; clear hK5 K5
        refine ends_ret (cs := []) rfl rfl rfl rfl trivial ?_
        first
          | (have e : ¬ RdP s := fun e => by
               have k := (rd_tail e).1
               first
               | (rw [← tail_y (by assumption) (by assumption)] at k; omega)
               | (rw [← tail_n (fun e => absurd e.2 (by assumption))] at k; omega)
               | (rw [← tail_n (fun e => absurd e.1 (by assumption))] at k; omega)
             rw [if_neg e, decide_eq_false e]; done)
          | (have e : ¬ RdP s := fun e => by
               have k := (rd_tail e).2.1 i.toNat (by rw [← ht]; omega)
               rw [← ht] at k
               omega
             rw [if_neg e, decide_eq_false e]; done)
          | (have hx := h3
             have hlen : i.toNat = t.length := by omega
             rw [hlen, List.take_length] at hm
             have e : ¬ RdP s := fun e => by
               have k1 := (rd_tail e).2.2
               have k2 := (tailM_of e).2
               rw [← ht] at k1 k2
               rw [hm] at k1
               have k3 : m = (rdV s).natAbs := Option.some.inj k1
               refine hx ?_
               first
               | (rw [show -(m : Int) = rdV s by omega]; exact e.2)
               | (rw [show (m : Int) = rdV s by omega]; exact e.2)
             rw [if_neg e, decide_eq_false e]; done)
          | (have hx := h3
             have e := rd_of (by constructor <;> omega) hx
             rw [if_pos e.1, decide_eq_true e.1, e.2]; done)
      (try simp only [Decidable.not_not] at h3)
      refine code_skip ?_
      refine hK5 _ ?_; clear hK5 K5
      refine code_seq (fun K8 hK8 => ?_)
      refine code_region ?_
      refine list_cons rfl (op_q (q_assign rfl (by decide)) ?_)
      refine list_nil ?_
      refine hK8 _ ?_; clear hK8 K8
      refine code_seq (fun K9 hK9 => ?_)
      refine code_seq (fun K10 hK10 => ?_)
      refine code_region ?_
      refine list_cons rfl (op_q (q_assign rfl (by decide)) ?_)
      refine list_nil ?_
      refine hK10 _ ?_; clear hK10 K10
      refine code_block ?_
      refine code_loop (X := Int × Bool × List UInt8 × Int × Int) (fun x => [(0, .val (.str s)), (2, .val (.int .i64 x.1)), (3, .val (.bool x.2.1)), (4, .val (.str x.2.2.1)), (5, .val (.int .i64 x.2.2.2.1)), (6, .val (.int .i64 x.2.2.2.2))]) (fun x => x.2.2.1 = tailM s ∧ (1 ≤ x.2.2.1.length ∧ x.2.2.1.length ≤ 6) ∧ (0 ≤ x.2.2.2.2 ∧ x.2.2.2.2 ≤ x.2.2.1.length) ∧ ∃ m : Nat, x.2.2.2.1 = (m : Int) ∧ Lib.decFrom 0 (x.2.2.1.take x.2.2.2.2.toNat) = some m) (fun x => (x.2.2.1.length - x.2.2.2.2).toNat) (_, _, _, _, _) (imp_covers ⟨rfl, rfl, rfl, rfl, rfl, rfl, trivial⟩) ?_ ?_
      · (try dsimp only)
        first
        | exact ⟨tail_y (by assumption) (by assumption), ⟨by omega, by omega⟩, ⟨by omega, by omega⟩, 0, rfl, rfl⟩
        | exact ⟨tail_n (fun e => absurd e.2 (by assumption)), ⟨by omega, by omega⟩, ⟨by omega, by omega⟩, 0, rfl, rfl⟩
        | exact ⟨tail_n (fun e => absurd e.1 (by assumption)), ⟨by omega, by omega⟩, ⟨by omega, by omega⟩, 0, rfl, rfl⟩
      · intro x hI
        obtain ⟨t2, t3, t, n, i⟩ := x
        replace hI : t = tailM s ∧ (1 ≤ t.length ∧ t.length ≤ 6) ∧ (0 ≤ i ∧ i ≤ t.length) ∧ ∃ m : Nat, n = (m : Int) ∧ Lib.decFrom 0 (t.take i.toNat) = some m := hI
        show codeT _ _ _ [(0, .val (.str s)), (2, .val (.int .i64 t2)), (3, .val (.bool t3)), (4, .val (.str t)), (5, .val (.int .i64 n)), (6, .val (.int .i64 i))] _
        obtain ⟨ht, i0, i1, m, rfl, hm⟩ := hI
        have hm6 := dFrom_6 hm (by rw [List.length_take]; omega)
        refine code_seq (fun K11 hK11 => ?_)
        refine code_seq (fun K12 hK12 => ?_)
        refine code_region ?_
        refine list_cons rfl (op_q (q_move rfl (by decide)) ?_)
        refine list_cons rfl (op_q (q_move rfl (by decide)) ?_)
        refine list_cons rfl (op_q (q_len_str Tryd.underlying9 rfl (by decide)) ?_)
        refine list_cons rfl (op_q (q_lt rfl rfl (by decide)) ?_)
        refine list_nil ?_
        refine hK12 _ ?_; clear hK12 K12
        refine code_cond_d rfl (fun h4 => ?_) (fun h4 => ?_)
        · skip
          (try simp only [Decidable.not_not] at h4)
          refine code_skip ?_
          refine hK11 _ ?_; clear hK11 K11
          refine code_seq (fun K13 hK13 => ?_)
          refine code_block ?_
          refine code_seq (fun K14 hK14 => ?_)
          refine code_seq (fun K15 hK15 => ?_)
          refine code_region ?_
          refine list_cons rfl (op_q (q_move rfl (by decide)) ?_)
          refine list_cons rfl (op_q (q_move rfl (by decide)) ?_)
          refine list_cons rfl (op_q (q_index_str Tryd.underlying9 rfl rfl (by omega) (by omega) (by decide)) ?_)
          refine list_cons rfl (op_q (q_lt rfl rfl (by decide)) ?_)
          refine list_cons rfl (op_q (q_move rfl (by decide)) ?_)
          refine list_guard_d rfl rfl rfl rfl (by decide) rfl (by decide) (fun h5 => ?_) (fun h5 => ?_)
          · simp only [Bool.false_eq_true, if_true, if_false, Decidable.not_not] at h5
            (try simp only [Decidable.not_not] at h5)
            refine id (op_q (q_move rfl (by decide)) ?_)
            refine list_guard_y rfl rfl rfl rfl (by decide) rfl ?_
            refine id (op_q (q_move rfl (by decide)) ?_)
            refine list_guard_y rfl rfl rfl rfl (by decide) rfl ?_
            refine id (op_q (q_index_str Tryd.underlying9 rfl rfl (by omega) (by omega) (by decide)) ?_)
            refine list_guard_y rfl rfl rfl rfl (by decide) rfl ?_
            refine id (op_q (q_gt rfl rfl (by decide)) ?_)
            refine list_cons rfl (op_q (q_pick rfl rfl (by decide)) ?_)
            refine list_nil ?_
            refine hK15 _ ?_; clear hK15 K15
            refine codeT.imp (σ' := [(0, _), (2, _), (3, _), (4, _), (5, _), (6, _), (37, _)]) ?_ (imp_covers ⟨rfl, rfl, rfl, rfl, rfl, rfl, rfl, trivial⟩)
            refine code_cond_d rfl (fun h6 => ?_) (fun h6 => ?_)
            · skip
              (try simp only [Decidable.not_not] at h6)
              refine code_seq (fun K16 hK16 => ?_)
              refine code_region ?_
              refine list_cons rfl (op_q (q_assign rfl (by decide)) ?_)
              refine list_cons rfl (op_q (q_assign rfl (by decide)) ?_)
              refine list_nil ?_
              refine hK16 _ ?_; clear hK16 K16
              refine code_ret ?_
              refine then_r ?_; clear hK14 K14
              refine blk_r ?_
              refine then_r ?_; clear hK13 K13
              refine then_r ?_
              refine blk_r ?_
              refine then_r ?_; clear hK9 K9
              refine ends_ret (cs := []) rfl rfl rfl rfl trivial ?_
              first
                | (have e : ¬ RdP s := fun e => by
                     have k := (rd_tail e).1
                     first
                     | (rw [← tail_y (by assumption) (by assumption)] at k; omega)
                     | (rw [← tail_n (fun e => absurd e.2 (by assumption))] at k; omega)
                     | (rw [← tail_n (fun e => absurd e.1 (by assumption))] at k; omega)
                   rw [if_neg e, decide_eq_false e]; done)
                | (have e : ¬ RdP s := fun e => by
                     have k := (rd_tail e).2.1 i.toNat (by rw [← ht]; omega)
                     rw [← ht] at k
                     omega
                   rw [if_neg e, decide_eq_false e]; done)
                | (have hx := h6
                   have hlen : i.toNat = t.length := by omega
                   rw [hlen, List.take_length] at hm
                   have e : ¬ RdP s := fun e => by
                     have k1 := (rd_tail e).2.2
                     have k2 := (tailM_of e).2
                     rw [← ht] at k1 k2
                     rw [hm] at k1
                     have k3 : m = (rdV s).natAbs := Option.some.inj k1
                     refine hx ?_
                     first
                     | (rw [show -(m : Int) = rdV s by omega]; exact e.2)
                     | (rw [show (m : Int) = rdV s by omega]; exact e.2)
                   rw [if_neg e, decide_eq_false e]; done)
                | (have hx := h6
                   have e := rd_of (by constructor <;> omega) hx
                   rw [if_pos e.1, decide_eq_true e.1, e.2]; done)
            (try simp only [Decidable.not_not] at h6)
            refine code_skip ?_
            refine hK14 _ ?_; clear hK14 K14
            refine code_region ?_
            refine list_cons rfl (op_q (q_move rfl (by decide)) ?_)
            refine list_cons rfl (op_q (by first | exact q_mulI rfl rfl (by decide) (by omega) (by omega) | exact q_ib rfl rfl rfl (by decide)) ?_)
            refine list_cons rfl (op_q (q_move rfl (by decide)) ?_)
            refine list_cons rfl (op_q (q_move rfl (by decide)) ?_)
            refine list_cons rfl (op_q (q_index_str Tryd.underlying9 rfl rfl (by omega) (by omega) (by decide)) ?_)
            refine list_cons rfl (op_q (by first | exact q_subB rfl rfl (by decide) (by omega) (by omega) | exact q_ib rfl rfl rfl (by decide)) ?_)
            refine list_cons rfl (op_q (by first | exact q_convB (by rw [Tryd.underlying5]; rfl) Tryd.underlying3 rfl (by decide) | exact q_convI (by rw [Tryd.underlying5]; rfl) Tryd.underlying3 rfl (by decide) (by omega) (by omega) | exact q_conv (by rw [Tryd.underlying5]; rfl) Tryd.underlying3 rfl (by decide)) ?_)
            refine list_cons rfl (op_q (by first | exact q_addI rfl rfl (by decide) (by omega) (by omega) | exact q_ib rfl rfl rfl (by decide)) ?_)
            refine list_cons rfl (op_q (q_assign rfl (by decide)) ?_)
            refine list_nil ?_
            refine blk_n ?_
            refine hK13 _ ?_; clear hK13 K13
            refine codeT.imp (σ' := [(0, _), (2, _), (3, _), (4, _), (5, _), (6, _)]) ?_ (imp_covers ⟨rfl, rfl, rfl, rfl, rfl, rfl, trivial⟩)
            refine code_region ?_
            refine list_cons rfl (op_q (q_move rfl (by decide)) ?_)
            refine list_cons rfl (op_q (by first | exact q_addI rfl rfl (by decide) (by omega) (by omega) | exact q_ib rfl rfl rfl (by decide)) ?_)
            refine list_cons rfl (op_q (q_assign rfl (by decide)) ?_)
            refine list_nil ?_
            refine then_n ⟨(_, _, _, _, _), imp_covers ⟨rfl, rfl, rfl, rfl, rfl, rfl, trivial⟩, ?_, ?_⟩
            · (try dsimp only)
              have ha : 48 ≤ (t.getD i.toNat 0).toNat := by omega
              have hb : (t.getD i.toNat 0).toNat ≤ 57 := by omega
              have hsn := dFrom_snoc (by omega) hm ha hb
              exact ⟨ht, i0, ⟨by omega, by omega⟩, m * 10 + ((t.getD i.toNat 0).toNat - 48), by omega, by rw [show (i + 1).toNat = i.toNat + 1 by omega]; exact hsn⟩
            · (try dsimp only); omega
          simp only [Bool.false_eq_true, if_true, if_false, Decidable.not_not] at h5
          (try simp only [Decidable.not_not] at h5)
          refine list_guard_n rfl rfl rfl rfl (by decide) rfl ?_
          refine list_guard_n rfl rfl rfl rfl (by decide) rfl ?_
          refine list_guard_n rfl rfl rfl rfl (by decide) rfl ?_
          refine list_cons rfl (op_q (q_pick rfl rfl (by decide)) ?_)
          refine list_nil ?_
          refine hK15 _ ?_; clear hK15 K15
          refine codeT.imp (σ' := [(0, _), (2, _), (3, _), (4, _), (5, _), (6, _), (37, _)]) ?_ (imp_covers ⟨rfl, rfl, rfl, rfl, rfl, rfl, rfl, trivial⟩)
          refine code_cond_t rfl ?_
          refine code_seq (fun K17 hK17 => ?_)
          refine code_region ?_
          refine list_cons rfl (op_q (q_assign rfl (by decide)) ?_)
          refine list_cons rfl (op_q (q_assign rfl (by decide)) ?_)
          refine list_nil ?_
          refine hK17 _ ?_; clear hK17 K17
          refine code_ret ?_
          refine then_r ?_; clear hK14 K14
          refine blk_r ?_
          refine then_r ?_; clear hK13 K13
          refine then_r ?_
          refine blk_r ?_
          refine then_r ?_; clear hK9 K9
          refine ends_ret (cs := []) rfl rfl rfl rfl trivial ?_
          first
            | (have e : ¬ RdP s := fun e => by
                 have k := (rd_tail e).1
                 first
                 | (rw [← tail_y (by assumption) (by assumption)] at k; omega)
                 | (rw [← tail_n (fun e => absurd e.2 (by assumption))] at k; omega)
                 | (rw [← tail_n (fun e => absurd e.1 (by assumption))] at k; omega)
               rw [if_neg e, decide_eq_false e]; done)
            | (have e : ¬ RdP s := fun e => by
                 have k := (rd_tail e).2.1 i.toNat (by rw [← ht]; omega)
                 rw [← ht] at k
                 omega
               rw [if_neg e, decide_eq_false e]; done)
            | (have hx := h5
               have hlen : i.toNat = t.length := by omega
               rw [hlen, List.take_length] at hm
               have e : ¬ RdP s := fun e => by
                 have k1 := (rd_tail e).2.2
                 have k2 := (tailM_of e).2
                 rw [← ht] at k1 k2
                 rw [hm] at k1
                 have k3 : m = (rdV s).natAbs := Option.some.inj k1
                 refine hx ?_
                 first
                 | (rw [show -(m : Int) = rdV s by omega]; exact e.2)
                 | (rw [show (m : Int) = rdV s by omega]; exact e.2)
               rw [if_neg e, decide_eq_false e]; done)
            | (have hx := h5
               have e := rd_of (by constructor <;> omega) hx
               rw [if_pos e.1, decide_eq_true e.1, e.2]; done)
        (try simp only [Decidable.not_not] at h4)
        refine code_exit ?_
        refine then_x ?_; clear hK11 K11
        refine then_x ?_
        refine blk_hit ?_
        refine hK9 _ ?_; clear hK9 K9
        refine code_seq (fun K18 hK18 => ?_)
        refine code_seq (fun K19 hK19 => ?_)
        refine code_region ?_
        refine list_cons rfl (op_q (q_move rfl (by decide)) ?_)
        refine list_cons rfl (op_q (q_len_str Tryd.underlying9 rfl (by decide)) ?_)
        refine list_cons rfl (op_q (q_move rfl (by decide)) ?_)
        refine list_cons rfl (op_q (q_len_str Tryd.underlying9 rfl (by decide)) ?_)
        refine list_cons rfl (op_q (q_lt rfl rfl (by decide)) ?_)
        refine list_nil ?_
        refine hK19 _ ?_; clear hK19 K19
        refine codeT.imp (σ' := [(0, _), (2, _), (3, _), (4, _), (5, _), (6, _), (50, _)]) ?_ (imp_covers ⟨rfl, rfl, rfl, rfl, rfl, rfl, rfl, trivial⟩)
        refine code_cond_d rfl (fun h7 => ?_) (fun h7 => ?_)
        · skip
          (try simp only [Decidable.not_not] at h7)
          refine code_region ?_
          refine list_cons rfl (op_q (q_move rfl (by decide)) ?_)
          refine list_cons rfl (op_q (by first | exact q_negI rfl (by decide) (by omega) (by omega) | exact q_neg rfl (by decide)) ?_)
          refine list_cons rfl (op_q (q_assign rfl (by decide)) ?_)
          refine list_nil ?_
          refine hK18 _ ?_; clear hK18 K18
          refine code_seq (fun K20 hK20 => ?_)
          refine code_seq (fun K21 hK21 => ?_)
          refine code_region ?_
          refine list_cons rfl (op_q (q_move rfl (by decide)) ?_)
          refine list_cons rfl (op_call _ (l1Num_any _ (by omega) (by omega)) rfl rfl (by decide) (by decide) (by decide) rfl ?_)
          rintro _ rfl
          refine list_cons rfl (op_q (q_move rfl (by decide)) ?_)
          refine list_cons rfl (op_q (q_sne rfl rfl (by decide)) ?_)
          refine list_nil ?_
          refine hK21 _ ?_; clear hK21 K21
          refine codeT.imp (σ' := [(0, _), (2, _), (3, _), (4, _), (5, _), (6, _), (56, _)]) ?_ (imp_covers ⟨rfl, rfl, rfl, rfl, rfl, rfl, rfl, trivial⟩)
          refine code_cond_d rfl (fun h8 => ?_) (fun h8 => ?_)
          · skip
            (try simp only [Decidable.not_not] at h8)
            refine code_seq (fun K22 hK22 => ?_)
            refine code_region ?_
            refine list_cons rfl (op_q (q_assign rfl (by decide)) ?_)
            refine list_cons rfl (op_q (q_assign rfl (by decide)) ?_)
            refine list_nil ?_
            refine hK22 _ ?_; clear hK22 K22
            refine code_ret ?_
            refine then_r ?_; clear hK20 K20
            refine ends_ret (cs := []) rfl rfl rfl rfl trivial ?_
            first
              | (have e : ¬ RdP s := fun e => by
                   have k := (rd_tail e).1
                   first
                   | (rw [← tail_y (by assumption) (by assumption)] at k; omega)
                   | (rw [← tail_n (fun e => absurd e.2 (by assumption))] at k; omega)
                   | (rw [← tail_n (fun e => absurd e.1 (by assumption))] at k; omega)
                 rw [if_neg e, decide_eq_false e]; done)
              | (have e : ¬ RdP s := fun e => by
                   have k := (rd_tail e).2.1 i.toNat (by rw [← ht]; omega)
                   rw [← ht] at k
                   omega
                 rw [if_neg e, decide_eq_false e]; done)
              | (have hx := h8
                 have hlen : i.toNat = t.length := by omega
                 rw [hlen, List.take_length] at hm
                 have e : ¬ RdP s := fun e => by
                   have k1 := (rd_tail e).2.2
                   have k2 := (tailM_of e).2
                   rw [← ht] at k1 k2
                   rw [hm] at k1
                   have k3 : m = (rdV s).natAbs := Option.some.inj k1
                   refine hx ?_
                   first
                   | (rw [show -(m : Int) = rdV s by omega]; exact e.2)
                   | (rw [show (m : Int) = rdV s by omega]; exact e.2)
                 rw [if_neg e, decide_eq_false e]; done)
              | (have hx := h8
                 have e := rd_of (by constructor <;> omega) hx
                 rw [if_pos e.1, decide_eq_true e.1, e.2]; done)
          (try simp only [Decidable.not_not] at h8)
          refine code_skip ?_
          refine hK20 _ ?_; clear hK20 K20
          refine code_seq (fun K23 hK23 => ?_)
          refine code_region ?_
          refine list_cons rfl (op_q (q_move rfl (by decide)) ?_)
          refine list_cons rfl (op_q (q_assign rfl (by decide)) ?_)
          refine list_cons rfl (op_q (q_assign rfl (by decide)) ?_)
          refine list_nil ?_
          refine hK23 _ ?_; clear hK23 K23
          refine code_ret ?_
          refine ends_ret (cs := []) rfl rfl rfl rfl trivial ?_
          first
            | (have e : ¬ RdP s := fun e => by
                 have k := (rd_tail e).1
                 first
                 | (rw [← tail_y (by assumption) (by assumption)] at k; omega)
                 | (rw [← tail_n (fun e => absurd e.2 (by assumption))] at k; omega)
                 | (rw [← tail_n (fun e => absurd e.1 (by assumption))] at k; omega)
               rw [if_neg e, decide_eq_false e]; done)
            | (have e : ¬ RdP s := fun e => by
                 have k := (rd_tail e).2.1 i.toNat (by rw [← ht]; omega)
                 rw [← ht] at k
                 omega
               rw [if_neg e, decide_eq_false e]; done)
            | (have hx := h8
               have hlen : i.toNat = t.length := by omega
               rw [hlen, List.take_length] at hm
               have e : ¬ RdP s := fun e => by
                 have k1 := (rd_tail e).2.2
                 have k2 := (tailM_of e).2
                 rw [← ht] at k1 k2
                 rw [hm] at k1
                 have k3 : m = (rdV s).natAbs := Option.some.inj k1
                 refine hx ?_
                 first
                 | (rw [show -(m : Int) = rdV s by omega]; exact e.2)
                 | (rw [show (m : Int) = rdV s by omega]; exact e.2)
               rw [if_neg e, decide_eq_false e]; done)
            | (have hx := h8
               have e := rd_of (by constructor <;> omega) hx
               rw [if_pos e.1, decide_eq_true e.1, e.2]; done)
        (try simp only [Decidable.not_not] at h7)
        refine code_skip ?_
        refine hK18 _ ?_; clear hK18 K18
        refine code_seq (fun K24 hK24 => ?_)
        refine code_seq (fun K25 hK25 => ?_)
        refine code_region ?_
        refine list_cons rfl (op_q (q_move rfl (by decide)) ?_)
        refine list_cons rfl (op_call _ (l1Num_any _ (by omega) (by omega)) rfl rfl (by decide) (by decide) (by decide) rfl ?_)
        rintro _ rfl
        refine list_cons rfl (op_q (q_move rfl (by decide)) ?_)
        refine list_cons rfl (op_q (q_sne rfl rfl (by decide)) ?_)
        refine list_nil ?_
        refine hK25 _ ?_; clear hK25 K25
        refine codeT.imp (σ' := [(0, _), (2, _), (3, _), (4, _), (5, _), (6, _), (56, _)]) ?_ (imp_covers ⟨rfl, rfl, rfl, rfl, rfl, rfl, rfl, trivial⟩)
        refine code_cond_d rfl (fun h9 => ?_) (fun h9 => ?_)
        · skip
          (try simp only [Decidable.not_not] at h9)
          refine code_seq (fun K26 hK26 => ?_)
          refine code_region ?_
          refine list_cons rfl (op_q (q_assign rfl (by decide)) ?_)
          refine list_cons rfl (op_q (q_assign rfl (by decide)) ?_)
          refine list_nil ?_
          refine hK26 _ ?_; clear hK26 K26
          refine code_ret ?_
          refine then_r ?_; clear hK24 K24
          refine ends_ret (cs := []) rfl rfl rfl rfl trivial ?_
          first
            | (have e : ¬ RdP s := fun e => by
                 have k := (rd_tail e).1
                 first
                 | (rw [← tail_y (by assumption) (by assumption)] at k; omega)
                 | (rw [← tail_n (fun e => absurd e.2 (by assumption))] at k; omega)
                 | (rw [← tail_n (fun e => absurd e.1 (by assumption))] at k; omega)
               rw [if_neg e, decide_eq_false e]; done)
            | (have e : ¬ RdP s := fun e => by
                 have k := (rd_tail e).2.1 i.toNat (by rw [← ht]; omega)
                 rw [← ht] at k
                 omega
               rw [if_neg e, decide_eq_false e]; done)
            | (have hx := h9
               have hlen : i.toNat = t.length := by omega
               rw [hlen, List.take_length] at hm
               have e : ¬ RdP s := fun e => by
                 have k1 := (rd_tail e).2.2
                 have k2 := (tailM_of e).2
                 rw [← ht] at k1 k2
                 rw [hm] at k1
                 have k3 : m = (rdV s).natAbs := Option.some.inj k1
                 refine hx ?_
                 first
                 | (rw [show -(m : Int) = rdV s by omega]; exact e.2)
                 | (rw [show (m : Int) = rdV s by omega]; exact e.2)
               rw [if_neg e, decide_eq_false e]; done)
            | (have hx := h9
               have e := rd_of (by constructor <;> omega) hx
               rw [if_pos e.1, decide_eq_true e.1, e.2]; done)
        (try simp only [Decidable.not_not] at h9)
        refine code_skip ?_
        refine hK24 _ ?_; clear hK24 K24
        refine code_seq (fun K27 hK27 => ?_)
        refine code_region ?_
        refine list_cons rfl (op_q (q_move rfl (by decide)) ?_)
        refine list_cons rfl (op_q (q_assign rfl (by decide)) ?_)
        refine list_cons rfl (op_q (q_assign rfl (by decide)) ?_)
        refine list_nil ?_
        refine hK27 _ ?_; clear hK27 K27
        refine code_ret ?_
        refine ends_ret (cs := []) rfl rfl rfl rfl trivial ?_
        first
          | (have e : ¬ RdP s := fun e => by
               have k := (rd_tail e).1
               first
               | (rw [← tail_y (by assumption) (by assumption)] at k; omega)
               | (rw [← tail_n (fun e => absurd e.2 (by assumption))] at k; omega)
               | (rw [← tail_n (fun e => absurd e.1 (by assumption))] at k; omega)
             rw [if_neg e, decide_eq_false e]; done)
          | (have e : ¬ RdP s := fun e => by
               have k := (rd_tail e).2.1 i.toNat (by rw [← ht]; omega)
               rw [← ht] at k
               omega
             rw [if_neg e, decide_eq_false e]; done)
          | (have hx := h9
             have hlen : i.toNat = t.length := by omega
             rw [hlen, List.take_length] at hm
             have e : ¬ RdP s := fun e => by
               have k1 := (rd_tail e).2.2
               have k2 := (tailM_of e).2
               rw [← ht] at k1 k2
               rw [hm] at k1
               have k3 : m = (rdV s).natAbs := Option.some.inj k1
               refine hx ?_
               first
               | (rw [show -(m : Int) = rdV s by omega]; exact e.2)
               | (rw [show (m : Int) = rdV s by omega]; exact e.2)
             rw [if_neg e, decide_eq_false e]; done)
          | (have hx := h9
             have e := rd_of (by constructor <;> omega) hx
             rw [if_pos e.1, decide_eq_true e.1, e.2]; done)
    (try simp only [Decidable.not_not] at h2)
    refine code_skip ?_
    refine hK3 _ ?_; clear hK3 K3
    refine code_seq (fun K28 hK28 => ?_)
    refine code_seq (fun K29 hK29 => ?_)
    refine code_region ?_
    refine list_cons rfl (op_q (q_move rfl (by decide)) ?_)
    refine list_cons rfl (op_q (q_len_str Tryd.underlying9 rfl (by decide)) ?_)
    refine list_cons rfl (op_call _ (spec_l1In _ _ _) rfl rfl (by decide) (by decide) (by decide) rfl ?_)
    rintro _ rfl
    refine list_cons rfl (op_q (by first | exact q_notd rfl (by decide) | exact q_not rfl (by decide)) ?_)
    refine list_nil ?_
    refine hK29 _ ?_; clear hK29 K29
    refine codeT.imp (σ' := [(0, _), (2, _), (3, _), (4, _), (21, _)]) ?_ (imp_covers ⟨rfl, rfl, rfl, rfl, rfl, trivial⟩)
    refine code_cond_d rfl (fun h10 => ?_) (fun h10 => ?_)
    · skip
      (try simp only [Decidable.not_not] at h10)
      refine code_seq (fun K30 hK30 => ?_)
      refine code_region ?_
      refine list_cons rfl (op_q (q_assign rfl (by decide)) ?_)
      refine list_cons rfl (op_q (q_assign rfl (by decide)) ?_)
      refine list_nil ?_
      refine hK30 _ ?_; clear hK30 K30
      refine code_ret ?_
      refine then_r ?_; clear hK28 K28
      refine ends_ret (cs := []) rfl rfl rfl rfl trivial ?_
      first
        | (have e : ¬ RdP s := fun e => by
             have k := (rd_tail e).1
             first
             | (rw [← tail_y (by assumption) (by assumption)] at k; omega)
             | (rw [← tail_n (fun e => absurd e.2 (by assumption))] at k; omega)
             | (rw [← tail_n (fun e => absurd e.1 (by assumption))] at k; omega)
           rw [if_neg e, decide_eq_false e]; done)
        | (have e : ¬ RdP s := fun e => by
             have k := (rd_tail e).2.1 i.toNat (by rw [← ht]; omega)
             rw [← ht] at k
             omega
           rw [if_neg e, decide_eq_false e]; done)
        | (have hx := h10
           have hlen : i.toNat = t.length := by omega
           rw [hlen, List.take_length] at hm
           have e : ¬ RdP s := fun e => by
             have k1 := (rd_tail e).2.2
             have k2 := (tailM_of e).2
             rw [← ht] at k1 k2
             rw [hm] at k1
             have k3 : m = (rdV s).natAbs := Option.some.inj k1
             refine hx ?_
             first
             | (rw [show -(m : Int) = rdV s by omega]; exact e.2)
             | (rw [show (m : Int) = rdV s by omega]; exact e.2)
           rw [if_neg e, decide_eq_false e]; done)
        | (have hx := h10
           have e := rd_of (by constructor <;> omega) hx
           rw [if_pos e.1, decide_eq_true e.1, e.2]; done)
    (try simp only [Decidable.not_not] at h10)
    refine code_skip ?_
    refine hK28 _ ?_; clear hK28 K28
    refine code_seq (fun K31 hK31 => ?_)
    refine code_region ?_
    refine list_cons rfl (op_q (q_assign rfl (by decide)) ?_)
    refine list_nil ?_
    refine hK31 _ ?_; clear hK31 K31
    refine code_seq (fun K32 hK32 => ?_)
    refine code_seq (fun K33 hK33 => ?_)
    refine code_region ?_
    refine list_cons rfl (op_q (q_assign rfl (by decide)) ?_)
    refine list_nil ?_
    refine hK33 _ ?_; clear hK33 K33
    refine code_block ?_
    refine code_loop (X := Int × Bool × List UInt8 × Int × Int) (fun x => [(0, .val (.str s)), (2, .val (.int .i64 x.1)), (3, .val (.bool x.2.1)), (4, .val (.str x.2.2.1)), (5, .val (.int .i64 x.2.2.2.1)), (6, .val (.int .i64 x.2.2.2.2))]) (fun x => x.2.2.1 = tailM s ∧ (1 ≤ x.2.2.1.length ∧ x.2.2.1.length ≤ 6) ∧ (0 ≤ x.2.2.2.2 ∧ x.2.2.2.2 ≤ x.2.2.1.length) ∧ ∃ m : Nat, x.2.2.2.1 = (m : Int) ∧ Lib.decFrom 0 (x.2.2.1.take x.2.2.2.2.toNat) = some m) (fun x => (x.2.2.1.length - x.2.2.2.2).toNat) (_, _, _, _, _) (imp_covers ⟨rfl, rfl, rfl, rfl, rfl, rfl, trivial⟩) ?_ ?_
    · (try dsimp only)
      first
      | exact ⟨tail_y (by assumption) (by assumption), ⟨by omega, by omega⟩, ⟨by omega, by omega⟩, 0, rfl, rfl⟩
      | exact ⟨tail_n (fun e => absurd e.2 (by assumption)), ⟨by omega, by omega⟩, ⟨by omega, by omega⟩, 0, rfl, rfl⟩
      | exact ⟨tail_n (fun e => absurd e.1 (by assumption)), ⟨by omega, by omega⟩, ⟨by omega, by omega⟩, 0, rfl, rfl⟩
    · intro x hI
      obtain ⟨t2, t3, t, n, i⟩ := x
      replace hI : t = tailM s ∧ (1 ≤ t.length ∧ t.length ≤ 6) ∧ (0 ≤ i ∧ i ≤ t.length) ∧ ∃ m : Nat, n = (m : Int) ∧ Lib.decFrom 0 (t.take i.toNat) = some m := hI
      show codeT _ _ _ [(0, .val (.str s)), (2, .val (.int .i64 t2)), (3, .val (.bool t3)), (4, .val (.str t)), (5, .val (.int .i64 n)), (6, .val (.int .i64 i))] _
      obtain ⟨ht, i0, i1, m, rfl, hm⟩ := hI
      have hm6 := dFrom_6 hm (by rw [List.length_take]; omega)
      refine code_seq (fun K34 hK34 => ?_)
      refine code_seq (fun K35 hK35 => ?_)
      refine code_region ?_
      refine list_cons rfl (op_q (q_move rfl (by decide)) ?_)
      refine list_cons rfl (op_q (q_move rfl (by decide)) ?_)
      refine list_cons rfl (op_q (q_len_str Tryd.underlying9 rfl (by decide)) ?_)
      refine list_cons rfl (op_q (q_lt rfl rfl (by decide)) ?_)
      refine list_nil ?_
      refine hK35 _ ?_; clear hK35 K35
      refine code_cond_d rfl (fun h11 => ?_) (fun h11 => ?_)
      · skip
        (try simp only [Decidable.not_not] at h11)
        refine code_skip ?_
        refine hK34 _ ?_; clear hK34 K34
        refine code_seq (fun K36 hK36 => ?_)
        refine code_block ?_
        refine code_seq (fun K37 hK37 => ?_)
        refine code_seq (fun K38 hK38 => ?_)
        refine code_region ?_
        refine list_cons rfl (op_q (q_move rfl (by decide)) ?_)
        refine list_cons rfl (op_q (q_move rfl (by decide)) ?_)
        refine list_cons rfl (op_q (q_index_str Tryd.underlying9 rfl rfl (by omega) (by omega) (by decide)) ?_)
        refine list_cons rfl (op_q (q_lt rfl rfl (by decide)) ?_)
        refine list_cons rfl (op_q (q_move rfl (by decide)) ?_)
        refine list_guard_d rfl rfl rfl rfl (by decide) rfl (by decide) (fun h12 => ?_) (fun h12 => ?_)
        · simp only [Bool.false_eq_true, if_true, if_false, Decidable.not_not] at h12
          (try simp only [Decidable.not_not] at h12)
          refine id (op_q (q_move rfl (by decide)) ?_)
          refine list_guard_y rfl rfl rfl rfl (by decide) rfl ?_
          refine id (op_q (q_move rfl (by decide)) ?_)
          refine list_guard_y rfl rfl rfl rfl (by decide) rfl ?_
          refine id (op_q (q_index_str Tryd.underlying9 rfl rfl (by omega) (by omega) (by decide)) ?_)
          refine list_guard_y rfl rfl rfl rfl (by decide) rfl ?_
          refine id (op_q (q_gt rfl rfl (by decide)) ?_)
          refine list_cons rfl (op_q (q_pick rfl rfl (by decide)) ?_)
          refine list_nil ?_
          refine hK38 _ ?_; clear hK38 K38
          refine codeT.imp (σ' := [(0, _), (2, _), (3, _), (4, _), (5, _), (6, _), (37, _)]) ?_ (imp_covers ⟨rfl, rfl, rfl, rfl, rfl, rfl, rfl, trivial⟩)
          refine code_cond_d rfl (fun h13 => ?_) (fun h13 => ?_)
          · skip
            (try simp only [Decidable.not_not] at h13)
            refine code_seq (fun K39 hK39 => ?_)
            refine code_region ?_
            refine list_cons rfl (op_q (q_assign rfl (by decide)) ?_)
            refine list_cons rfl (op_q (q_assign rfl (by decide)) ?_)
            refine list_nil ?_
            refine hK39 _ ?_; clear hK39 K39
            refine code_ret ?_
            refine then_r ?_; clear hK37 K37
            refine blk_r ?_
            refine then_r ?_; clear hK36 K36
            refine then_r ?_
            refine blk_r ?_
            refine then_r ?_; clear hK32 K32
            refine ends_ret (cs := []) rfl rfl rfl rfl trivial ?_
            first
              | (have e : ¬ RdP s := fun e => by
                   have k := (rd_tail e).1
                   first
                   | (rw [← tail_y (by assumption) (by assumption)] at k; omega)
                   | (rw [← tail_n (fun e => absurd e.2 (by assumption))] at k; omega)
                   | (rw [← tail_n (fun e => absurd e.1 (by assumption))] at k; omega)
                 rw [if_neg e, decide_eq_false e]; done)
              | (have e : ¬ RdP s := fun e => by
                   have k := (rd_tail e).2.1 i.toNat (by rw [← ht]; omega)
                   rw [← ht] at k
                   omega
                 rw [if_neg e, decide_eq_false e]; done)
              | (have hx := h13
                 have hlen : i.toNat = t.length := by omega
                 rw [hlen, List.take_length] at hm
                 have e : ¬ RdP s := fun e => by
                   have k1 := (rd_tail e).2.2
                   have k2 := (tailM_of e).2
                   rw [← ht] at k1 k2
                   rw [hm] at k1
                   have k3 : m = (rdV s).natAbs := Option.some.inj k1
                   refine hx ?_
                   first
                   | (rw [show -(m : Int) = rdV s by omega]; exact e.2)
                   | (rw [show (m : Int) = rdV s by omega]; exact e.2)
                 rw [if_neg e, decide_eq_false e]; done)
              | (have hx := h13
                 have e := rd_of (by constructor <;> omega) hx
                 rw [if_pos e.1, decide_eq_true e.1, e.2]; done)
          (try simp only [Decidable.not_not] at h13)
          refine code_skip ?_
          refine hK37 _ ?_; clear hK37 K37
          refine code_region ?_
          refine list_cons rfl (op_q (q_move rfl (by decide)) ?_)
          refine list_cons rfl (op_q (by first | exact q_mulI rfl rfl (by decide) (by omega) (by omega) | exact q_ib rfl rfl rfl (by decide)) ?_)
          refine list_cons rfl (op_q (q_move rfl (by decide)) ?_)
          refine list_cons rfl (op_q (q_move rfl (by decide)) ?_)
          refine list_cons rfl (op_q (q_index_str Tryd.underlying9 rfl rfl (by omega) (by omega) (by decide)) ?_)
          refine list_cons rfl (op_q (by first | exact q_subB rfl rfl (by decide) (by omega) (by omega) | exact q_ib rfl rfl rfl (by decide)) ?_)
          refine list_cons rfl (op_q (by first | exact q_convB (by rw [Tryd.underlying5]; rfl) Tryd.underlying3 rfl (by decide) | exact q_convI (by rw [Tryd.underlying5]; rfl) Tryd.underlying3 rfl (by decide) (by omega) (by omega) | exact q_conv (by rw [Tryd.underlying5]; rfl) Tryd.underlying3 rfl (by decide)) ?_)
          refine list_cons rfl (op_q (by first | exact q_addI rfl rfl (by decide) (by omega) (by omega) | exact q_ib rfl rfl rfl (by decide)) ?_)
          refine list_cons rfl (op_q (q_assign rfl (by decide)) ?_)
          refine list_nil ?_
          refine blk_n ?_
          refine hK36 _ ?_; clear hK36 K36
          refine codeT.imp (σ' := [(0, _), (2, _), (3, _), (4, _), (5, _), (6, _)]) ?_ (imp_covers ⟨rfl, rfl, rfl, rfl, rfl, rfl, trivial⟩)
          refine code_region ?_
          refine list_cons rfl (op_q (q_move rfl (by decide)) ?_)
          refine list_cons rfl (op_q (by first | exact q_addI rfl rfl (by decide) (by omega) (by omega) | exact q_ib rfl rfl rfl (by decide)) ?_)
          refine list_cons rfl (op_q (q_assign rfl (by decide)) ?_)
          refine list_nil ?_
          refine then_n ⟨(_, _, _, _, _), imp_covers ⟨rfl, rfl, rfl, rfl, rfl, rfl, trivial⟩, ?_, ?_⟩
          · (try dsimp only)
            have ha : 48 ≤ (t.getD i.toNat 0).toNat := by omega
            have hb : (t.getD i.toNat 0).toNat ≤ 57 := by omega
            have hsn := dFrom_snoc (by omega) hm ha hb
            exact ⟨ht, i0, ⟨by omega, by omega⟩, m * 10 + ((t.getD i.toNat 0).toNat - 48), by omega, by rw [show (i + 1).toNat = i.toNat + 1 by omega]; exact hsn⟩
          · (try dsimp only); omega
        simp only [Bool.false_eq_true, if_true, if_false, Decidable.not_not] at h12
        (try simp only [Decidable.not_not] at h12)
        refine list_guard_n rfl rfl rfl rfl (by decide) rfl ?_
        refine list_guard_n rfl rfl rfl rfl (by decide) rfl ?_
        refine list_guard_n rfl rfl rfl rfl (by decide) rfl ?_
        refine list_cons rfl (op_q (q_pick rfl rfl (by decide)) ?_)
        refine list_nil ?_
        refine hK38 _ ?_; clear hK38 K38
        refine codeT.imp (σ' := [(0, _), (2, _), (3, _), (4, _), (5, _), (6, _), (37, _)]) ?_ (imp_covers ⟨rfl, rfl, rfl, rfl, rfl, rfl, rfl, trivial⟩)
        refine code_cond_t rfl ?_
        refine code_seq (fun K40 hK40 => ?_)
        refine code_region ?_
        refine list_cons rfl (op_q (q_assign rfl (by decide)) ?_)
        refine list_cons rfl (op_q (q_assign rfl (by decide)) ?_)
        refine list_nil ?_
        refine hK40 _ ?_; clear hK40 K40
        refine code_ret ?_
        refine then_r ?_; clear hK37 K37
        refine blk_r ?_
        refine then_r ?_; clear hK36 K36
        refine then_r ?_
        refine blk_r ?_
        refine then_r ?_; clear hK32 K32
        refine ends_ret (cs := []) rfl rfl rfl rfl trivial ?_
        first
          | (have e : ¬ RdP s := fun e => by
               have k := (rd_tail e).1
               first
               | (rw [← tail_y (by assumption) (by assumption)] at k; omega)
               | (rw [← tail_n (fun e => absurd e.2 (by assumption))] at k; omega)
               | (rw [← tail_n (fun e => absurd e.1 (by assumption))] at k; omega)
             rw [if_neg e, decide_eq_false e]; done)
          | (have e : ¬ RdP s := fun e => by
               have k := (rd_tail e).2.1 i.toNat (by rw [← ht]; omega)
               rw [← ht] at k
               omega
             rw [if_neg e, decide_eq_false e]; done)
          | (have hx := h12
             have hlen : i.toNat = t.length := by omega
             rw [hlen, List.take_length] at hm
             have e : ¬ RdP s := fun e => by
               have k1 := (rd_tail e).2.2
               have k2 := (tailM_of e).2
               rw [← ht] at k1 k2
               rw [hm] at k1
               have k3 : m = (rdV s).natAbs := Option.some.inj k1
               refine hx ?_
               first
               | (rw [show -(m : Int) = rdV s by omega]; exact e.2)
               | (rw [show (m : Int) = rdV s by omega]; exact e.2)
             rw [if_neg e, decide_eq_false e]; done)
          | (have hx := h12
             have e := rd_of (by constructor <;> omega) hx
             rw [if_pos e.1, decide_eq_true e.1, e.2]; done)
      (try simp only [Decidable.not_not] at h11)
      refine code_exit ?_
      refine then_x ?_; clear hK34 K34
      refine then_x ?_
      refine blk_hit ?_
      refine hK32 _ ?_; clear hK32 K32
      refine code_seq (fun K41 hK41 => ?_)
      refine code_seq (fun K42 hK42 => ?_)
      refine code_region ?_
      refine list_cons rfl (op_q (q_move rfl (by decide)) ?_)
      refine list_cons rfl (op_q (q_len_str Tryd.underlying9 rfl (by decide)) ?_)
      refine list_cons rfl (op_q (q_move rfl (by decide)) ?_)
      refine list_cons rfl (op_q (q_len_str Tryd.underlying9 rfl (by decide)) ?_)
      refine list_cons rfl (op_q (q_lt rfl rfl (by decide)) ?_)
      refine list_nil ?_
      refine hK42 _ ?_; clear hK42 K42
      refine codeT.imp (σ' := [(0, _), (2, _), (3, _), (4, _), (5, _), (6, _), (50, _)]) ?_ (imp_covers ⟨rfl, rfl, rfl, rfl, rfl, rfl, rfl, trivial⟩)
      refine code_cond_d rfl (fun h14 => ?_) (fun h14 => ?_)
      · skip
        (try simp only [Decidable.not_not] at h14)
        refine code_region ?_
        refine list_cons rfl (op_q (q_move rfl (by decide)) ?_)
        refine list_cons rfl (op_q (by first | exact q_negI rfl (by decide) (by omega) (by omega) | exact q_neg rfl (by decide)) ?_)
        refine list_cons rfl (op_q (q_assign rfl (by decide)) ?_)
        refine list_nil ?_
        refine hK41 _ ?_; clear hK41 K41
        refine code_seq (fun K43 hK43 => ?_)
        refine code_seq (fun K44 hK44 => ?_)
        refine code_region ?_
        refine list_cons rfl (op_q (q_move rfl (by decide)) ?_)
        refine list_cons rfl (op_call _ (l1Num_any _ (by omega) (by omega)) rfl rfl (by decide) (by decide) (by decide) rfl ?_)
        rintro _ rfl
        refine list_cons rfl (op_q (q_move rfl (by decide)) ?_)
        refine list_cons rfl (op_q (q_sne rfl rfl (by decide)) ?_)
        refine list_nil ?_
        refine hK44 _ ?_; clear hK44 K44
        refine codeT.imp (σ' := [(0, _), (2, _), (3, _), (4, _), (5, _), (6, _), (56, _)]) ?_ (imp_covers ⟨rfl, rfl, rfl, rfl, rfl, rfl, rfl, trivial⟩)
        refine code_cond_d rfl (fun h15 => ?_) (fun h15 => ?_)
        · skip
          (try simp only [Decidable.not_not] at h15)
          refine code_seq (fun K45 hK45 => ?_)
          refine code_region ?_
          refine list_cons rfl (op_q (q_assign rfl (by decide)) ?_)
          refine list_cons rfl (op_q (q_assign rfl (by decide)) ?_)
          refine list_nil ?_
          refine hK45 _ ?_; clear hK45 K45
          refine code_ret ?_
          refine then_r ?_; clear hK43 K43
          refine ends_ret (cs := []) rfl rfl rfl rfl trivial ?_
          first
            | (have e : ¬ RdP s := fun e => by
                 have k := (rd_tail e).1
                 first
                 | (rw [← tail_y (by assumption) (by assumption)] at k; omega)
                 | (rw [← tail_n (fun e => absurd e.2 (by assumption))] at k; omega)
                 | (rw [← tail_n (fun e => absurd e.1 (by assumption))] at k; omega)
               rw [if_neg e, decide_eq_false e]; done)
            | (have e : ¬ RdP s := fun e => by
                 have k := (rd_tail e).2.1 i.toNat (by rw [← ht]; omega)
                 rw [← ht] at k
                 omega
               rw [if_neg e, decide_eq_false e]; done)
            | (have hx := h15
               have hlen : i.toNat = t.length := by omega
               rw [hlen, List.take_length] at hm
               have e : ¬ RdP s := fun e => by
                 have k1 := (rd_tail e).2.2
                 have k2 := (tailM_of e).2
                 rw [← ht] at k1 k2
                 rw [hm] at k1
                 have k3 : m = (rdV s).natAbs := Option.some.inj k1
                 refine hx ?_
                 first
                 | (rw [show -(m : Int) = rdV s by omega]; exact e.2)
                 | (rw [show (m : Int) = rdV s by omega]; exact e.2)
               rw [if_neg e, decide_eq_false e]; done)
            | (have hx := h15
               have e := rd_of (by constructor <;> omega) hx
               rw [if_pos e.1, decide_eq_true e.1, e.2]; done)
        (try simp only [Decidable.not_not] at h15)
        refine code_skip ?_
        refine hK43 _ ?_; clear hK43 K43
        refine code_seq (fun K46 hK46 => ?_)
        refine code_region ?_
        refine list_cons rfl (op_q (q_move rfl (by decide)) ?_)
        refine list_cons rfl (op_q (q_assign rfl (by decide)) ?_)
        refine list_cons rfl (op_q (q_assign rfl (by decide)) ?_)
        refine list_nil ?_
        refine hK46 _ ?_; clear hK46 K46
        refine code_ret ?_
        refine ends_ret (cs := []) rfl rfl rfl rfl trivial ?_
        first
          | (have e : ¬ RdP s := fun e => by
               have k := (rd_tail e).1
               first
               | (rw [← tail_y (by assumption) (by assumption)] at k; omega)
               | (rw [← tail_n (fun e => absurd e.2 (by assumption))] at k; omega)
               | (rw [← tail_n (fun e => absurd e.1 (by assumption))] at k; omega)
             rw [if_neg e, decide_eq_false e]; done)
          | (have e : ¬ RdP s := fun e => by
               have k := (rd_tail e).2.1 i.toNat (by rw [← ht]; omega)
               rw [← ht] at k
               omega
             rw [if_neg e, decide_eq_false e]; done)
          | (have hx := h15
             have hlen : i.toNat = t.length := by omega
             rw [hlen, List.take_length] at hm
             have e : ¬ RdP s := fun e => by
               have k1 := (rd_tail e).2.2
               have k2 := (tailM_of e).2
               rw [← ht] at k1 k2
               rw [hm] at k1
               have k3 : m = (rdV s).natAbs := Option.some.inj k1
               refine hx ?_
               first
               | (rw [show -(m : Int) = rdV s by omega]; exact e.2)
               | (rw [show (m : Int) = rdV s by omega]; exact e.2)
             rw [if_neg e, decide_eq_false e]; done)
          | (have hx := h15
             have e := rd_of (by constructor <;> omega) hx
             rw [if_pos e.1, decide_eq_true e.1, e.2]; done)
      (try simp only [Decidable.not_not] at h14)
      refine code_skip ?_
      refine hK41 _ ?_; clear hK41 K41
      refine code_seq (fun K47 hK47 => ?_)
      refine code_seq (fun K48 hK48 => ?_)
      refine code_region ?_
      refine list_cons rfl (op_q (q_move rfl (by decide)) ?_)
      refine list_cons rfl (op_call _ (l1Num_any _ (by omega) (by omega)) rfl rfl (by decide) (by decide) (by decide) rfl ?_)
      rintro _ rfl
      refine list_cons rfl (op_q (q_move rfl (by decide)) ?_)
      refine list_cons rfl (op_q (q_sne rfl rfl (by decide)) ?_)
      refine list_nil ?_
      refine hK48 _ ?_; clear hK48 K48
      refine codeT.imp (σ' := [(0, _), (2, _), (3, _), (4, _), (5, _), (6, _), (56, _)]) ?_ (imp_covers ⟨rfl, rfl, rfl, rfl, rfl, rfl, rfl, trivial⟩)
      refine code_cond_d rfl (fun h16 => ?_) (fun h16 => ?_)
      · skip
        (try simp only [Decidable.not_not] at h16)
        refine code_seq (fun K49 hK49 => ?_)
        refine code_region ?_
        refine list_cons rfl (op_q (q_assign rfl (by decide)) ?_)
        refine list_cons rfl (op_q (q_assign rfl (by decide)) ?_)
        refine list_nil ?_
        refine hK49 _ ?_; clear hK49 K49
        refine code_ret ?_
        refine then_r ?_; clear hK47 K47
        refine ends_ret (cs := []) rfl rfl rfl rfl trivial ?_
        first
          | (have e : ¬ RdP s := fun e => by
               have k := (rd_tail e).1
               first
               | (rw [← tail_y (by assumption) (by assumption)] at k; omega)
               | (rw [← tail_n (fun e => absurd e.2 (by assumption))] at k; omega)
               | (rw [← tail_n (fun e => absurd e.1 (by assumption))] at k; omega)
             rw [if_neg e, decide_eq_false e]; done)
          | (have e : ¬ RdP s := fun e => by
               have k := (rd_tail e).2.1 i.toNat (by rw [← ht]; omega)
               rw [← ht] at k
               omega
             rw [if_neg e, decide_eq_false e]; done)
          | (have hx := h16
             have hlen : i.toNat = t.length := by omega
             rw [hlen, List.take_length] at hm
             have e : ¬ RdP s := fun e => by
               have k1 := (rd_tail e).2.2
               have k2 := (tailM_of e).2
               rw [← ht] at k1 k2
               rw [hm] at k1
               have k3 : m = (rdV s).natAbs := Option.some.inj k1
               refine hx ?_
               first
               | (rw [show -(m : Int) = rdV s by omega]; exact e.2)
               | (rw [show (m : Int) = rdV s by omega]; exact e.2)
             rw [if_neg e, decide_eq_false e]; done)
          | (have hx := h16
             have e := rd_of (by constructor <;> omega) hx
             rw [if_pos e.1, decide_eq_true e.1, e.2]; done)
      (try simp only [Decidable.not_not] at h16)
      refine code_skip ?_
      refine hK47 _ ?_; clear hK47 K47
      refine code_seq (fun K50 hK50 => ?_)
      refine code_region ?_
      refine list_cons rfl (op_q (q_move rfl (by decide)) ?_)
      refine list_cons rfl (op_q (q_assign rfl (by decide)) ?_)
      refine list_cons rfl (op_q (q_assign rfl (by decide)) ?_)
      refine list_nil ?_
      refine hK50 _ ?_; clear hK50 K50
      refine code_ret ?_
      refine ends_ret (cs := []) rfl rfl rfl rfl trivial ?_
      first
        | (have e : ¬ RdP s := fun e => by
             have k := (rd_tail e).1
             first
             | (rw [← tail_y (by assumption) (by assumption)] at k; omega)
             | (rw [← tail_n (fun e => absurd e.2 (by assumption))] at k; omega)
             | (rw [← tail_n (fun e => absurd e.1 (by assumption))] at k; omega)
           rw [if_neg e, decide_eq_false e]; done)
        | (have e : ¬ RdP s := fun e => by
             have k := (rd_tail e).2.1 i.toNat (by rw [← ht]; omega)
             rw [← ht] at k
             omega
           rw [if_neg e, decide_eq_false e]; done)
        | (have hx := h16
           have hlen : i.toNat = t.length := by omega
           rw [hlen, List.take_length] at hm
           have e : ¬ RdP s := fun e => by
             have k1 := (rd_tail e).2.2
             have k2 := (tailM_of e).2
             rw [← ht] at k1 k2
             rw [hm] at k1
             have k3 : m = (rdV s).natAbs := Option.some.inj k1
             refine hx ?_
             first
             | (rw [show -(m : Int) = rdV s by omega]; exact e.2)
             | (rw [show (m : Int) = rdV s by omega]; exact e.2)
           rw [if_neg e, decide_eq_false e]; done)
        | (have hx := h16
           have e := rd_of (by constructor <;> omega) hx
           rw [if_pos e.1, decide_eq_true e.1, e.2]; done)
  simp only [Bool.false_eq_true, if_true, if_false, Decidable.not_not] at h1
  (try simp only [Decidable.not_not] at h1)
  refine list_guard_n rfl rfl rfl rfl (by decide) rfl ?_
  refine list_guard_n rfl rfl rfl rfl (by decide) rfl ?_
  refine list_cons rfl (op_q (q_pick rfl rfl (by decide)) ?_)
  refine list_nil ?_
  refine hK4 _ ?_; clear hK4 K4
  refine code_cond_f rfl ?_
  refine code_skip ?_
  refine hK3 _ ?_; clear hK3 K3
  refine code_seq (fun K51 hK51 => ?_)
  refine code_seq (fun K52 hK52 => ?_)
  refine code_region ?_
  refine list_cons rfl (op_q (q_move rfl (by decide)) ?_)
  refine list_cons rfl (op_q (q_len_str Tryd.underlying9 rfl (by decide)) ?_)
  refine list_cons rfl (op_call _ (spec_l1In _ _ _) rfl rfl (by decide) (by decide) (by decide) rfl ?_)
  rintro _ rfl
  refine list_cons rfl (op_q (by first | exact q_notd rfl (by decide) | exact q_not rfl (by decide)) ?_)
  refine list_nil ?_
  refine hK52 _ ?_; clear hK52 K52
  refine codeT.imp (σ' := [(0, _), (2, _), (3, _), (4, _), (21, _)]) ?_ (imp_covers ⟨rfl, rfl, rfl, rfl, rfl, trivial⟩)
  refine code_cond_d rfl (fun h17 => ?_) (fun h17 => ?_)
  · skip
    (try simp only [Decidable.not_not] at h17)
    refine code_seq (fun K53 hK53 => ?_)
    refine code_region ?_
    refine list_cons rfl (op_q (q_assign rfl (by decide)) ?_)
    refine list_cons rfl (op_q (q_assign rfl (by decide)) ?_)
    refine list_nil ?_
    refine hK53 _ ?_; clear hK53 K53
    refine code_ret ?_
    refine then_r ?_; clear hK51 K51
    refine ends_ret (cs := []) rfl rfl rfl rfl trivial ?_
    first
      | (have e : ¬ RdP s := fun e => by
           have k := (rd_tail e).1
           first
           | (rw [← tail_y (by assumption) (by assumption)] at k; omega)
           | (rw [← tail_n (fun e => absurd e.2 (by assumption))] at k; omega)
           | (rw [← tail_n (fun e => absurd e.1 (by assumption))] at k; omega)
         rw [if_neg e, decide_eq_false e]; done)
      | (have e : ¬ RdP s := fun e => by
           have k := (rd_tail e).2.1 i.toNat (by rw [← ht]; omega)
           rw [← ht] at k
           omega
         rw [if_neg e, decide_eq_false e]; done)
      | (have hx := h17
         have hlen : i.toNat = t.length := by omega
         rw [hlen, List.take_length] at hm
         have e : ¬ RdP s := fun e => by
           have k1 := (rd_tail e).2.2
           have k2 := (tailM_of e).2
           rw [← ht] at k1 k2
           rw [hm] at k1
           have k3 : m = (rdV s).natAbs := Option.some.inj k1
           refine hx ?_
           first
           | (rw [show -(m : Int) = rdV s by omega]; exact e.2)
           | (rw [show (m : Int) = rdV s by omega]; exact e.2)
         rw [if_neg e, decide_eq_false e]; done)
      | (have hx := h17
         have e := rd_of (by constructor <;> omega) hx
         rw [if_pos e.1, decide_eq_true e.1, e.2]; done)
  (try simp only [Decidable.not_not] at h17)
  refine code_skip ?_
  refine hK51 _ ?_; clear hK51 K51
  refine code_seq (fun K54 hK54 => ?_)
  refine code_region ?_
  refine list_cons rfl (op_q (q_assign rfl (by decide)) ?_)
  refine list_nil ?_
  refine hK54 _ ?_; clear hK54 K54
  refine code_seq (fun K55 hK55 => ?_)
  refine code_seq (fun K56 hK56 => ?_)
  refine code_region ?_
  refine list_cons rfl (op_q (q_assign rfl (by decide)) ?_)
  refine list_nil ?_
  refine hK56 _ ?_; clear hK56 K56
  refine code_block ?_
  refine code_loop (X := Int × Bool × List UInt8 × Int × Int) (fun x => [(0, .val (.str s)), (2, .val (.int .i64 x.1)), (3, .val (.bool x.2.1)), (4, .val (.str x.2.2.1)), (5, .val (.int .i64 x.2.2.2.1)), (6, .val (.int .i64 x.2.2.2.2))]) (fun x => x.2.2.1 = tailM s ∧ (1 ≤ x.2.2.1.length ∧ x.2.2.1.length ≤ 6) ∧ (0 ≤ x.2.2.2.2 ∧ x.2.2.2.2 ≤ x.2.2.1.length) ∧ ∃ m : Nat, x.2.2.2.1 = (m : Int) ∧ Lib.decFrom 0 (x.2.2.1.take x.2.2.2.2.toNat) = some m) (fun x => (x.2.2.1.length - x.2.2.2.2).toNat) (_, _, _, _, _) (imp_covers ⟨rfl, rfl, rfl, rfl, rfl, rfl, trivial⟩) ?_ ?_
  · (try dsimp only)
    first
    | exact ⟨tail_y (by assumption) (by assumption), ⟨by omega, by omega⟩, ⟨by omega, by omega⟩, 0, rfl, rfl⟩
    | exact ⟨tail_n (fun e => absurd e.2 (by assumption)), ⟨by omega, by omega⟩, ⟨by omega, by omega⟩, 0, rfl, rfl⟩
    | exact ⟨tail_n (fun e => absurd e.1 (by assumption)), ⟨by omega, by omega⟩, ⟨by omega, by omega⟩, 0, rfl, rfl⟩
  · intro x hI
    obtain ⟨t2, t3, t, n, i⟩ := x
    replace hI : t = tailM s ∧ (1 ≤ t.length ∧ t.length ≤ 6) ∧ (0 ≤ i ∧ i ≤ t.length) ∧ ∃ m : Nat, n = (m : Int) ∧ Lib.decFrom 0 (t.take i.toNat) = some m := hI
    show codeT _ _ _ [(0, .val (.str s)), (2, .val (.int .i64 t2)), (3, .val (.bool t3)), (4, .val (.str t)), (5, .val (.int .i64 n)), (6, .val (.int .i64 i))] _
    obtain ⟨ht, i0, i1, m, rfl, hm⟩ := hI
    have hm6 := dFrom_6 hm (by rw [List.length_take]; omega)
    refine code_seq (fun K57 hK57 => ?_)
    refine code_seq (fun K58 hK58 => ?_)
    refine code_region ?_
    refine list_cons rfl (op_q (q_move rfl (by decide)) ?_)
    refine list_cons rfl (op_q (q_move rfl (by decide)) ?_)
    refine list_cons rfl (op_q (q_len_str Tryd.underlying9 rfl (by decide)) ?_)
    refine list_cons rfl (op_q (q_lt rfl rfl (by decide)) ?_)
    refine list_nil ?_
    refine hK58 _ ?_; clear hK58 K58
    refine code_cond_d rfl (fun h18 => ?_) (fun h18 => ?_)
    · skip
      (try simp only [Decidable.not_not] at h18)
      refine code_skip ?_
      refine hK57 _ ?_; clear hK57 K57
      refine code_seq (fun K59 hK59 => ?_)
      refine code_block ?_
      refine code_seq (fun K60 hK60 => ?_)
      refine code_seq (fun K61 hK61 => ?_)
      refine code_region ?_
      refine list_cons rfl (op_q (q_move rfl (by decide)) ?_)
      refine list_cons rfl (op_q (q_move rfl (by decide)) ?_)
      refine list_cons rfl (op_q (q_index_str Tryd.underlying9 rfl rfl (by omega) (by omega) (by decide)) ?_)
      refine list_cons rfl (op_q (q_lt rfl rfl (by decide)) ?_)
      refine list_cons rfl (op_q (q_move rfl (by decide)) ?_)
      refine list_guard_d rfl rfl rfl rfl (by decide) rfl (by decide) (fun h19 => ?_) (fun h19 => ?_)
      · simp only [Bool.false_eq_true, if_true, if_false, Decidable.not_not] at h19
        (try simp only [Decidable.not_not] at h19)
        refine id (op_q (q_move rfl (by decide)) ?_)
        refine list_guard_y rfl rfl rfl rfl (by decide) rfl ?_
        refine id (op_q (q_move rfl (by decide)) ?_)
        refine list_guard_y rfl rfl rfl rfl (by decide) rfl ?_
        refine id (op_q (q_index_str Tryd.underlying9 rfl rfl (by omega) (by omega) (by decide)) ?_)
        refine list_guard_y rfl rfl rfl rfl (by decide) rfl ?_
        refine id (op_q (q_gt rfl rfl (by decide)) ?_)
        refine list_cons rfl (op_q (q_pick rfl rfl (by decide)) ?_)
        refine list_nil ?_
        refine hK61 _ ?_; clear hK61 K61
        refine codeT.imp (σ' := [(0, _), (2, _), (3, _), (4, _), (5, _), (6, _), (37, _)]) ?_ (imp_covers ⟨rfl, rfl, rfl, rfl, rfl, rfl, rfl, trivial⟩)
        refine code_cond_d rfl (fun h20 => ?_) (fun h20 => ?_)
        · skip
          (try simp only [Decidable.not_not] at h20)
          refine code_seq (fun K62 hK62 => ?_)
          refine code_region ?_
          refine list_cons rfl (op_q (q_assign rfl (by decide)) ?_)
          refine list_cons rfl (op_q (q_assign rfl (by decide)) ?_)
          refine list_nil ?_
          refine hK62 _ ?_; clear hK62 K62
          refine code_ret ?_
          refine then_r ?_; clear hK60 K60
          refine blk_r ?_
          refine then_r ?_; clear hK59 K59
          refine then_r ?_
          refine blk_r ?_
          refine then_r ?_; clear hK55 K55
          refine ends_ret (cs := []) rfl rfl rfl rfl trivial ?_
          first
            | (have e : ¬ RdP s := fun e => by
                 have k := (rd_tail e).1
                 first
                 | (rw [← tail_y (by assumption) (by assumption)] at k; omega)
                 | (rw [← tail_n (fun e => absurd e.2 (by assumption))] at k; omega)
                 | (rw [← tail_n (fun e => absurd e.1 (by assumption))] at k; omega)
               rw [if_neg e, decide_eq_false e]; done)
            | (have e : ¬ RdP s := fun e => by
                 have k := (rd_tail e).2.1 i.toNat (by rw [← ht]; omega)
                 rw [← ht] at k
                 omega
               rw [if_neg e, decide_eq_false e]; done)
            | (have hx := h20
               have hlen : i.toNat = t.length := by omega
               rw [hlen, List.take_length] at hm
               have e : ¬ RdP s := fun e => by
                 have k1 := (rd_tail e).2.2
                 have k2 := (tailM_of e).2
                 rw [← ht] at k1 k2
                 rw [hm] at k1
                 have k3 : m = (rdV s).natAbs := Option.some.inj k1
                 refine hx ?_
                 first
                 | (rw [show -(m : Int) = rdV s by omega]; exact e.2)
                 | (rw [show (m : Int) = rdV s by omega]; exact e.2)
               rw [if_neg e, decide_eq_false e]; done)
            | (have hx := h20
               have e := rd_of (by constructor <;> omega) hx
               rw [if_pos e.1, decide_eq_true e.1, e.2]; done)
        (try simp only [Decidable.not_not] at h20)
        refine code_skip ?_
        refine hK60 _ ?_; clear hK60 K60
        refine code_region ?_
        refine list_cons rfl (op_q (q_move rfl (by decide)) ?_)
        refine list_cons rfl (op_q (by first | exact q_mulI rfl rfl (by decide) (by omega) (by omega) | exact q_ib rfl rfl rfl (by decide)) ?_)
        refine list_cons rfl (op_q (q_move rfl (by decide)) ?_)
        refine list_cons rfl (op_q (q_move rfl (by decide)) ?_)
        refine list_cons rfl (op_q (q_index_str Tryd.underlying9 rfl rfl (by omega) (by omega) (by decide)) ?_)
        refine list_cons rfl (op_q (by first | exact q_subB rfl rfl (by decide) (by omega) (by omega) | exact q_ib rfl rfl rfl (by decide)) ?_)
        refine list_cons rfl (op_q (by first | exact q_convB (by rw [Tryd.underlying5]; rfl) Tryd.underlying3 rfl (by decide) | exact q_convI (by rw [Tryd.underlying5]; rfl) Tryd.underlying3 rfl (by decide) (by omega) (by omega) | exact q_conv (by rw [Tryd.underlying5]; rfl) Tryd.underlying3 rfl (by decide)) ?_)
        refine list_cons rfl (op_q (by first | exact q_addI rfl rfl (by decide) (by omega) (by omega) | exact q_ib rfl rfl rfl (by decide)) ?_)
        refine list_cons rfl (op_q (q_assign rfl (by decide)) ?_)
        refine list_nil ?_
        refine blk_n ?_
        refine hK59 _ ?_; clear hK59 K59
        refine codeT.imp (σ' := [(0, _), (2, _), (3, _), (4, _), (5, _), (6, _)]) ?_ (imp_covers ⟨rfl, rfl, rfl, rfl, rfl, rfl, trivial⟩)
        refine code_region ?_
        refine list_cons rfl (op_q (q_move rfl (by decide)) ?_)
        refine list_cons rfl (op_q (by first | exact q_addI rfl rfl (by decide) (by omega) (by omega) | exact q_ib rfl rfl rfl (by decide)) ?_)
        refine list_cons rfl (op_q (q_assign rfl (by decide)) ?_)
        refine list_nil ?_
        refine then_n ⟨(_, _, _, _, _), imp_covers ⟨rfl, rfl, rfl, rfl, rfl, rfl, trivial⟩, ?_, ?_⟩
        · (try dsimp only)
          have ha : 48 ≤ (t.getD i.toNat 0).toNat := by omega
          have hb : (t.getD i.toNat 0).toNat ≤ 57 := by omega
          have hsn := dFrom_snoc (by omega) hm ha hb
          exact ⟨ht, i0, ⟨by omega, by omega⟩, m * 10 + ((t.getD i.toNat 0).toNat - 48), by omega, by rw [show (i + 1).toNat = i.toNat + 1 by omega]; exact hsn⟩
        · (try dsimp only); omega
      simp only [Bool.false_eq_true, if_true, if_false, Decidable.not_not] at h19
      (try simp only [Decidable.not_not] at h19)
      refine list_guard_n rfl rfl rfl rfl (by decide) rfl ?_
      refine list_guard_n rfl rfl rfl rfl (by decide) rfl ?_
      refine list_guard_n rfl rfl rfl rfl (by decide) rfl ?_
      refine list_cons rfl (op_q (q_pick rfl rfl (by decide)) ?_)
      refine list_nil ?_
      refine hK61 _ ?_; clear hK61 K61
      refine codeT.imp (σ' := [(0, _), (2, _), (3, _), (4, _), (5, _), (6, _), (37, _)]) ?_ (imp_covers ⟨rfl, rfl, rfl, rfl, rfl, rfl, rfl, trivial⟩)
      refine code_cond_t rfl ?_
      refine code_seq (fun K63 hK63 => ?_)
      refine code_region ?_
      refine list_cons rfl (op_q (q_assign rfl (by decide)) ?_)
      refine list_cons rfl (op_q (q_assign rfl (by decide)) ?_)
      refine list_nil ?_
      refine hK63 _ ?_; clear hK63 K63
      refine code_ret ?_
      refine then_r ?_; clear hK60 K60
      refine blk_r ?_
      refine then_r ?_; clear hK59 K59
      refine then_r ?_
      refine blk_r ?_
      refine then_r ?_; clear hK55 K55
      refine ends_ret (cs := []) rfl rfl rfl rfl trivial ?_
      first
        | (have e : ¬ RdP s := fun e => by
             have k := (rd_tail e).1
             first
             | (rw [← tail_y (by assumption) (by assumption)] at k; omega)
             | (rw [← tail_n (fun e => absurd e.2 (by assumption))] at k; omega)
             | (rw [← tail_n (fun e => absurd e.1 (by assumption))] at k; omega)
           rw [if_neg e, decide_eq_false e]; done)
        | (have e : ¬ RdP s := fun e => by
             have k := (rd_tail e).2.1 i.toNat (by rw [← ht]; omega)
             rw [← ht] at k
             omega
           rw [if_neg e, decide_eq_false e]; done)
        | (have hx := h19
           have hlen : i.toNat = t.length := by omega
           rw [hlen, List.take_length] at hm
           have e : ¬ RdP s := fun e => by
             have k1 := (rd_tail e).2.2
             have k2 := (tailM_of e).2
             rw [← ht] at k1 k2
             rw [hm] at k1
             have k3 : m = (rdV s).natAbs := Option.some.inj k1
             refine hx ?_
             first
             | (rw [show -(m : Int) = rdV s by omega]; exact e.2)
             | (rw [show (m : Int) = rdV s by omega]; exact e.2)
           rw [if_neg e, decide_eq_false e]; done)
        | (have hx := h19
           have e := rd_of (by constructor <;> omega) hx
           rw [if_pos e.1, decide_eq_true e.1, e.2]; done)
    (try simp only [Decidable.not_not] at h18)
    refine code_exit ?_
    refine then_x ?_; clear hK57 K57
    refine then_x ?_
    refine blk_hit ?_
    refine hK55 _ ?_; clear hK55 K55
    refine code_seq (fun K64 hK64 => ?_)
    refine code_seq (fun K65 hK65 => ?_)
    refine code_region ?_
    refine list_cons rfl (op_q (q_move rfl (by decide)) ?_)
    refine list_cons rfl (op_q (q_len_str Tryd.underlying9 rfl (by decide)) ?_)
    refine list_cons rfl (op_q (q_move rfl (by decide)) ?_)
    refine list_cons rfl (op_q (q_len_str Tryd.underlying9 rfl (by decide)) ?_)
    refine list_cons rfl (op_q (q_lt rfl rfl (by decide)) ?_)
    refine list_nil ?_
    refine hK65 _ ?_; clear hK65 K65
    refine codeT.imp (σ' := [(0, _), (2, _), (3, _), (4, _), (5, _), (6, _), (50, _)]) ?_ (imp_covers ⟨rfl, rfl, rfl, rfl, rfl, rfl, rfl, trivial⟩)
    refine code_cond_d rfl (fun h21 => ?_) (fun h21 => ?_)
    · skip
      (try simp only [Decidable.not_not] at h21)
      refine code_region ?_
      refine list_cons rfl (op_q (q_move rfl (by decide)) ?_)
      refine list_cons rfl (op_q (by first | exact q_negI rfl (by decide) (by omega) (by omega) | exact q_neg rfl (by decide)) ?_)
      refine list_cons rfl (op_q (q_assign rfl (by decide)) ?_)
      refine list_nil ?_
      refine hK64 _ ?_; clear hK64 K64
      refine code_seq (fun K66 hK66 => ?_)
      refine code_seq (fun K67 hK67 => ?_)
      refine code_region ?_
      refine list_cons rfl (op_q (q_move rfl (by decide)) ?_)
      refine list_cons rfl (op_call _ (l1Num_any _ (by omega) (by omega)) rfl rfl (by decide) (by decide) (by decide) rfl ?_)
      rintro _ rfl
      refine list_cons rfl (op_q (q_move rfl (by decide)) ?_)
      refine list_cons rfl (op_q (q_sne rfl rfl (by decide)) ?_)
      refine list_nil ?_
      refine hK67 _ ?_; clear hK67 K67
      refine codeT.imp (σ' := [(0, _), (2, _), (3, _), (4, _), (5, _), (6, _), (56, _)]) ?_ (imp_covers ⟨rfl, rfl, rfl, rfl, rfl, rfl, rfl, trivial⟩)
      refine code_cond_d rfl (fun h22 => ?_) (fun h22 => ?_)
      · skip
        (try simp only [Decidable.not_not] at h22)
        refine code_seq (fun K68 hK68 => ?_)
        refine code_region ?_
        refine list_cons rfl (op_q (q_assign rfl (by decide)) ?_)
        refine list_cons rfl (op_q (q_assign rfl (by decide)) ?_)
        refine list_nil ?_
        refine hK68 _ ?_; clear hK68 K68
        refine code_ret ?_
        refine then_r ?_; clear hK66 K66
        refine ends_ret (cs := []) rfl rfl rfl rfl trivial ?_
        first
          | (have e : ¬ RdP s := fun e => by
               have k := (rd_tail e).1
               first
               | (rw [← tail_y (by assumption) (by assumption)] at k; omega)
               | (rw [← tail_n (fun e => absurd e.2 (by assumption))] at k; omega)
               | (rw [← tail_n (fun e => absurd e.1 (by assumption))] at k; omega)
             rw [if_neg e, decide_eq_false e]; done)
          | (have e : ¬ RdP s := fun e => by
               have k := (rd_tail e).2.1 i.toNat (by rw [← ht]; omega)
               rw [← ht] at k
               omega
             rw [if_neg e, decide_eq_false e]; done)
          | (have hx := h22
             have hlen : i.toNat = t.length := by omega
             rw [hlen, List.take_length] at hm
             have e : ¬ RdP s := fun e => by
               have k1 := (rd_tail e).2.2
               have k2 := (tailM_of e).2
               rw [← ht] at k1 k2
               rw [hm] at k1
               have k3 : m = (rdV s).natAbs := Option.some.inj k1
               refine hx ?_
               first
               | (rw [show -(m : Int) = rdV s by omega]; exact e.2)
               | (rw [show (m : Int) = rdV s by omega]; exact e.2)
             rw [if_neg e, decide_eq_false e]; done)
          | (have hx := h22
             have e := rd_of (by constructor <;> omega) hx
             rw [if_pos e.1, decide_eq_true e.1, e.2]; done)
      (try simp only [Decidable.not_not] at h22)
      refine code_skip ?_
      refine hK66 _ ?_; clear hK66 K66
      refine code_seq (fun K69 hK69 => ?_)
      refine code_region ?_
      refine list_cons rfl (op_q (q_move rfl (by decide)) ?_)
      refine list_cons rfl (op_q (q_assign rfl (by decide)) ?_)
      refine list_cons rfl (op_q (q_assign rfl (by decide)) ?_)
      refine list_nil ?_
      refine hK69 _ ?_; clear hK69 K69
      refine code_ret ?_
      refine ends_ret (cs := []) rfl rfl rfl rfl trivial ?_
      first
        | (have e : ¬ RdP s := fun e => by
             have k := (rd_tail e).1
             first
             | (rw [← tail_y (by assumption) (by assumption)] at k; omega)
             | (rw [← tail_n (fun e => absurd e.2 (by assumption))] at k; omega)
             | (rw [← tail_n (fun e => absurd e.1 (by assumption))] at k; omega)
           rw [if_neg e, decide_eq_false e]; done)
        | (have e : ¬ RdP s := fun e => by
             have k := (rd_tail e).2.1 i.toNat (by rw [← ht]; omega)
             rw [← ht] at k
             omega
           rw [if_neg e, decide_eq_false e]; done)
        | (have hx := h22
           have hlen : i.toNat = t.length := by omega
           rw [hlen, List.take_length] at hm
           have e : ¬ RdP s := fun e => by
             have k1 := (rd_tail e).2.2
             have k2 := (tailM_of e).2
             rw [← ht] at k1 k2
             rw [hm] at k1
             have k3 : m = (rdV s).natAbs := Option.some.inj k1
             refine hx ?_
             first
             | (rw [show -(m : Int) = rdV s by omega]; exact e.2)
             | (rw [show (m : Int) = rdV s by omega]; exact e.2)
           rw [if_neg e, decide_eq_false e]; done)
        | (have hx := h22
           have e := rd_of (by constructor <;> omega) hx
           rw [if_pos e.1, decide_eq_true e.1, e.2]; done)
    (try simp only [Decidable.not_not] at h21)
    refine code_skip ?_
    refine hK64 _ ?_; clear hK64 K64
    refine code_seq (fun K70 hK70 => ?_)
    refine code_seq (fun K71 hK71 => ?_)
    refine code_region ?_
    refine list_cons rfl (op_q (q_move rfl (by decide)) ?_)
    refine list_cons rfl (op_call _ (l1Num_any _ (by omega) (by omega)) rfl rfl (by decide) (by decide) (by decide) rfl ?_)
    rintro _ rfl
    refine list_cons rfl (op_q (q_move rfl (by decide)) ?_)
    refine list_cons rfl (op_q (q_sne rfl rfl (by decide)) ?_)
    refine list_nil ?_
    refine hK71 _ ?_; clear hK71 K71
    refine codeT.imp (σ' := [(0, _), (2, _), (3, _), (4, _), (5, _), (6, _), (56, _)]) ?_ (imp_covers ⟨rfl, rfl, rfl, rfl, rfl, rfl, rfl, trivial⟩)
    refine code_cond_d rfl (fun h23 => ?_) (fun h23 => ?_)
    · skip
      (try simp only [Decidable.not_not] at h23)
      refine code_seq (fun K72 hK72 => ?_)
      refine code_region ?_
      refine list_cons rfl (op_q (q_assign rfl (by decide)) ?_)
      refine list_cons rfl (op_q (q_assign rfl (by decide)) ?_)
      refine list_nil ?_
      refine hK72 _ ?_; clear hK72 K72
      refine code_ret ?_
      refine then_r ?_; clear hK70 K70
      refine ends_ret (cs := []) rfl rfl rfl rfl trivial ?_
      first
        | (have e : ¬ RdP s := fun e => by
             have k := (rd_tail e).1
             first
             | (rw [← tail_y (by assumption) (by assumption)] at k; omega)
             | (rw [← tail_n (fun e => absurd e.2 (by assumption))] at k; omega)
             | (rw [← tail_n (fun e => absurd e.1 (by assumption))] at k; omega)
           rw [if_neg e, decide_eq_false e]; done)
        | (have e : ¬ RdP s := fun e => by
             have k := (rd_tail e).2.1 i.toNat (by rw [← ht]; omega)
             rw [← ht] at k
             omega
           rw [if_neg e, decide_eq_false e]; done)
        | (have hx := h23
           have hlen : i.toNat = t.length := by omega
           rw [hlen, List.take_length] at hm
           have e : ¬ RdP s := fun e => by
             have k1 := (rd_tail e).2.2
             have k2 := (tailM_of e).2
             rw [← ht] at k1 k2
             rw [hm] at k1
             have k3 : m = (rdV s).natAbs := Option.some.inj k1
             refine hx ?_
             first
             | (rw [show -(m : Int) = rdV s by omega]; exact e.2)
             | (rw [show (m : Int) = rdV s by omega]; exact e.2)
           rw [if_neg e, decide_eq_false e]; done)
        | (have hx := h23
           have e := rd_of (by constructor <;> omega) hx
           rw [if_pos e.1, decide_eq_true e.1, e.2]; done)
    (try simp only [Decidable.not_not] at h23)
    refine code_skip ?_
    refine hK70 _ ?_; clear hK70 K70
    refine code_seq (fun K73 hK73 => ?_)
    refine code_region ?_
    refine list_cons rfl (op_q (q_move rfl (by decide)) ?_)
    refine list_cons rfl (op_q (q_assign rfl (by decide)) ?_)
    refine list_cons rfl (op_q (q_assign rfl (by decide)) ?_)
    refine list_nil ?_
    refine hK73 _ ?_; clear hK73 K73
    refine code_ret ?_
    refine ends_ret (cs := []) rfl rfl rfl rfl trivial ?_
    first
      | (have e : ¬ RdP s := fun e => by
           have k := (rd_tail e).1
           first
           | (rw [← tail_y (by assumption) (by assumption)] at k; omega)
           | (rw [← tail_n (fun e => absurd e.2 (by assumption))] at k; omega)
           | (rw [← tail_n (fun e => absurd e.1 (by assumption))] at k; omega)
         rw [if_neg e, decide_eq_false e]; done)
      | (have e : ¬ RdP s := fun e => by
           have k := (rd_tail e).2.1 i.toNat (by rw [← ht]; omega)
           rw [← ht] at k
           omega
         rw [if_neg e, decide_eq_false e]; done)
      | (have hx := h23
         have hlen : i.toNat = t.length := by omega
         rw [hlen, List.take_length] at hm
         have e : ¬ RdP s := fun e => by
           have k1 := (rd_tail e).2.2
           have k2 := (tailM_of e).2
           rw [← ht] at k1 k2
           rw [hm] at k1
           have k3 : m = (rdV s).natAbs := Option.some.inj k1
           refine hx ?_
           first
           | (rw [show -(m : Int) = rdV s by omega]; exact e.2)
           | (rw [show (m : Int) = rdV s by omega]; exact e.2)
         rw [if_neg e, decide_eq_false e]; done)
      | (have hx := h23
         have e := rd_of (by constructor <;> omega) hx
         rw [if_pos e.1, decide_eq_true e.1, e.2]; done)

set_option maxRecDepth 4000 in
theorem spec_ParseInt (s : List UInt8) (hl : s.length ≤ 1048576) : PCalls Tryd.prog 13 [.str s] (· = [.val (.int .i64 (if RdP s then rdV s else 0)), .val (.bool (decide (RdP s)))]) := by
  refine pcalls_of_code (n := 8) az Tryd.func13 (by kernel_rfl) rfl rfl (Nat.le_of_ble_eq_true rfl) (by intro t u h; simp [Tryd.f13] at h) ?_
  refine code_seq (fun K1 hK1 => ?_)
  refine code_region ?_
  refine list_cons rfl (op_q (q_assign rfl (by decide)) ?_)
  refine list_cons rfl (op_q (q_assign rfl (by decide)) ?_)
  refine list_nil ?_
  refine hK1 _ ?_; clear hK1 K1
  refine code_seq (fun K2 hK2 => ?_)
  refine code_region ?_
  refine list_cons rfl (op_q (q_move rfl (by decide)) ?_)
  refine list_cons rfl (op_call _ (spec_l1Read _ (by omega)) rfl rfl (by decide) (by decide) (by decide) rfl ?_)
  rintro _ rfl
  refine list_cons rfl (op_q (q_extract rfl rfl (by decide)) ?_)
  refine list_cons rfl (op_q (q_extract rfl rfl (by decide)) ?_)
  refine list_cons rfl (op_q (q_assign rfl (by decide)) ?_)
  refine list_cons rfl (op_q (q_assign rfl (by decide)) ?_)
  refine list_nil ?_
  refine hK2 _ ?_; clear hK2 K2
  refine codeT.imp (σ' := [(0, _), (2, _), (3, _)]) ?_ (imp_covers ⟨rfl, rfl, rfl, trivial⟩)
  refine code_ret ?_
  refine ends_ret (cs := []) rfl rfl rfl rfl trivial ?_
  rfl

end Go.Proofs.YtiiobkibgkagbaaDoor
