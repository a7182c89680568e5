/- Contracts of functions, walked over the pure layer; each says for which arguments. -/
import Derived.Test.YtaobknhblnlegabI5pTy
import Derived.Test.YtaobknhblnlegabTf
import Derived.Test.YtaobknhblnlegabSp
import Derived.Test.YtaobknhblnlegabS4
import Derived.Test.YtaobknhblnlegabS4c
import Derived.Test.YtaobknhblnlegabS5
import Derived.Test.YtaobknhblnlegabShelf
import Derived.Test.YtaobknhblnlegabIm
import Derived.Test.YtaobknhblnlegabS5p
import Derived.Test.YtaobknhblnlegabI5
namespace Go.Proofs.Ytaobknhblnlegab
open Go.RowKit I5pTy
set_option linter.unusedVariables false
set_option linter.unusedSimpArgs false

theorem res_boxR {az : TypeId → Nat} {σ : St} {t u l T e s : Nat} {es : List (Option (Nat × List PV))} (h : σ.at t = some (.boxR l T e s es)) (haz : (az u != 0) = true) (hl : es.length = az u) : St.res az σ [.cell t u] = some [.arr l e s es] := by
  simp only [St.res, h, haz, hl, BEq.rfl, Bool.and_self, if_true]
/-- Lists of pairs, one for each distance, as they lie in an array. -/
def esP (f : Nat → List (Int × Int)) : List (Option (Nat × List PV)) := (List.range 8).map fun d => some ((f d).length, fl (f d))
theorem esP_len (f : Nat → List (Int × Int)) : (esP f).length = 8 := by simp [esP]
theorem esP_get (f : Nat → List (Int × Int)) {d : Nat} (h : d < 8) : (esP f)[d]? = some (some ((f d).length, fl (f d))) := by
  unfold esP
  rw [List.getElem?_map, List.getElem?_range h, Option.map_some]
theorem esP_get1 (f : Nat → List (Int × Int)) {d : Nat} (h : d < 8) : (esP f)[d * 1]? = some (some ((f d).length, fl (f d))) := by rw [Nat.mul_one]; exact esP_get f h
theorem esP_put {f g : Nat → List (Int × Int)} {o d : Nat} (ho : o = d) {n : Nat} {cs : List PV} (hd : d < 8) (hn : n = (g d).length) (hc : cs = fl (g d)) (he : ∀ e, e ≠ d → g e = f e) : ((esP f).set o none).set o (some (n, cs)) = esP g := by
  subst ho; subst hn; subst hc
  rw [List.set_set]
  apply List.ext_getElem?
  intro j
  by_cases e : j = o
  · subst e
    rw [List.getElem?_set_self (by rw [esP_len]; exact hd), esP_get g hd]
  · rw [List.getElem?_set_ne (Ne.symm e)]
    by_cases hj : j < 8
    · rw [esP_get f hj, esP_get g hj, he j e]
    · rw [List.getElem?_eq_none (by rw [esP_len]; omega), List.getElem?_eq_none (by rw [esP_len]; omega)]
theorem flat_app2 : ∀ {a b : List PV}, PV.flatL a = true → PV.flatL b = true → PV.flatL (a ++ b) = true
  | [], b, _, h => h
  | x :: a, b, h1, h2 => by
    simp only [PV.flatL, Bool.and_eq_true] at h1
    show (x.flat && PV.flatL (a ++ b)) = true
    rw [h1.1, flat_app2 h1.2 h2]; rfl
def fP (l : List Int) (i m : Nat) (d : Nat) : List (Int × Int) := prL l (d : Int) i ++ prR l (d : Int) i m
theorem fP_0 (l : List Int) (i d : Nat) : fP l i 0 d = prL l (d : Int) i := by unfold fP; rw [prR, List.append_nil]
theorem fP_next (l : List Int) (i : Nat) : fP l i (l.length - (i + 1)) = fP l (i + 1) 0 := by
  funext d; rw [fP_0]; rfl
theorem fP_le (l : List Int) (hl : l.length ≤ 12) {i m : Nat} (hi : i ≤ 12) (hm : m ≤ 12) (d : Nat) : (fP l i m d).length ≤ 156 := by
  unfold fP
  have h1 := prL_len l (d : Int) i
  have h2 := prR_len l (d : Int) i m
  have h3 : i * l.length ≤ 12 * 12 := Nat.mul_le_mul hi hl
  rw [List.length_append]; omega

set_option maxRecDepth 4000 in
theorem farIn1_c (l : List Int) (a b : Int) (hc : ∀ j, j < l.length → 0 ≤ l.getD j 0 ∧ l.getD j 0 ≤ 127) (ha : 0 ≤ a ∧ a < l.length) (hb : 0 ≤ b ∧ b < l.length) : PCalls Try.prog 63 [.int .i64 a, .int .i64 b, .ptr [.sl l.length (l.map (.int .i64))]] (· = [.val (.int .i64 (farC (l.getD a.toNat 0) (l.getD b.toNat 0)))]) := by
  refine pcalls_of_code (n := 15) az Try.func63 (by kernel_rfl) rfl rfl (Nat.le_of_ble_eq_true rfl) (by intro t u h; simp [Try.f63] at h) ?_
  refine codeT.imp ?_ (imp_rpar (s := 2) (i := 2) rfl)
  refine code_seq (fun K1 hK1 => ?_)
  refine code_region ?_
  refine list_cons rfl (op_q (q_assign rfl (by decide)) ?_)
  refine list_nil ?_
  refine hK1 _ ?_; clear hK1 K1
  refine code_seq (fun K2 hK2 => ?_)
  refine code_draw (by kernel_rfl) (by kernel_rfl) ?_
  refine draw_q rfl (q_load_rd one_22 rfl (.inl ⟨_, (by first | rfl | exact congrArg (SV.rpar _) (drop_map1 (PV.int .i64) 0 l (by omega))), rfl⟩) (by decide)) ?_
  refine draw_q rfl (q_move rfl (by decide)) ?_
  refine draw_q rfl (q_indexAddr_rd sl_22 rfl (.inl ⟨_, rfl, rfl⟩) rfl (by omega) (by omega) (by decide)) ?_
  refine draw_q rfl (q_load_rd one_3 rfl (.inl ⟨_, (by first | rfl | exact congrArg (SV.rpar _) (drop_map1 (PV.int .i64) 0 l (by omega))), rfl⟩) (by decide)) ?_
  refine draw_q rfl (q_load_rd one_22 rfl (.inl ⟨_, (by first | rfl | exact congrArg (SV.rpar _) (drop_map1 (PV.int .i64) 0 l (by omega))), rfl⟩) (by decide)) ?_
  refine draw_q rfl (q_move rfl (by decide)) ?_
  refine draw_q rfl (q_indexAddr_rd sl_22 rfl (.inl ⟨_, rfl, rfl⟩) rfl (by omega) (by omega) (by decide)) ?_
  refine draw_q rfl (q_load_rd one_3 rfl (.inl ⟨_, (by first | rfl | exact congrArg (SV.rpar _) (drop_map1 (PV.int .i64) 0 l (by omega))), rfl⟩) (by decide)) ?_
  refine draw_call _ (impl_farApart _ _ (hc a.toNat (by omega)) (hc b.toNat (by omega))) rfl rfl rfl (by decide) ?_
  refine draw_q rfl (q_assign rfl (by decide)) ?_
  refine draw_nil ?_
  refine hK2 _ ?_; clear hK2 K2
  refine codeT.imp (σ' := [(0, _), (1, _), (2, _), (5, _)]) ?_ (imp_covers ⟨rfl, rfl, rfl, rfl, trivial⟩)
  refine code_ret ?_
  refine ends_ret (cs := []) rfl rfl rfl rfl trivial ?_
  rfl

set_option maxRecDepth 4000 in
theorem impl_farIn (l : List Int) : MCalls Try.prog 51 true none [.sl l.length (l.map (.int .i64))] (fun rs _ => rs = [.bor 0 (.clo 63 [.ptr [.sl l.length (l.map (.int .i64))]])]) := by
  refine mcalls_of_code (n := 4) az Try.func51 (by kernel_rfl) rfl rfl (Nat.le_of_ble_eq_true rfl) (by intro t u h; simp [Try.f51] at h) ?_
  refine code_seq (fun K1 hK1 => ?_)
  refine code_region ?_
  refine list_cons rfl (op_box rfl (.inr rfl) (by decide) (by decide) rfl ?_)
  refine list_cons rfl (op_q (q_deadconst (by decide)) ?_)
  refine list_nil ?_
  refine hK1 _ ?_; clear hK1 K1
  refine code_seq (fun K2 hK2 => ?_)
  refine code_region ?_
  refine list_cons rfl (op_makeFuncB (xs := [.tmp 1]) rfl rfl rfl (by decide) (by decide) rfl ?_)
  refine list_cons rfl (op_q (q_assign rfl (by decide)) ?_)
  refine list_nil ?_
  refine hK2 _ ?_; clear hK2 K2
  refine codeT.imp (σ' := [(0, _), (1, _), (2, _)]) ?_ (imp_covers ⟨rfl, rfl, rfl, trivial⟩)
  refine code_ret ?_
  refine ends_ret (cs := []) rfl rfl rfl rfl trivial ?_
  rfl

set_option maxRecDepth 8000 in
set_option maxHeartbeats 2000000 in
theorem impl_pairs (l : List Int) (hl : l.length ≤ 12) (hc : ∀ j, j < l.length → 0 ≤ l.getD j 0 ∧ l.getD j 0 ≤ 127) : MCalls Try.prog 43 true none [.sl l.length (l.map (.int .i64))] (fun rs _ => rs = [.arr 0 68 2 (esP (fP l l.length 0))]) := by
  refine mcalls_of_code (n := 39) az Try.func43 (by kernel_rfl) rfl rfl (Nat.le_of_ble_eq_true rfl) (by intro t u h; simp [Try.f43] at h; obtain ⟨_, rfl⟩ := h <;> first | exact resTy_agg agg_50 (by decide)) ?_
  refine code_seq (fun K1 hK1 => ?_)
  refine code_region ?_
  refine list_cons rfl (op_allocR (e := 68) (size := 2) (k := 8) zt_50 (by decide) (by decide) rfl ?_)
  refine list_nil ?_
  refine hK1 _ ?_; clear hK1 K1
  refine code_seq (fun K2 hK2 => ?_)
  refine code_region ?_
  refine list_cons rfl (op_allocR (e := 68) (size := 2) (k := 8) zt_50 (by decide) (by decide) rfl ?_)
  refine list_nil ?_
  refine hK2 _ ?_; clear hK2 K2
  refine code_seq (fun K3 hK3 => ?_)
  refine code_region ?_
  refine list_cons rfl (op_q (q_move rfl (by decide)) ?_)
  refine list_cons rfl (op_callM (impl_farIn _) (.tmp 0) 0 [] [.tmp 8] _ rfl rfl (by intro y hy; cases hy) (by decide) (by decide) (by decide) rfl (by intro h; cases h) ?_)
  rintro _ _ rfl
  refine list_cons rfl (op_q (q_assign rfl (by decide)) ?_)
  refine list_nil ?_
  refine hK3 _ ?_; clear hK3 K3
  refine codeT.imp (σ' := [(0, _), (2, _), (3, _), (4, _)]) ?_ (imp_covers ⟨rfl, rfl, rfl, rfl, trivial⟩)
  refine code_seq (fun K4 hK4 => ?_)
  refine code_seq (fun K5 hK5 => ?_)
  refine code_region ?_
  refine list_cons rfl (op_q (q_move rfl (by decide)) ?_)
  refine list_cons rfl (op_q (q_len_sl Try.underlying22 rfl rfl (by decide)) ?_)
  refine list_cons rfl (op_q (q_move rfl (by decide)) ?_)
  refine list_nil ?_
  refine hK5 _ ?_; clear hK5 K5
  refine code_block ?_
  refine code_loop (X := List (Option (Nat × List PV)) × Int) (fun x => [(0, .ext (.sl l.length (l.map (.int .i64)))), (2, .boxR 2 50 68 2 (List.replicate 8 (some (0, [])))), (3, .boxR 3 50 68 2 x.1), (4, .bor 9 (.clo 63 [.ptr [.sl l.length (l.map (.int .i64))]])), (11, .val (.int .i64 l.length)), (12, .val (.int .i64 x.2))]) (fun x => 0 ≤ x.2 ∧ x.2 ≤ l.length ∧ x.1 = esP (fP l x.2.toNat 0)) (fun x => (l.length - x.2).toNat) (_, _) (imp_covers ⟨rfl, rfl, rfl, rfl, rfl, rfl, trivial⟩) ?_ ?_
  · (try dsimp only)
    exact ⟨by omega, by omega, rfl⟩
  · intro x hI
    obtain ⟨pairs_e, t12⟩ := x
    replace hI : 0 ≤ t12 ∧ t12 ≤ l.length ∧ pairs_e = esP (fP l t12.toNat 0) := hI
    show codeT _ _ _ [(0, .ext (.sl l.length (l.map (.int .i64)))), (2, .boxR 2 50 68 2 (List.replicate 8 (some (0, [])))), (3, .boxR 3 50 68 2 pairs_e), (4, .bor 9 (.clo 63 [.ptr [.sl l.length (l.map (.int .i64))]])), (11, .val (.int .i64 l.length)), (12, .val (.int .i64 t12))] _
    obtain ⟨i1, i2, rfl⟩ := hI
    refine code_seq (fun K6 hK6 => ?_)
    refine code_region ?_
    refine list_cons rfl (op_q (q_lt rfl rfl (by decide)) ?_)
    refine list_nil ?_
    refine hK6 _ ?_; clear hK6 K6
    refine code_seq (fun K7 hK7 => ?_)
    refine code_cond_d rfl (fun h1 => ?_) (fun h1 => ?_)
    · skip
      (try simp only [Decidable.not_not] at h1)
      refine code_skip ?_
      refine hK7 _ ?_; clear hK7 K7
      refine code_seq (fun K8 hK8 => ?_)
      refine code_block ?_
      refine code_seq (fun K9 hK9 => ?_)
      refine code_region ?_
      refine list_cons rfl (op_q (q_move rfl (by decide)) ?_)
      refine list_cons rfl (op_q (q_assign rfl (by decide)) ?_)
      refine list_nil ?_
      refine hK9 _ ?_; clear hK9 K9
      refine code_seq (fun K10 hK10 => ?_)
      refine code_region ?_
      refine list_cons rfl (op_q (q_move rfl (by decide)) ?_)
      refine list_cons rfl (op_q (by first | exact q_addI rfl rfl (by decide) (by omega) (by omega) | exact q_ib rfl rfl rfl (by decide)) ?_)
      refine list_cons rfl (op_q (q_assign rfl (by decide)) ?_)
      refine list_nil ?_
      refine hK10 _ ?_; clear hK10 K10
      refine code_block ?_
      refine code_loop (X := List (Option (Nat × List PV)) × Int) (fun x => [(0, .ext (.sl l.length (l.map (.int .i64)))), (2, .boxR 2 50 68 2 (List.replicate 8 (some (0, [])))), (3, .boxR 3 50 68 2 x.1), (4, .bor 9 (.clo 63 [.ptr [.sl l.length (l.map (.int .i64))]])), (5, .val (.int .i64 t12)), (6, .val (.int .i64 x.2)), (11, .val (.int .i64 l.length)), (12, .val (.int .i64 t12))]) (fun x => t12 + 1 ≤ x.2 ∧ x.2 ≤ l.length ∧ x.1 = esP (fP l t12.toNat (x.2 - (t12 + 1)).toNat)) (fun x => (l.length - x.2).toNat) (_, _) (imp_covers ⟨rfl, rfl, rfl, rfl, rfl, rfl, rfl, rfl, trivial⟩) ?_ ?_
      · (try dsimp only)
        exact ⟨by omega, by omega, by rw [show (t12 + 1 - (t12 + 1)).toNat = 0 by omega]; rfl⟩
      · intro x hI
        obtain ⟨pairs_e, other⟩ := x
        replace hI : t12 + 1 ≤ other ∧ other ≤ l.length ∧ pairs_e = esP (fP l t12.toNat (other - (t12 + 1)).toNat) := hI
        show codeT _ _ _ [(0, .ext (.sl l.length (l.map (.int .i64)))), (2, .boxR 2 50 68 2 (List.replicate 8 (some (0, [])))), (3, .boxR 3 50 68 2 pairs_e), (4, .bor 9 (.clo 63 [.ptr [.sl l.length (l.map (.int .i64))]])), (5, .val (.int .i64 t12)), (6, .val (.int .i64 other)), (11, .val (.int .i64 l.length)), (12, .val (.int .i64 t12))] _
        obtain ⟨j1, j2, rfl⟩ := hI
        refine code_seq (fun K11 hK11 => ?_)
        refine code_seq (fun K12 hK12 => ?_)
        refine code_region ?_
        refine list_cons rfl (op_q (q_move rfl (by decide)) ?_)
        refine list_cons rfl (op_q (q_move rfl (by decide)) ?_)
        refine list_cons rfl (op_q (q_len_sl Try.underlying22 rfl rfl (by decide)) ?_)
        refine list_cons rfl (op_q (q_lt rfl rfl (by decide)) ?_)
        refine list_nil ?_
        refine hK12 _ ?_; clear hK12 K12
        refine code_cond_d rfl (fun h2 => ?_) (fun h2 => ?_)
        · skip
          (try simp only [Decidable.not_not] at h2)
          refine code_skip ?_
          refine hK11 _ ?_; clear hK11 K11
          refine code_seq (fun K13 hK13 => ?_)
          refine code_block ?_
          refine code_seq (fun K14 hK14 => ?_)
          refine code_region ?_
          refine list_cons rfl (op_q (q_move rfl (by decide)) ?_)
          refine list_cons rfl (op_q (q_move rfl (by decide)) ?_)
          refine list_cons rfl (op_q (q_move rfl (by decide)) ?_)
          refine list_cons rfl (op_callV _ rfl rfl rfl rfl (pcV (farIn1_c l t12 other hc (by omega) (by omega))) (by decide) ?_)
          rintro _ rfl; have hfl := farC_le (l.getD t12.toNat 0) (l.getD other.toNat 0)
          refine list_cons rfl (op_q (q_assign rfl (by decide)) ?_)
          refine list_nil ?_
          refine hK14 _ ?_; clear hK14 K14
          refine codeT.imp (σ' := [(0, _), (2, _), (3, _), (4, _), (5, _), (6, _), (7, _), (11, _), (12, _)]) ?_ (imp_covers ⟨rfl, rfl, rfl, rfl, rfl, rfl, rfl, rfl, rfl, trivial⟩)
          refine code_region ?_
          refine list_cons rfl (op_q (q_move rfl (by decide)) ?_)
          refine list_cons rfl (op_q (q_move rfl (by decide)) ?_)
          refine list_cons rfl (op_q (q_indexAddr_arr arr_50 rfl rfl rfl (by omega) (by omega) (by decide)) ?_)
          refine list_cons rfl (op_loadR one_49 3 rfl rfl (esP_get1 _ (by omega)) (by decide) (by decide) (by decide) rfl ?_)
          refine list_cons rfl (op_q (q_move rfl (by decide)) ?_)
          refine list_cons rfl (op_q (q_move rfl (by decide)) ?_)
          refine list_cons rfl (op_q (q_build bt_68 (parts := [(0, .tmp 31), (1, .tmp 32)]) rfl rfl (by decide)) ?_)
          refine list_cons rfl (op_buildSlice sl_49 (parts := [(0, .tmp 33)]) rfl rfl rfl (by decide) (by decide) (by decide) rfl ?_)
          refine list_cons rfl (op_append_gen sl_49 (l := 30) (.inl rfl) rfl rfl (l2 := none) (.inl ⟨rfl, (by first | rfl | exact flat_map _ (fun _ => rfl) _)⟩) (by first | rfl | (simp [PV.cells, putAt, zeros]; done)) (by have hq := fP_le l hl (i := t12.toNat) (m := (other - (t12 + 1)).toNat) (by omega) (by omega) (farC (l.getD t12.toNat 0) (l.getD other.toNat 0)).toNat; omega) (by decide) (by decide) (by decide) ?_)
          refine list_cons rfl (op_q (q_indexAddr_arr arr_50 rfl rfl rfl (by omega) (by omega) (by decide)) ?_)
          refine list_cons rfl (op_storeR (one_49).2 3 rfl rfl rfl (by decide) (by decide) (by exact flat_app2 (fl_flat _) rfl) (by rw [List.length_set, esP_len]; omega) rfl ?_)
          refine list_nil ?_
          refine blk_n ?_
          refine hK13 _ ?_; clear hK13 K13
          refine codeT.imp (σ' := [(0, _), (2, _), (3, _), (4, _), (5, _), (6, _), (7, _), (11, _), (12, _)]) ?_ (imp_covers ⟨rfl, rfl, rfl, rfl, rfl, rfl, rfl, rfl, rfl, trivial⟩)
          refine code_region ?_
          refine list_cons rfl (op_q (q_move rfl (by decide)) ?_)
          refine list_cons rfl (op_q (by first | exact q_addI rfl rfl (by decide) (by omega) (by omega) | exact q_ib rfl rfl rfl (by decide)) ?_)
          refine list_cons rfl (op_q (q_assign rfl (by decide)) ?_)
          refine list_nil ?_
          refine then_n ⟨(_, _), imp_covers ⟨rfl, rfl, rfl, rfl, rfl, rfl, rfl, rfl, trivial⟩, ?_, ?_⟩
          · (try dsimp only)
            refine ⟨by omega, by omega, ?_⟩
            have hm : (other + 1 - (t12 + 1)).toNat = (other - (t12 + 1)).toNat + 1 := by omega
            have hk : t12.toNat + 1 + (other - (t12 + 1)).toNat = other.toNat := by omega
            have hdd : (((farC (l.getD t12.toNat 0) (l.getD other.toNat 0)).toNat : Nat) : Int) = farC (l.getD t12.toNat 0) (l.getD other.toNat 0) := Int.toNat_of_nonneg hfl.1
            have hy : prR l (((farC (l.getD t12.toNat 0) (l.getD other.toNat 0)).toNat : Nat) : Int) t12.toNat ((other - (t12 + 1)).toNat + 1) = _ := prR_yes (by rw [hk, hdd])
            have hG : fP l t12.toNat ((other - (t12 + 1)).toNat + 1) (farC (l.getD t12.toNat 0) (l.getD other.toNat 0)).toNat = fP l t12.toNat (other - (t12 + 1)).toNat (farC (l.getD t12.toNat 0) (l.getD other.toNat 0)).toNat ++ [(t12, other)] := by
              unfold fP
              rw [hy, ← List.append_assoc, hk, show ((t12.toNat : Nat) : Int) = t12 by omega, show ((other.toNat : Nat) : Int) = other by omega]
            rw [hm]
            refine esP_put (d := (farC (l.getD t12.toNat 0) (l.getD other.toNat 0)).toNat) (Nat.mul_one _) (by omega) ?_ ?_ (fun e he => ?_)
            · rw [hG, List.length_append]; rfl
            · rw [hG, fl_app]; rfl
            · unfold fP
              rw [prR_no (fun h => he (by rw [hk] at h; omega))]
          · (try dsimp only); omega
        · skip
          (try simp only [Decidable.not_not] at h2)
          refine code_exit ?_
          refine then_x ?_; clear hK11 K11
          refine then_x ?_
          refine blk_hit ?_
          refine blk_n ?_
          refine hK8 _ ?_; clear hK8 K8
          refine code_region ?_
          refine list_cons rfl (op_q (by first | exact q_addI rfl rfl (by decide) (by omega) (by omega) | exact q_ib rfl rfl rfl (by decide)) ?_)
          refine list_cons rfl (op_q (q_move rfl (by decide)) ?_)
          refine list_nil ?_
          refine then_n ⟨(_, _), imp_covers ⟨rfl, rfl, rfl, rfl, rfl, rfl, trivial⟩, ?_, ?_⟩
          · (try dsimp only)
            refine ⟨by omega, by omega, ?_⟩
            rw [show (t12 + 1).toNat = t12.toNat + 1 by omega, ← fP_next, show l.length - (t12.toNat + 1) = (other - (t12 + 1)).toNat by omega]
            rfl
          · (try dsimp only); omega
    · skip
      (try simp only [Decidable.not_not] at h1)
      refine code_exit ?_
      refine then_x ?_; clear hK7 K7
      refine then_x ?_
      refine blk_hit ?_
      refine hK4 _ ?_; clear hK4 K4
      refine code_seq (fun K15 hK15 => ?_)
      refine code_region ?_
      refine list_cons rfl (op_loadArr agg_50 rfl (by rw [esP_len]) (by decide) ?_)
      refine list_cons rfl (op_storeArr (agg_50).2 rfl rfl (by decide) (by decide) (by rw [esP_len]) (by simp) rfl ?_)
      refine list_nil ?_
      refine hK15 _ ?_; clear hK15 K15
      refine codeT.imp (σ' := [(0, _), (2, _), (3, _), (4, _), (11, _), (12, _)]) ?_ (imp_covers ⟨rfl, rfl, rfl, rfl, rfl, rfl, trivial⟩)
      refine code_ret ?_
      refine ends_ret (cs := []) (res_boxR rfl (by decide) (by rw [esP_len]; rfl)) rfl rfl rfl trivial ?_
      rw [show t12.toNat = l.length by omega]

set_option maxRecDepth 4000 in
theorem impl_GapOf (l : List Int) (hl : l.length ≤ 4611686018427387904) : PCalls Try.prog 35 [.sl l.length (l.map (.int .i64))] (· = [.val (.int .i64 (if CodeP l then gpL l l.length else 0)), .val (.bool (decide (CodeP l)))]) := by
  refine pcalls_of_code (n := 20) az Try.func35 (by kernel_rfl) rfl rfl (Nat.le_of_ble_eq_true rfl) (by intro t u h; simp [Try.f35] at h) ?_
  refine code_seq (fun K1 hK1 => ?_)
  refine code_region ?_
  refine list_cons rfl (op_q (q_assign rfl (by decide)) ?_)
  refine list_cons rfl (op_q (q_assign rfl (by decide)) ?_)
  refine list_nil ?_
  refine hK1 _ ?_; clear hK1 K1
  refine code_seq (fun K2 hK2 => ?_)
  refine code_seq (fun K3 hK3 => ?_)
  refine code_region ?_
  refine list_cons rfl (op_q (q_move rfl (by decide)) ?_)
  refine list_cons rfl (op_call _ (impl_IsCode _ (by omega)) rfl rfl (by decide) (by decide) (by decide) rfl ?_)
  rintro _ rfl
  refine list_cons rfl (op_q (by first | exact q_notd rfl (by decide) | exact q_not rfl (by decide)) ?_)
  refine list_nil ?_
  refine hK3 _ ?_; clear hK3 K3
  refine codeT.imp (σ' := [(0, _), (2, _), (3, _), (8, _)]) ?_ (imp_covers ⟨rfl, rfl, rfl, rfl, trivial⟩)
  refine code_cond_d rfl (fun h1 => ?_) (fun h1 => ?_)
  · skip
    (try simp only [Decidable.not_not] at h1)
    refine code_seq (fun K4 hK4 => ?_)
    refine code_region ?_
    refine list_cons rfl (op_q (q_assign rfl (by decide)) ?_)
    refine list_cons rfl (op_q (q_assign rfl (by decide)) ?_)
    refine list_nil ?_
    refine hK4 _ ?_; clear hK4 K4
    refine code_ret ?_
    refine then_r ?_; clear hK2 K2
    refine ends_ret (cs := []) rfl rfl rfl rfl trivial ?_
    first
      | (have e : ¬ CodeP l := by assumption
         simp only [if_neg e, decide_eq_false e]; done)
      | (have hx := h1
         rw [hlp] at hx
         have hg := gap_first hC (d := t11.toNat) (fun h => by rw [h] at hx; simp at hx) i3
         rw [if_pos hC, decide_eq_true hC, hg, Int.toNat_of_nonneg i1]; done)
      | (have hg := gap_none hC (fun j hj => i3 j (by omega))
         rw [if_pos hC, decide_eq_true hC, hg])
  · skip
    (try simp only [Decidable.not_not] at h1)
    refine code_skip ?_
    refine hK2 _ ?_; clear hK2 K2
    refine code_seq (fun K5 hK5 => ?_)
    refine code_seq (fun K6 hK6 => ?_)
    refine code_region ?_
    refine list_cons rfl (op_q (q_move rfl (by decide)) ?_)
    refine list_cons rfl (op_callM (impl_pairs _ (by have h12 := (by assumption : CodeP l).1; omega) (CodeP.cell (by assumption))) (.tmp 0) 0 [] [.tmp 9] _ rfl rfl (by intro y hy; cases hy) (by decide) (by decide) (by decide) rfl (by intro h; cases h) ?_)
    rintro _ _ rfl
    refine list_cons rfl (op_q (q_move rfl (by decide)) ?_)
    refine list_nil ?_
    refine hK6 _ ?_; clear hK6 K6
    refine codeT.imp (σ' := [(0, _), (2, _), (3, _), (10, _), (11, _)]) ?_ (imp_covers ⟨rfl, rfl, rfl, rfl, rfl, trivial⟩)
    refine code_block ?_
    refine code_loop (X := Int × Bool × Int) (fun x => [(0, .par 0 (.sl l.length (l.map (.int .i64)))), (2, .val (.int .i64 x.1)), (3, .val (.bool x.2.1)), (10, .arr 10 68 2 (esP (fP l l.length 0))), (11, .val (.int .i64 x.2.2))]) (fun x => CodeP l ∧ 0 ≤ x.2.2 ∧ x.2.2 ≤ 8 ∧ ∀ j, j < x.2.2.toNat → prL l (j : Int) l.length = []) (fun x => (8 - x.2.2).toNat) (_, _, _) (imp_covers ⟨rfl, rfl, rfl, rfl, rfl, trivial⟩) ?_ ?_
    · (try dsimp only)
      exact ⟨by assumption, by omega, by omega, fun j hj => by simp at hj⟩
    · intro x hI
      obtain ⟨t2, t3, t11⟩ := x
      replace hI : CodeP l ∧ 0 ≤ t11 ∧ t11 ≤ 8 ∧ ∀ j, j < t11.toNat → prL l (j : Int) l.length = [] := hI
      show codeT _ _ _ [(0, .par 0 (.sl l.length (l.map (.int .i64)))), (2, .val (.int .i64 t2)), (3, .val (.bool t3)), (10, .arr 10 68 2 (esP (fP l l.length 0))), (11, .val (.int .i64 t11))] _
      obtain ⟨hC, i1, i2, i3⟩ := hI
      have hlp : fP l l.length 0 t11.toNat = prL l ((t11.toNat : Nat) : Int) l.length := fP_0 _ _ _
      refine code_seq (fun K7 hK7 => ?_)
      refine code_region ?_
      refine list_cons rfl (op_q (q_lt rfl rfl (by decide)) ?_)
      refine list_nil ?_
      refine hK7 _ ?_; clear hK7 K7
      refine code_seq (fun K8 hK8 => ?_)
      refine code_cond_d rfl (fun h2 => ?_) (fun h2 => ?_)
      · skip
        (try simp only [Decidable.not_not] at h2)
        refine code_skip ?_
        refine hK8 _ ?_; clear hK8 K8
        refine code_seq (fun K9 hK9 => ?_)
        refine code_block ?_
        refine code_seq (fun K10 hK10 => ?_)
        refine code_region ?_
        refine list_cons rfl (op_q (q_move rfl (by decide)) ?_)
        refine list_cons rfl (op_q (q_index_arrV Try.underlying50 one_49.2 one_49 rfl rfl (by omega) (by omega) (esP_get _ (by omega)) (by decide)) ?_)
        refine list_cons rfl (op_q (q_assign rfl (by decide)) ?_)
        refine list_cons rfl (op_q (q_assign rfl (by decide)) ?_)
        refine list_nil ?_
        refine hK10 _ ?_; clear hK10 K10
        refine code_seq (fun K11 hK11 => ?_)
        refine code_region ?_
        refine list_cons rfl (op_q (q_move rfl (by decide)) ?_)
        refine list_cons rfl (op_q (q_len_sl Try.underlying49 rfl rfl (by decide)) ?_)
        refine list_cons rfl (op_q (q_gt rfl rfl (by decide)) ?_)
        refine list_nil ?_
        refine hK11 _ ?_; clear hK11 K11
        refine code_cond_d rfl (fun h3 => ?_) (fun h3 => ?_)
        · skip
          (try simp only [Decidable.not_not] at h3)
          refine code_seq (fun K12 hK12 => ?_)
          refine code_region ?_
          refine list_cons rfl (op_q (q_move rfl (by decide)) ?_)
          refine list_cons rfl (op_q (q_assign rfl (by decide)) ?_)
          refine list_cons rfl (op_q (q_assign rfl (by decide)) ?_)
          refine list_nil ?_
          refine hK12 _ ?_; clear hK12 K12
          refine codeT.imp (σ' := [(0, _), (2, _), (3, _), (4, _), (5, _), (10, _), (11, _)]) ?_ (imp_covers ⟨rfl, rfl, rfl, rfl, rfl, rfl, rfl, trivial⟩)
          refine code_ret ?_
          refine blk_r ?_
          refine then_r ?_; clear hK9 K9
          refine then_r ?_
          refine blk_r ?_
          refine then_r ?_; clear hK5 K5
          refine ends_ret (cs := []) rfl rfl rfl rfl trivial ?_
          first
            | (have e : ¬ CodeP l := by assumption
               simp only [if_neg e, decide_eq_false e]; done)
            | (have hx := h3
               rw [hlp] at hx
               have hg := gap_first hC (d := t11.toNat) (fun h => by rw [h] at hx; simp at hx) i3
               rw [if_pos hC, decide_eq_true hC, hg, Int.toNat_of_nonneg i1]; done)
            | (have hg := gap_none hC (fun j hj => i3 j (by omega))
               rw [if_pos hC, decide_eq_true hC, hg])
        · skip
          (try simp only [Decidable.not_not] at h3)
          refine code_skip ?_
          refine blk_n ?_
          refine hK9 _ ?_; clear hK9 K9
          refine code_region ?_
          refine list_cons rfl (op_q (by first | exact q_addI rfl rfl (by decide) (by omega) (by omega) | exact q_ib rfl rfl rfl (by decide)) ?_)
          refine list_cons rfl (op_q (q_move rfl (by decide)) ?_)
          refine list_nil ?_
          refine then_n ⟨(_, _, _), imp_covers ⟨rfl, rfl, rfl, rfl, rfl, trivial⟩, ?_, ?_⟩
          · (try dsimp only)
            refine ⟨hC, by omega, by omega, fun j hj => ?_⟩
            by_cases e : j = t11.toNat
            · subst e
              have hx := h3
              rw [hlp] at hx
              exact List.eq_nil_of_length_eq_zero (by omega)
            · exact i3 j (by omega)
          · (try dsimp only); omega
      · skip
        (try simp only [Decidable.not_not] at h2)
        refine code_exit ?_
        refine then_x ?_; clear hK8 K8
        refine then_x ?_
        refine blk_hit ?_
        refine hK5 _ ?_; clear hK5 K5
        refine code_seq (fun K13 hK13 => ?_)
        refine code_region ?_
        refine list_cons rfl (op_q (q_assign rfl (by decide)) ?_)
        refine list_cons rfl (op_q (q_assign rfl (by decide)) ?_)
        refine list_nil ?_
        refine hK13 _ ?_; clear hK13 K13
        refine code_ret ?_
        refine ends_ret (cs := []) rfl rfl rfl rfl trivial ?_
        first
          | (have e : ¬ CodeP l := by assumption
             simp only [if_neg e, decide_eq_false e]; done)
          | (have hx := h2
             rw [hlp] at hx
             have hg := gap_first hC (d := t11.toNat) (fun h => by rw [h] at hx; simp at hx) i3
             rw [if_pos hC, decide_eq_true hC, hg, Int.toNat_of_nonneg i1]; done)
          | (have hg := gap_none hC (fun j hj => i3 j (by omega))
             rw [if_pos hC, decide_eq_true hC, hg])

set_option maxRecDepth 4000 in
theorem impl_CountFar (l : List Int) (d : Int) (hl : l.length ≤ 4611686018427387904) : PCalls Try.prog 13 [.sl l.length (l.map (.int .i64)), .int .i64 d] (· = [.val (.int .i64 (if CodeP l ∧ 1 ≤ d ∧ d ≤ 7 then ((cfL l d l.length : Nat) : Int) else 0)), .val (.bool (decide (CodeP l ∧ 1 ≤ d ∧ d ≤ 7)))]) := by
  refine pcalls_of_code (n := 19) az Try.func13 (by kernel_rfl) rfl rfl (Nat.le_of_ble_eq_true rfl) (by intro t u h; simp [Try.f13] at h) ?_
  refine code_seq (fun K1 hK1 => ?_)
  refine code_region ?_
  refine list_cons rfl (op_q (q_assign rfl (by decide)) ?_)
  refine list_cons rfl (op_q (q_assign rfl (by decide)) ?_)
  refine list_nil ?_
  refine hK1 _ ?_; clear hK1 K1
  refine code_seq (fun K2 hK2 => ?_)
  refine code_seq (fun K3 hK3 => ?_)
  refine code_region ?_
  refine list_cons rfl (op_q (q_move rfl (by decide)) ?_)
  refine list_cons rfl (op_call _ (impl_IsCode _ (by omega)) rfl rfl (by decide) (by decide) (by decide) rfl ?_)
  rintro _ rfl
  refine list_cons rfl (op_q (by first | exact q_notd rfl (by decide) | exact q_not rfl (by decide)) ?_)
  refine list_cons rfl (op_q (q_move rfl (by decide)) ?_)
  refine list_guard_d rfl rfl rfl rfl (by decide) rfl (by decide) (fun h1 => ?_) (fun h1 => ?_)
  · simp only [Bool.false_eq_true, if_true, if_false, Decidable.not_not] at h1
    refine id (op_q (q_move rfl (by decide)) ?_)
    refine list_guard_y rfl rfl rfl rfl (by decide) rfl ?_
    refine id (op_call _ (impl_isDistance _) rfl rfl (by decide) (by decide) (by decide) rfl ?_)
    rintro _ rfl
    refine list_guard_y rfl rfl rfl rfl (by decide) rfl ?_
    refine id (op_q (by first | exact q_notd rfl (by decide) | exact q_not rfl (by decide)) ?_)
    refine list_cons rfl (op_q (q_pick rfl rfl (by decide)) ?_)
    refine list_nil ?_
    refine hK3 _ ?_; clear hK3 K3
    refine codeT.imp (σ' := [(0, _), (1, _), (4, _), (5, _), (13, _)]) ?_ (imp_covers ⟨rfl, rfl, rfl, rfl, rfl, trivial⟩)
    refine code_cond_d rfl (fun h2 => ?_) (fun h2 => ?_)
    · skip
      (try simp only [Decidable.not_not] at h2)
      refine code_seq (fun K4 hK4 => ?_)
      refine code_region ?_
      refine list_cons rfl (op_q (q_assign rfl (by decide)) ?_)
      refine list_cons rfl (op_q (q_assign rfl (by decide)) ?_)
      refine list_nil ?_
      refine hK4 _ ?_; clear hK4 K4
      refine code_ret ?_
      refine then_r ?_; clear hK2 K2
      refine ends_ret (cs := []) rfl rfl rfl rfl trivial ?_
      first
        | (have e : ¬ (CodeP l ∧ 1 ≤ d ∧ d ≤ 7) := fun e => absurd e.1 (by assumption)
           simp only [if_neg e, decide_eq_false e]; done)
        | (have e : ¬ (CodeP l ∧ 1 ≤ d ∧ d ≤ 7) := fun e => absurd e.2 (by assumption)
           simp only [if_neg e, decide_eq_false e]; done)
        | (have e : CodeP l ∧ 1 ≤ d ∧ d ≤ 7 := ⟨by assumption, by assumption⟩
           have hq := prL_count l d
           simp only [if_pos e, decide_eq_true e, fP_0, show ((d.toNat : Nat) : Int) = d by omega, hq])
    · skip
      (try simp only [Decidable.not_not] at h2)
      refine code_skip ?_
      refine hK2 _ ?_; clear hK2 K2
      refine code_seq (fun K5 hK5 => ?_)
      refine code_region ?_
      refine list_cons rfl (op_q (q_move rfl (by decide)) ?_)
      refine list_cons rfl (op_callM (impl_pairs _ (by have h12 := (by assumption : CodeP l).1; omega) (CodeP.cell (by assumption))) (.tmp 0) 0 [] [.tmp 14] _ rfl rfl (by intro y hy; cases hy) (by decide) (by decide) (by decide) rfl (by intro h; cases h) ?_)
      rintro _ _ rfl
      refine list_cons rfl (op_q (q_move rfl (by decide)) ?_)
      refine list_cons rfl (op_q (q_index_arrV Try.underlying50 one_49.2 one_49 rfl rfl (by omega) (by omega) (esP_get _ (by omega)) (by decide)) ?_)
      refine list_cons rfl (op_q (q_len_sl Try.underlying49 rfl rfl (by decide)) ?_)
      refine list_cons rfl (op_q (q_assign rfl (by decide)) ?_)
      refine list_cons rfl (op_q (q_assign rfl (by decide)) ?_)
      refine list_nil ?_
      refine hK5 _ ?_; clear hK5 K5
      refine codeT.imp (σ' := [(0, _), (1, _), (4, _), (5, _)]) ?_ (imp_covers ⟨rfl, rfl, rfl, rfl, trivial⟩)
      refine code_ret ?_
      refine ends_ret (cs := []) rfl rfl rfl rfl trivial ?_
      first
        | (have e : ¬ (CodeP l ∧ 1 ≤ d ∧ d ≤ 7) := fun e => absurd e.1 (by assumption)
           simp only [if_neg e, decide_eq_false e]; done)
        | (have e : ¬ (CodeP l ∧ 1 ≤ d ∧ d ≤ 7) := fun e => absurd e.2 (by assumption)
           simp only [if_neg e, decide_eq_false e]; done)
        | (have e : CodeP l ∧ 1 ≤ d ∧ d ≤ 7 := ⟨by assumption, by assumption⟩
           have hq := prL_count l d
           simp only [if_pos e, decide_eq_true e, fP_0, show ((d.toNat : Nat) : Int) = d by omega, hq])
  · simp only [Bool.false_eq_true, if_true, if_false, Decidable.not_not] at h1
    refine list_guard_n rfl rfl rfl rfl (by decide) rfl ?_
    refine list_guard_n rfl rfl rfl rfl (by decide) rfl ?_
    refine list_cons rfl (op_q (q_pick rfl rfl (by decide)) ?_)
    refine list_nil ?_
    refine hK3 _ ?_; clear hK3 K3
    refine code_cond_t rfl ?_
    refine code_seq (fun K6 hK6 => ?_)
    refine code_region ?_
    refine list_cons rfl (op_q (q_assign rfl (by decide)) ?_)
    refine list_cons rfl (op_q (q_assign rfl (by decide)) ?_)
    refine list_nil ?_
    refine hK6 _ ?_; clear hK6 K6
    refine code_ret ?_
    refine then_r ?_; clear hK2 K2
    refine ends_ret (cs := []) rfl rfl rfl rfl trivial ?_
    first
      | (have e : ¬ (CodeP l ∧ 1 ≤ d ∧ d ≤ 7) := fun e => absurd e.1 (by assumption)
         simp only [if_neg e, decide_eq_false e]; done)
      | (have e : ¬ (CodeP l ∧ 1 ≤ d ∧ d ≤ 7) := fun e => absurd e.2 (by assumption)
         simp only [if_neg e, decide_eq_false e]; done)
      | (have e : CodeP l ∧ 1 ≤ d ∧ d ≤ 7 := ⟨by assumption, by assumption⟩
         have hq := prL_count l d
         simp only [if_pos e, decide_eq_true e, fP_0, show ((d.toNat : Nat) : Int) = d by omega, hq])

end Go.Proofs.Ytaobknhblnlegab
