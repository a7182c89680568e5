/- Contracts of functions, walked over the pure layer; each says for which arguments. -/
import Derived.Test.YtjbbijlbenkgcaaDoorIm3gTy
import Derived.Test.YtjbbijlbenkgcaaDoorTf
import Derived.Test.YtjbbijlbenkgcaaDoorSp
import Derived.Test.YtjbbijlbenkgcaaDoorS3
import Derived.Test.YtjbbijlbenkgcaaDoorShelf
import Derived.Test.YtjbbijlbenkgcaaDoorIm
import Derived.Test.YtjbbijlbenkgcaaDoorS3b
import Derived.Test.YtjbbijlbenkgcaaDoorS3d
import Derived.Test.YtjbbijlbenkgcaaDoorIm3f
namespace Go.Proofs.YtjbbijlbenkgcaaDoor
open Go.RowKit Im3gTy
set_option linter.unusedVariables false
set_option linter.unusedSimpArgs false

abbrev GM := List (PV × Option (Nat × List PV))
/-- The entries, as the state tells them. -/
def gE (m : List (Int × List Int)) : GM := m.map fun p => (.int .i64 p.1, some (p.2.length, p.2.map (.int .i64)))
theorem gE_len (m : List (Int × List Int)) : (gE m).length = m.length := by simp [gE]
theorem gE_at {m : List (Int × List Int)} {i : Nat} {c : Int} {v : List Int} (h : m[i]? = some (c, v)) : (gE m)[i]? = some (.int .i64 c, some (v.length, v.map (.int .i64))) := by
  unfold gE; rw [List.getElem?_map, h]; rfl
theorem findG_gE (c : Int) : ∀ (m : List (Int × List Int)) (i : Nat), findG (.int .i64) (.int .i64 c) (gE m) i = some (posI c m i)
  | [], i => rfl
  | p :: r, i => by
    have ih := findG_gE c r (i + 1)
    have hk : keyEq (.int .i64) (.int .i64 c) (.int .i64 p.1) = some (decide (c = p.1)) := by
      show (bif kEq .i64 .i64 then some (intEq c p.1) else none) = _
      rw [show kEq .i64 .i64 = true from rfl, cond_true, intEq_eq]
      by_cases e : c = p.1
      · subst e; simp
      · rw [decide_eq_false e]; simp [e]
    show (match keyEq (.int .i64) (.int .i64 c) (.int .i64 p.1) with
      | some true => some (some i)
      | some false => findG (.int .i64) (.int .i64 c) (gE r) (i + 1)
      | none => none) = some (if c = p.1 then some i else posI c r (i + 1))
    rw [hk]
    by_cases e : c = p.1
    · rw [if_pos e, decide_eq_true e]
    · rw [if_neg e, decide_eq_false e]; exact ih
theorem findG_set {t : TK} {k k' : PV} {o o' : Option (Nat × List PV)} : ∀ {es : GM} {j i : Nat}, es[j]? = some (k', o) → findG t k (es.set j (k', o')) i = findG t k es i
  | [], j, i, h => by simp at h
  | (k0, o0) :: r, 0, i, h => by
    simp at h; obtain ⟨rfl, rfl⟩ := h; rfl
  | (k0, o0) :: r, j + 1, i, h => by
    have ih := @findG_set t k k' o o' r j (i + 1) (by simpa using h)
    show (match keyEq t k k0 with
      | some true => some (some i)
      | some false => findG t k (r.set j (k', o')) (i + 1)
      | none => none) = _
    rw [ih]; rfl
theorem gE_hit {c d : Int} : ∀ {m : List (Int × List Int)} {i j : Nat} {v : List Int} {o : Option (Nat × List PV)}, posI c m i = some (i + j) → m[j]? = some (c, v) → ((gE m).set j (.int .i64 c, o)).set j (.int .i64 c, some (v.length + 1, v.map (.int .i64) ++ [.int .i64 d])) = gE (upI c d m)
  | [], i, j, v, o, h, _ => by simp [posI] at h
  | p :: r, i, j, v, o, h, hv => by
    unfold posI at h
    unfold upI
    split at h
    · rename_i hc
      have hj : j = 0 := by simp only [Option.some.injEq] at h; omega
      subst hj
      simp at hv
      rw [if_pos hc]
      subst hv
      simp [gE]
    · rename_i hc
      have hle := posI_le c r (i + 1) (i + j) h
      rw [if_neg hc]
      obtain ⟨j, rfl⟩ : ∃ j', j = j' + 1 := ⟨j - 1, by omega⟩
      have ih := @gE_hit c d r (i + 1) j v o (by rw [h]; congr 1; omega) (by simpa using hv)
      show _ :: _ = _ :: gE (upI c d r)
      rw [← ih]; rfl
theorem gE_miss {c d : Int} : ∀ {m : List (Int × List Int)} {i : Nat}, posI c m i = none → gE m ++ [(.int .i64 c, some (0 + 1, [] ++ [.int .i64 d]))] = gE (upI c d m)
  | [], i, h => rfl
  | p :: r, i, h => by
    unfold posI at h
    unfold upI
    split at h
    · cases h
    · rename_i hc
      rw [if_neg hc]
      have ih := @gE_miss c d r (i + 1) h
      show _ :: (gE r ++ _) = _ :: gE (upI c d r)
      rw [← ih]
theorem flat_snoc (l : List Int) (d : Int) : PV.flatL (l.map (PV.int .i64) ++ [PV.int .i64 d]) = true := by
  have : l.map (PV.int .i64) ++ [PV.int .i64 d] = (l ++ [d]).map (PV.int .i64) := by simp
  rw [this]; exact flat_map _ (fun _ => rfl) _

theorem impl_CellOf_ok (d : Int) (h0 : 0 ≤ d) (h1 : d ≤ 9) : PCalls Tryd.prog 18 [.int .i64 d] (· = [.val (.int .i64 (digT.getD d.toNat 0)), .val (.bool true)]) := by
  have := impl_CellOf d
  rw [if_pos ⟨h0, h1⟩, decide_eq_true ⟨h0, h1⟩] at this; exact this
theorem impl_ShownCell_ok (fx fy c : Int) (h : FaultP fx fy) (hc : 0 ≤ c ∧ c ≤ 127) : PCalls Tryd.prog 19 [.agg [.int .i64 fx, .int .i64 fy], .int .i64 c] (· = [.val (.int .i64 (shF fx fy c)), .val (.bool true)]) := by
  have := impl_ShownCell fx fy c
  rw [if_pos ⟨h, hc⟩, decide_eq_true (show FaultP fx fy ∧ 0 ≤ c ∧ c ≤ 127 from ⟨h, hc⟩)] at this; exact this
theorem impl_ShownCell_bad (fx fy c : Int) (h : ¬ FaultP fx fy) : PCalls Tryd.prog 19 [.agg [.int .i64 fx, .int .i64 fy], .int .i64 c] (· = [.val (.int .i64 0), .val (.bool false)]) := by
  have := impl_ShownCell fx fy c
  rw [if_neg (fun k => h k.1), decide_eq_false (fun k : FaultP fx fy ∧ 0 ≤ c ∧ c ≤ 127 => h k.1)] at this; exact this

set_option maxRecDepth 4000 in
theorem impl_digitsByImage_ok (fx fy : Int) (hF : FaultP fx fy) : PCalls Tryd.prog 134 [.agg [.int .i64 fx, .int .i64 fy]] (· = [.gmap 0 3 true (gE (gI fx fy 10)), .val (.bool true)]) := by
  refine pcalls_of_code (n := 41) az Tryd.func134 (by kernel_rfl) rfl rfl (Nat.le_of_ble_eq_true rfl) (by intro t u h; simp [Tryd.f134] at h) ?_
  refine code_seq (fun K1 hK1 => ?_)
  refine code_region ?_
  refine list_cons rfl (op_box rfl (.inl ⟨rfl, rfl⟩) (by decide) (by decide) rfl ?_)
  refine list_cons rfl (op_q (q_nilmapG (e := 3) (by decide)) ?_)
  refine list_cons rfl (op_q (q_assign rfl (by decide)) ?_)
  refine list_nil ?_
  refine hK1 _ ?_; clear hK1 K1
  refine code_seq (fun K2 hK2 => ?_)
  refine code_region ?_
  refine list_cons rfl (op_makeMapG (e := 3) Tryd.underlying122 (.inr ⟨_, _, rfl, rfl⟩) (by decide) (by decide) rfl ?_)
  refine list_cons rfl (op_q (q_assign rfl (by decide)) ?_)
  refine list_nil ?_
  refine hK2 _ ?_; clear hK2 K2
  refine codeT.imp (σ' := [(0, _), (1, _), (2, _), (3, _), (4, _)]) ?_ (imp_covers ⟨rfl, rfl, rfl, rfl, rfl, trivial⟩)
  refine code_seq (fun K3 hK3 => ?_)
  refine code_seq (fun K4 hK4 => ?_)
  refine code_region ?_
  refine list_cons rfl (op_q (q_move rfl (by decide)) ?_)
  refine list_nil ?_
  refine hK4 _ ?_; clear hK4 K4
  refine code_block ?_
  refine code_loop (X := List (PV × Option (Nat × List PV)) × Bool × List (PV × Option (Nat × List PV)) × Int) (fun x => [(0, .val (.agg [.int .i64 fx, .int .i64 fy])), (1, .box 1 42 [.int .i64 fx, .int .i64 fy]), (2, .gmap 2 3 false x.1), (3, .val (.bool x.2.1)), (4, .gmap 10 3 true x.2.2.1), (11, .val (.int .i64 x.2.2.2))]) (fun x => 0 ≤ x.2.2.2 ∧ x.2.2.2 ≤ 10 ∧ x.2.2.1 = gE (gI fx fy x.2.2.2.toNat)) (fun x => 10 - x.2.2.2.toNat) (_, _, _, _) (imp_covers ⟨rfl, rfl, rfl, rfl, rfl, rfl, trivial⟩) ?_ ?_
  · (try dsimp only)
    exact ⟨by omega, by omega, rfl⟩
  · intro x hI
    obtain ⟨t2_m, t3, images_m, t11⟩ := x
    replace hI : 0 ≤ t11 ∧ t11 ≤ 10 ∧ images_m = gE (gI fx fy t11.toNat) := hI
    show codeT _ _ _ [(0, .val (.agg [.int .i64 fx, .int .i64 fy])), (1, .box 1 42 [.int .i64 fx, .int .i64 fy]), (2, .gmap 2 3 false t2_m), (3, .val (.bool t3)), (4, .gmap 10 3 true images_m), (11, .val (.int .i64 t11))] _
    obtain ⟨i1, i2, rfl⟩ := hI
    have hdl := digsK_len fx fy (shF fx fy (digT.getD t11.toNat 0)) t11.toNat
    have hfnd := gI_find fx fy (shF fx fy (digT.getD t11.toNat 0)) t11.toNat
    refine code_seq (fun K5 hK5 => ?_)
    refine code_region ?_
    refine list_cons rfl (op_q (q_lt rfl rfl (by decide)) ?_)
    refine list_nil ?_
    refine hK5 _ ?_; clear hK5 K5
    refine code_seq (fun K6 hK6 => ?_)
    refine code_cond_d rfl (fun h1 => ?_) (fun h1 => ?_)
    · skip
      (try simp only [Decidable.not_not] at h1)
      refine code_skip ?_
      refine hK6 _ ?_; clear hK6 K6
      refine code_seq (fun K7 hK7 => ?_)
      refine code_block ?_
      refine code_seq (fun K8 hK8 => ?_)
      refine code_region ?_
      refine list_cons rfl (op_q (q_move rfl (by decide)) ?_)
      refine list_cons rfl (op_q (q_assign rfl (by decide)) ?_)
      refine list_nil ?_
      refine hK8 _ ?_; clear hK8 K8
      refine code_seq (fun K9 hK9 => ?_)
      refine code_region ?_
      refine list_cons rfl (op_q (q_move rfl (by decide)) ?_)
      refine list_cons rfl (op_call _ (impl_CellOf_ok _ (by omega) (by omega)) rfl rfl (by decide) (by decide) (by decide) rfl ?_)
      rintro _ rfl
      refine list_cons rfl (op_q (q_move rfl (by decide)) ?_)
      refine list_cons rfl (op_q (q_extract rfl rfl (by decide)) ?_)
      refine list_cons rfl (op_q (q_extract rfl rfl (by decide)) ?_)
      refine list_cons rfl (op_q (q_assign rfl (by decide)) ?_)
      refine list_cons rfl (op_q (q_assign rfl (by decide)) ?_)
      refine list_nil ?_
      refine hK9 _ ?_; clear hK9 K9
      refine codeT.imp (σ' := [(0, _), (1, _), (2, _), (3, _), (4, _), (5, _), (6, _), (7, _), (11, _)]) ?_ (imp_covers ⟨rfl, rfl, rfl, rfl, rfl, rfl, rfl, rfl, rfl, trivial⟩)
      refine code_seq (fun K10 hK10 => ?_)
      refine code_region ?_
      refine list_cons rfl (op_q (q_load_agg agg_42 1 (.inr ⟨rfl, _, rfl⟩) rfl rfl (by first | decide | omega | exact Nat.le_refl _ | (simp; done) | (simp; omega)) (by first | rfl | exact flat_part (flat_map _ (fun _ => rfl) _) _ _) (by decide)) ?_)
      refine list_cons rfl (op_q (q_move rfl (by decide)) ?_)
      refine list_cons rfl (op_call _ (impl_ShownCell_ok _ _ _ hF (digT_cell _)) rfl rfl (by decide) (by decide) (by decide) rfl ?_)
      rintro _ rfl
      refine list_cons rfl (op_q (q_move rfl (by decide)) ?_)
      refine list_cons rfl (op_q (q_extract rfl rfl (by decide)) ?_)
      refine list_cons rfl (op_q (q_extract rfl rfl (by decide)) ?_)
      refine list_cons rfl (op_q (q_assign rfl (by decide)) ?_)
      refine list_cons rfl (op_q (q_assign rfl (by decide)) ?_)
      refine list_nil ?_
      refine hK10 _ ?_; clear hK10 K10
      refine codeT.imp (σ' := [(0, _), (1, _), (2, _), (3, _), (4, _), (5, _), (6, _), (7, _), (8, _), (9, _), (11, _)]) ?_ (imp_covers ⟨rfl, rfl, rfl, rfl, rfl, rfl, rfl, rfl, rfl, rfl, rfl, trivial⟩)
      refine code_seq (fun K11 hK11 => ?_)
      refine code_seq (fun K12 hK12 => ?_)
      refine code_region ?_
      refine list_cons rfl (op_q (q_move rfl (by decide)) ?_)
      refine list_cons rfl (op_q (by first | exact q_notd rfl (by decide) | exact q_not rfl (by decide)) ?_)
      refine list_cons rfl (op_q (q_move rfl (by decide)) ?_)
      refine list_guard_y rfl rfl rfl rfl (by decide) rfl ?_
      refine id (op_q (q_move rfl (by decide)) ?_)
      refine list_guard_y rfl rfl rfl rfl (by decide) rfl ?_
      refine id (op_q (by first | exact q_notd rfl (by decide) | exact q_not rfl (by decide)) ?_)
      refine list_cons rfl (op_q (q_pick rfl rfl (by decide)) ?_)
      refine list_nil ?_
      refine hK12 _ ?_; clear hK12 K12
      refine code_cond_f rfl ?_
      refine code_skip ?_
      refine hK11 _ ?_; clear hK11 K11
      refine code_region ?_
      refine list_cons rfl (op_q (q_move rfl (by decide)) ?_)
      refine list_cons rfl (op_q (q_move rfl (by decide)) ?_)
      refine list_cons rfl (op_q (q_move rfl (by decide)) ?_)
      refine list_cons rfl (op_q (q_move rfl (by decide)) ?_)
      by_cases h2 : digsK fx fy (shF fx fy (digT.getD t11.toNat 0)) t11.toNat ≠ []
      · skip
        obtain ⟨i, hi1, hi2⟩ := (hfnd.resolve_left (fun k => h2 k.1)).2
        refine list_cons rfl (op_lookupG (tk := .int .i64) Tryd.underlying122 Tryd.underlying3 rfl rfl rfl (by rw [findG_gE, hi1]) (gE_at hi2) (by decide) (by decide) (by decide) rfl ?_)
        refine list_cons rfl (op_q (q_move rfl (by decide)) ?_)
        refine list_cons rfl (op_buildSlice sl_24 (parts := [(0, .tmp 36)]) rfl rfl rfl (by decide) (by decide) (by decide) rfl ?_)
        refine list_cons rfl (op_append_gen sl_24 (l := 35) (.inl rfl) rfl rfl (l2 := none) (.inl ⟨rfl, (by first | rfl | exact flat_map _ (fun _ => rfl) _)⟩) (by first | rfl | simp | omega) (by omega) (by decide) (by decide) (by decide) ?_)
        refine list_cons rfl (op_mapsetG (tk := .int .i64) (.inl rfl) rfl Tryd.underlying122 Tryd.underlying3 rfl rfl rfl (by decide) (by decide) (by first | rfl | exact flat_map _ (fun _ => rfl) _ | exact flat_snoc _ _) rfl (by first | exact (findG_set (gE_at hi2)).trans ((findG_gE _ _ _).trans (congrArg some hi1)) | exact (findG_gE _ _ _).trans (congrArg some hmiss)) ?_)
        refine list_nil ?_
        refine blk_n ?_
        refine hK7 _ ?_; clear hK7 K7
        refine codeT.imp (σ' := [(0, _), (1, _), (2, _), (3, _), (4, _), (5, _), (6, _), (7, _), (8, _), (9, _), (11, _)]) ?_ (imp_covers ⟨rfl, rfl, rfl, rfl, rfl, rfl, rfl, rfl, rfl, rfl, rfl, trivial⟩)
        refine code_region ?_
        refine list_cons rfl (op_q (by first | exact q_addI rfl rfl (by decide) (by omega) (by omega) | exact q_ib rfl rfl rfl (by decide)) ?_)
        refine list_cons rfl (op_q (q_move rfl (by decide)) ?_)
        refine list_nil ?_
        refine then_n ⟨(_, _, _, _), imp_covers ⟨rfl, rfl, rfl, rfl, rfl, rfl, trivial⟩, ?_, ?_⟩
        · (try dsimp only)
          refine ⟨by omega, by omega, ?_⟩
          rw [show (t11 + 1).toNat = t11.toNat + 1 by omega, show ∀ k, gI fx fy (k + 1) = upI (shD fx fy k) (k : Int) (gI fx fy k) from fun _ => rfl, show ((t11.toNat : Nat) : Int) = t11 by omega]
          exact gE_hit (i := 0) (by rw [hi1, Nat.zero_add]) hi2
        · (try dsimp only); omega
      · skip
        have hmiss := (hfnd.resolve_right (fun k => k.1 (Decidable.not_not.1 h2))).2
        have hmi0 := Decidable.not_not.1 h2
        refine list_cons rfl (op_q (q_lookupG_miss (tk := .int .i64) Tryd.underlying122 Tryd.underlying3 zvt_24 rfl rfl rfl (by rw [findG_gE, hmiss]) (by decide)) ?_)
        refine list_cons rfl (op_q (q_move rfl (by decide)) ?_)
        refine list_cons rfl (op_buildSlice sl_24 (parts := [(0, .tmp 36)]) rfl rfl rfl (by decide) (by decide) (by decide) rfl ?_)
        refine list_cons rfl (op_append_gen sl_24 (l := 38) (m := 0) (cs := []) (.inr ⟨rfl, rfl, rfl, by first | decide | simp [St.labels, SV.labels, St.setg, St.setl, St.kill, SV.isG, SV.back]⟩) rfl rfl (l2 := none) (.inl ⟨rfl, (by first | rfl | exact flat_map _ (fun _ => rfl) _)⟩) (by first | rfl | simp | omega) (by omega) (by decide) (by decide) (by decide) ?_)
        refine list_cons rfl (op_mapsetG (tk := .int .i64) (.inl rfl) rfl Tryd.underlying122 Tryd.underlying3 rfl rfl rfl (by decide) (by decide) (by first | rfl | exact flat_map _ (fun _ => rfl) _ | exact flat_snoc _ _) rfl (by first | exact (findG_set (gE_at hi2)).trans ((findG_gE _ _ _).trans (congrArg some hi1)) | exact (findG_gE _ _ _).trans (congrArg some hmiss)) ?_)
        refine list_nil ?_
        refine blk_n ?_
        refine hK7 _ ?_; clear hK7 K7
        refine codeT.imp (σ' := [(0, _), (1, _), (2, _), (3, _), (4, _), (5, _), (6, _), (7, _), (8, _), (9, _), (11, _)]) ?_ (imp_covers ⟨rfl, rfl, rfl, rfl, rfl, rfl, rfl, rfl, rfl, rfl, rfl, trivial⟩)
        refine code_region ?_
        refine list_cons rfl (op_q (by first | exact q_addI rfl rfl (by decide) (by omega) (by omega) | exact q_ib rfl rfl rfl (by decide)) ?_)
        refine list_cons rfl (op_q (q_move rfl (by decide)) ?_)
        refine list_nil ?_
        refine then_n ⟨(_, _, _, _), imp_covers ⟨rfl, rfl, rfl, rfl, rfl, rfl, trivial⟩, ?_, ?_⟩
        · (try dsimp only)
          refine ⟨by omega, by omega, ?_⟩
          rw [show (t11 + 1).toNat = t11.toNat + 1 by omega, show ∀ k, gI fx fy (k + 1) = upI (shD fx fy k) (k : Int) (gI fx fy k) from fun _ => rfl, show ((t11.toNat : Nat) : Int) = t11 by omega]
          exact gE_miss (i := 0) hmiss
        · (try dsimp only); omega
    · skip
      (try simp only [Decidable.not_not] at h1)
      refine code_exit ?_
      refine then_x ?_; clear hK6 K6
      refine then_x ?_
      refine blk_hit ?_
      refine hK3 _ ?_; clear hK3 K3
      refine code_seq (fun K13 hK13 => ?_)
      refine code_region ?_
      refine list_cons rfl (op_q (q_move rfl (by decide)) ?_)
      refine list_cons rfl (op_q (q_assign rfl (by decide)) ?_)
      refine list_cons rfl (op_q (q_assign rfl (by decide)) ?_)
      refine list_nil ?_
      refine hK13 _ ?_; clear hK13 K13
      refine code_ret ?_
      refine ends_ret (cs := []) rfl rfl rfl rfl trivial ?_
      rw [show t11.toNat = 10 by omega]

set_option maxRecDepth 4000 in
theorem impl_digitsByImage_bad (fx fy : Int) (hF : ¬ FaultP fx fy) : PCalls Tryd.prog 134 [.agg [.int .i64 fx, .int .i64 fy]] (· = [.gmap 0 3 false [], .val (.bool false)]) := by
  refine pcalls_of_code (n := 41) az Tryd.func134 (by kernel_rfl) rfl rfl (Nat.le_of_ble_eq_true rfl) (by intro t u h; simp [Tryd.f134] at h) ?_
  refine code_seq (fun K1 hK1 => ?_)
  refine code_region ?_
  refine list_cons rfl (op_box rfl (.inl ⟨rfl, rfl⟩) (by decide) (by decide) rfl ?_)
  refine list_cons rfl (op_q (q_nilmapG (e := 3) (by decide)) ?_)
  refine list_cons rfl (op_q (q_assign rfl (by decide)) ?_)
  refine list_nil ?_
  refine hK1 _ ?_; clear hK1 K1
  refine code_seq (fun K2 hK2 => ?_)
  refine code_region ?_
  refine list_cons rfl (op_makeMapG (e := 3) Tryd.underlying122 (.inr ⟨_, _, rfl, rfl⟩) (by decide) (by decide) rfl ?_)
  refine list_cons rfl (op_q (q_assign rfl (by decide)) ?_)
  refine list_nil ?_
  refine hK2 _ ?_; clear hK2 K2
  refine codeT.imp (σ' := [(0, _), (1, _), (2, _), (3, _), (4, _)]) ?_ (imp_covers ⟨rfl, rfl, rfl, rfl, rfl, trivial⟩)
  refine code_seq (fun K3 hK3 => ?_)
  refine code_seq (fun K4 hK4 => ?_)
  refine code_region ?_
  refine list_cons rfl (op_q (q_move rfl (by decide)) ?_)
  refine list_nil ?_
  refine hK4 _ ?_; clear hK4 K4
  refine code_block ?_
  refine code_loop (X := List (PV × Option (Nat × List PV)) × Bool × List (PV × Option (Nat × List PV)) × Int) (fun x => [(0, .val (.agg [.int .i64 fx, .int .i64 fy])), (1, .box 1 42 [.int .i64 fx, .int .i64 fy]), (2, .gmap 2 3 false x.1), (3, .val (.bool x.2.1)), (4, .gmap 10 3 true x.2.2.1), (11, .val (.int .i64 x.2.2.2))]) (fun x => x.2.2.2 = 0) (fun x => 0) (_, _, _, _) (imp_covers ⟨rfl, rfl, rfl, rfl, rfl, rfl, trivial⟩) ?_ ?_
  · (try dsimp only)
    skip
  · intro x hI
    obtain ⟨t2_m, t3, images_m, t11⟩ := x
    replace hI : t11 = 0 := hI
    show codeT _ _ _ [(0, .val (.agg [.int .i64 fx, .int .i64 fy])), (1, .box 1 42 [.int .i64 fx, .int .i64 fy]), (2, .gmap 2 3 false t2_m), (3, .val (.bool t3)), (4, .gmap 10 3 true images_m), (11, .val (.int .i64 t11))] _
    subst hI
    refine code_seq (fun K5 hK5 => ?_)
    refine code_region ?_
    refine list_cons rfl (op_q (q_lt rfl rfl (by decide)) ?_)
    refine list_nil ?_
    refine hK5 _ ?_; clear hK5 K5
    refine code_seq (fun K6 hK6 => ?_)
    refine code_cond_d rfl (fun h1 => ?_) (fun h1 => ?_)
    · skip
      (try simp only [Decidable.not_not] at h1)
      refine code_skip ?_
      refine hK6 _ ?_; clear hK6 K6
      refine code_seq (fun K7 hK7 => ?_)
      refine code_block ?_
      refine code_seq (fun K8 hK8 => ?_)
      refine code_region ?_
      refine list_cons rfl (op_q (q_move rfl (by decide)) ?_)
      refine list_cons rfl (op_q (q_assign rfl (by decide)) ?_)
      refine list_nil ?_
      refine hK8 _ ?_; clear hK8 K8
      refine code_seq (fun K9 hK9 => ?_)
      refine code_region ?_
      refine list_cons rfl (op_q (q_move rfl (by decide)) ?_)
      refine list_cons rfl (op_call _ (impl_CellOf_ok _ (by omega) (by omega)) rfl rfl (by decide) (by decide) (by decide) rfl ?_)
      rintro _ rfl
      refine list_cons rfl (op_q (q_move rfl (by decide)) ?_)
      refine list_cons rfl (op_q (q_extract rfl rfl (by decide)) ?_)
      refine list_cons rfl (op_q (q_extract rfl rfl (by decide)) ?_)
      refine list_cons rfl (op_q (q_assign rfl (by decide)) ?_)
      refine list_cons rfl (op_q (q_assign rfl (by decide)) ?_)
      refine list_nil ?_
      refine hK9 _ ?_; clear hK9 K9
      refine codeT.imp (σ' := [(0, _), (1, _), (2, _), (3, _), (4, _), (5, _), (6, _), (7, _), (11, _)]) ?_ (imp_covers ⟨rfl, rfl, rfl, rfl, rfl, rfl, rfl, rfl, rfl, trivial⟩)
      refine code_seq (fun K10 hK10 => ?_)
      refine code_region ?_
      refine list_cons rfl (op_q (q_load_agg agg_42 1 (.inr ⟨rfl, _, rfl⟩) rfl rfl (by first | decide | omega | exact Nat.le_refl _ | (simp; done) | (simp; omega)) (by first | rfl | exact flat_part (flat_map _ (fun _ => rfl) _) _ _) (by decide)) ?_)
      refine list_cons rfl (op_q (q_move rfl (by decide)) ?_)
      refine list_cons rfl (op_call _ (impl_ShownCell_bad _ _ _ hF) rfl rfl (by decide) (by decide) (by decide) rfl ?_)
      rintro _ rfl
      refine list_cons rfl (op_q (q_move rfl (by decide)) ?_)
      refine list_cons rfl (op_q (q_extract rfl rfl (by decide)) ?_)
      refine list_cons rfl (op_q (q_extract rfl rfl (by decide)) ?_)
      refine list_cons rfl (op_q (q_assign rfl (by decide)) ?_)
      refine list_cons rfl (op_q (q_assign rfl (by decide)) ?_)
      refine list_nil ?_
      refine hK10 _ ?_; clear hK10 K10
      refine codeT.imp (σ' := [(0, _), (1, _), (2, _), (3, _), (4, _), (5, _), (6, _), (7, _), (8, _), (9, _), (11, _)]) ?_ (imp_covers ⟨rfl, rfl, rfl, rfl, rfl, rfl, rfl, rfl, rfl, rfl, rfl, trivial⟩)
      refine code_seq (fun K11 hK11 => ?_)
      refine code_seq (fun K12 hK12 => ?_)
      refine code_region ?_
      refine list_cons rfl (op_q (q_move rfl (by decide)) ?_)
      refine list_cons rfl (op_q (by first | exact q_notd rfl (by decide) | exact q_not rfl (by decide)) ?_)
      refine list_cons rfl (op_q (q_move rfl (by decide)) ?_)
      refine list_guard_y rfl rfl rfl rfl (by decide) rfl ?_
      refine id (op_q (q_move rfl (by decide)) ?_)
      refine list_guard_y rfl rfl rfl rfl (by decide) rfl ?_
      refine id (op_q (by first | exact q_notd rfl (by decide) | exact q_not rfl (by decide)) ?_)
      refine list_cons rfl (op_q (q_pick rfl rfl (by decide)) ?_)
      refine list_nil ?_
      refine hK12 _ ?_; clear hK12 K12
      refine code_cond_t rfl ?_
      refine code_seq (fun K13 hK13 => ?_)
      refine code_region ?_
      refine list_cons rfl (op_q (q_nilmapG (e := 3) (by decide)) ?_)
      refine list_cons rfl (op_q (q_assign rfl (by decide)) ?_)
      refine list_nil ?_
      refine hK13 _ ?_; clear hK13 K13
      refine code_ret ?_
      refine then_r ?_; clear hK11 K11
      refine blk_r ?_
      refine then_r ?_; clear hK7 K7
      refine then_r ?_
      refine blk_r ?_
      refine then_r ?_; clear hK3 K3
      refine ends_ret (cs := []) rfl rfl rfl rfl trivial ?_
      rfl
    · skip
      (try simp only [Decidable.not_not] at h1)
      exfalso
      omega

set_option maxRecDepth 4000 in
theorem impl_DigitsShown_ok (fx fy c : Int) (hF : FaultP fx fy) : PCalls Tryd.prog 121 [.agg [.int .i64 fx, .int .i64 fy], .int .i64 c] (· = [.own 0 3 1 (if FaultP fx fy ∧ 0 ≤ c ∧ c ≤ 127 then digs fx fy c else []).length ((if FaultP fx fy ∧ 0 ≤ c ∧ c ≤ 127 then digs fx fy c else []).map (.int .i64)), .val (.bool (decide (FaultP fx fy ∧ 0 ≤ c ∧ c ≤ 127)))]) := by
  refine pcalls_of_code (n := 24) az Tryd.func121 (by kernel_rfl) rfl rfl (Nat.le_of_ble_eq_true rfl) (by intro t u h; simp [Tryd.f121] at h) ?_
  have hfnd := gI_find fx fy c 10
  refine code_seq (fun K1 hK1 => ?_)
  refine code_region ?_
  refine list_cons rfl (op_box rfl (.inl ⟨rfl, rfl⟩) (by decide) (by decide) rfl ?_)
  refine list_cons rfl (op_q (q_assign rfl (by decide)) ?_)
  refine list_cons rfl (op_q (q_assign rfl (by decide)) ?_)
  refine list_nil ?_
  refine hK1 _ ?_; clear hK1 K1
  refine code_seq (fun K2 hK2 => ?_)
  refine code_region ?_
  refine list_cons rfl (op_q (q_load_agg agg_42 2 (.inr ⟨rfl, _, rfl⟩) rfl rfl (by first | decide | omega | exact Nat.le_refl _ | (simp; done) | (simp; omega)) (by first | rfl | exact flat_part (flat_map _ (fun _ => rfl) _) _ _) (by decide)) ?_)
  refine list_cons rfl (op_call _ (impl_digitsByImage_ok _ _ hF) rfl rfl (by decide) (by decide) (by decide) rfl ?_)
  rintro _ rfl
  refine list_cons rfl (op_q (q_move rfl (by decide)) ?_)
  refine list_cons rfl (op_q (q_extract rfl rfl (by decide)) ?_)
  refine list_cons rfl (op_q (q_extract rfl rfl (by decide)) ?_)
  refine list_cons rfl (op_q (q_assign rfl (by decide)) ?_)
  refine list_cons rfl (op_q (q_assign rfl (by decide)) ?_)
  refine list_nil ?_
  refine hK2 _ ?_; clear hK2 K2
  refine codeT.imp (σ' := [(0, _), (1, _), (2, _), (4, _), (5, _), (6, _), (7, _)]) ?_ (imp_covers ⟨rfl, rfl, rfl, rfl, rfl, rfl, rfl, trivial⟩)
  refine code_seq (fun K3 hK3 => ?_)
  refine code_seq (fun K4 hK4 => ?_)
  refine code_region ?_
  refine list_cons rfl (op_q (q_move rfl (by decide)) ?_)
  refine list_cons rfl (op_q (by first | exact q_notd rfl (by decide) | exact q_not rfl (by decide)) ?_)
  refine list_cons rfl (op_q (q_move rfl (by decide)) ?_)
  refine list_guard_y rfl rfl rfl rfl (by decide) rfl ?_
  refine id (op_q (q_move rfl (by decide)) ?_)
  refine list_guard_y rfl rfl rfl rfl (by decide) rfl ?_
  refine id (op_call _ (impl_IsCell _) rfl rfl (by decide) (by decide) (by decide) rfl ?_)
  rintro _ rfl
  refine list_guard_y rfl rfl rfl rfl (by decide) rfl ?_
  refine id (op_q (by first | exact q_notd rfl (by decide) | exact q_not rfl (by decide)) ?_)
  refine list_cons rfl (op_q (q_pick rfl rfl (by decide)) ?_)
  refine list_nil ?_
  refine hK4 _ ?_; clear hK4 K4
  refine codeT.imp (σ' := [(0, _), (1, _), (2, _), (4, _), (5, _), (6, _), (7, _), (19, _)]) ?_ (imp_covers ⟨rfl, rfl, rfl, rfl, rfl, rfl, rfl, rfl, trivial⟩)
  refine code_cond_d rfl (fun h1 => ?_) (fun h1 => ?_)
  · skip
    (try simp only [Decidable.not_not] at h1)
    refine code_seq (fun K5 hK5 => ?_)
    refine code_region ?_
    refine list_cons rfl (op_buildSlice sl_24 (parts := []) rfl rfl rfl (by decide) (by decide) (by decide) rfl ?_)
    refine list_cons rfl (op_q (q_assign rfl (by decide)) ?_)
    refine list_cons rfl (op_q (q_assign rfl (by decide)) ?_)
    refine list_nil ?_
    refine hK5 _ ?_; clear hK5 K5
    refine code_ret ?_
    refine then_r ?_; clear hK3 K3
    refine ends_ret (cs := []) rfl rfl rfl rfl trivial ?_
    simp only [if_neg (fun k : FaultP fx fy ∧ 0 ≤ c ∧ c ≤ 127 => h1 k.2), decide_eq_false (fun k : FaultP fx fy ∧ 0 ≤ c ∧ c ≤ 127 => h1 k.2)]; rfl
  · skip
    (try simp only [Decidable.not_not] at h1)
    refine code_skip ?_
    refine hK3 _ ?_; clear hK3 K3
    refine code_seq (fun K6 hK6 => ?_)
    refine code_region ?_
    refine list_cons rfl (op_q (q_move rfl (by decide)) ?_)
    refine list_cons rfl (op_q (q_move rfl (by decide)) ?_)
    by_cases h2 : digsK fx fy c 10 ≠ []
    · skip
      obtain ⟨i, hi1, hi2⟩ := (hfnd.resolve_left (fun k => h2 k.1)).2
      refine list_cons rfl (op_lookupG (tk := .int .i64) Tryd.underlying122 Tryd.underlying3 rfl rfl rfl (by rw [findG_gE, hi1]) (gE_at hi2) (by decide) (by decide) (by decide) rfl ?_)
      refine list_cons rfl (op_q (q_assign rfl (by decide)) ?_)
      refine list_cons rfl (op_q (q_assign rfl (by decide)) ?_)
      refine list_nil ?_
      refine hK6 _ ?_; clear hK6 K6
      refine codeT.imp (σ' := [(0, _), (1, _), (2, _), (4, _), (5, _), (6, _), (7, _)]) ?_ (imp_covers ⟨rfl, rfl, rfl, rfl, rfl, rfl, rfl, trivial⟩)
      refine code_ret ?_
      refine ends_ret (cs := []) rfl rfl rfl rfl trivial ?_
      simp only [if_pos (show FaultP fx fy ∧ 0 ≤ c ∧ c ≤ 127 from ⟨hF, h1⟩), decide_eq_true (show FaultP fx fy ∧ 0 ≤ c ∧ c ≤ 127 from ⟨hF, h1⟩)]; rfl
    · skip
      have hmiss := (hfnd.resolve_right (fun k => k.1 (Decidable.not_not.1 h2))).2
      have hmi0 := Decidable.not_not.1 h2
      refine list_cons rfl (op_q (q_lookupG_nil (e := 3) (tk := .int .i64) Tryd.underlying122 Tryd.underlying3 zvt_24 rfl rfl rfl (by rw [findG_gE, hmiss]) (by decide)) ?_)
      refine list_cons rfl (op_q (q_assign rfl (by decide)) ?_)
      refine list_cons rfl (op_q (q_assign rfl (by decide)) ?_)
      refine list_nil ?_
      refine hK6 _ ?_; clear hK6 K6
      refine code_ret ?_
      refine ends_ret (cs := []) rfl rfl rfl rfl trivial ?_
      simp only [if_pos (show FaultP fx fy ∧ 0 ≤ c ∧ c ≤ 127 from ⟨hF, h1⟩), decide_eq_true (show FaultP fx fy ∧ 0 ≤ c ∧ c ≤ 127 from ⟨hF, h1⟩), digs, hmi0]; rfl

set_option maxRecDepth 4000 in
theorem impl_DigitsShown_bad (fx fy c : Int) (hF : ¬ FaultP fx fy) : PCalls Tryd.prog 121 [.agg [.int .i64 fx, .int .i64 fy], .int .i64 c] (· = [.own 0 3 1 (if FaultP fx fy ∧ 0 ≤ c ∧ c ≤ 127 then digs fx fy c else []).length ((if FaultP fx fy ∧ 0 ≤ c ∧ c ≤ 127 then digs fx fy c else []).map (.int .i64)), .val (.bool (decide (FaultP fx fy ∧ 0 ≤ c ∧ c ≤ 127)))]) := by
  refine pcalls_of_code (n := 24) az Tryd.func121 (by kernel_rfl) rfl rfl (Nat.le_of_ble_eq_true rfl) (by intro t u h; simp [Tryd.f121] at h) ?_
  refine code_seq (fun K1 hK1 => ?_)
  refine code_region ?_
  refine list_cons rfl (op_box rfl (.inl ⟨rfl, rfl⟩) (by decide) (by decide) rfl ?_)
  refine list_cons rfl (op_q (q_assign rfl (by decide)) ?_)
  refine list_cons rfl (op_q (q_assign rfl (by decide)) ?_)
  refine list_nil ?_
  refine hK1 _ ?_; clear hK1 K1
  refine code_seq (fun K2 hK2 => ?_)
  refine code_region ?_
  refine list_cons rfl (op_q (q_load_agg agg_42 2 (.inr ⟨rfl, _, rfl⟩) rfl rfl (by first | decide | omega | exact Nat.le_refl _ | (simp; done) | (simp; omega)) (by first | rfl | exact flat_part (flat_map _ (fun _ => rfl) _) _ _) (by decide)) ?_)
  refine list_cons rfl (op_call _ (impl_digitsByImage_bad _ _ hF) rfl rfl (by decide) (by decide) (by decide) rfl ?_)
  rintro _ rfl
  refine list_cons rfl (op_q (q_move rfl (by decide)) ?_)
  refine list_cons rfl (op_q (q_extract rfl rfl (by decide)) ?_)
  refine list_cons rfl (op_q (q_extract rfl rfl (by decide)) ?_)
  refine list_cons rfl (op_q (q_assign rfl (by decide)) ?_)
  refine list_cons rfl (op_q (q_assign rfl (by decide)) ?_)
  refine list_nil ?_
  refine hK2 _ ?_; clear hK2 K2
  refine codeT.imp (σ' := [(0, _), (1, _), (2, _), (4, _), (5, _), (6, _), (7, _)]) ?_ (imp_covers ⟨rfl, rfl, rfl, rfl, rfl, rfl, rfl, trivial⟩)
  refine code_seq (fun K3 hK3 => ?_)
  refine code_seq (fun K4 hK4 => ?_)
  refine code_region ?_
  refine list_cons rfl (op_q (q_move rfl (by decide)) ?_)
  refine list_cons rfl (op_q (by first | exact q_notd rfl (by decide) | exact q_not rfl (by decide)) ?_)
  refine list_cons rfl (op_q (q_move rfl (by decide)) ?_)
  refine list_guard_n rfl rfl rfl rfl (by decide) rfl ?_
  refine list_guard_n rfl rfl rfl rfl (by decide) rfl ?_
  refine list_guard_n rfl rfl rfl rfl (by decide) rfl ?_
  refine list_cons rfl (op_q (q_pick rfl rfl (by decide)) ?_)
  refine list_nil ?_
  refine hK4 _ ?_; clear hK4 K4
  refine code_cond_t rfl ?_
  refine code_seq (fun K5 hK5 => ?_)
  refine code_region ?_
  refine list_cons rfl (op_buildSlice sl_24 (parts := []) rfl rfl rfl (by decide) (by decide) (by decide) rfl ?_)
  refine list_cons rfl (op_q (q_assign rfl (by decide)) ?_)
  refine list_cons rfl (op_q (q_assign rfl (by decide)) ?_)
  refine list_nil ?_
  refine hK5 _ ?_; clear hK5 K5
  refine code_ret ?_
  refine then_r ?_; clear hK3 K3
  refine ends_ret (cs := []) rfl rfl rfl rfl trivial ?_
  simp only [if_neg (fun k : FaultP fx fy ∧ 0 ≤ c ∧ c ≤ 127 => hF k.1), decide_eq_false (fun k : FaultP fx fy ∧ 0 ≤ c ∧ c ≤ 127 => hF k.1)]; rfl

theorem impl_DigitsShown (fx fy c : Int) : PCalls Tryd.prog 121 [.agg [.int .i64 fx, .int .i64 fy], .int .i64 c] (· = [.own 0 3 1 (if FaultP fx fy ∧ 0 ≤ c ∧ c ≤ 127 then digs fx fy c else []).length ((if FaultP fx fy ∧ 0 ≤ c ∧ c ≤ 127 then digs fx fy c else []).map (.int .i64)), .val (.bool (decide (FaultP fx fy ∧ 0 ≤ c ∧ c ≤ 127)))]) := by
  by_cases hF : FaultP fx fy
  · exact impl_DigitsShown_ok fx fy c hF
  · exact impl_DigitsShown_bad fx fy c hF

end Go.Proofs.YtjbbijlbenkgcaaDoor
