/- Contracts of functions, walked over the pure layer; each says for which arguments. -/
import Derived.Test.YtppocfcopnaebaaDoorp3Ty
import Derived.Test.YtppocfcopnaebaaDoorTf
import Derived.Test.YtppocfcopnaebaaDoorp1
import Derived.Test.YtppocfcopnaebaaDoorShelf
import Derived.Test.YtppocfcopnaebaaDoorp2
namespace Go.Proofs.YtppocfcopnaebaaDoor
open Go.RowKit p3Ty
set_option linter.unusedVariables false
set_option linter.unusedSimpArgs false
def seqs {α : Type} (d : α) : Nat → List α → List (List α)
  | 0, _ => [[]]
  | n + 1, l => (List.range l.length).flatMap fun i => (seqs d n (l.take i ++ l.drop (i + 1))).map fun r => l.getD i d :: r
theorem cut_perm {α : Type} (d : α) {l : List α} {i : Nat} (h : i < l.length) : (l.getD i d :: (l.take i ++ l.drop (i + 1))).Perm l := by
  have e : l = l.take i ++ l[i] :: l.drop (i + 1) := by rw [← List.drop_eq_getElem_cons h, List.take_append_drop]
  have hg : l.getD i d = l[i] := by rw [List.getD_eq_getElem?_getD, List.getElem?_eq_getElem h]; rfl
  rw [hg]
  conv => rhs; rw [e]
  exact List.perm_middle.symm
theorem cut_len1 {α : Type} {l : List α} {i n : Nat} (h : i < l.length) (hl : l.length = n + 1) : (l.take i ++ l.drop (i + 1)).length = n := by
  rw [List.length_append, List.length_take, List.length_drop]; omega
theorem seqs_mem {α : Type} (d : α) : ∀ {n : Nat} {l c : List α}, l.length = n → (c ∈ seqs d n l ↔ c.Perm l)
  | 0, l, c, hl => by
    have : l = [] := List.eq_nil_of_length_eq_zero hl
    subst this
    simp [seqs]
  | n + 1, l, c, hl => by
    simp only [seqs, List.mem_flatMap, List.mem_range, List.mem_map]
    constructor
    · rintro ⟨i, hi, r, hr, rfl⟩
      have := (seqs_mem d (cut_len1 hi hl)).1 hr
      exact (List.Perm.cons _ this).trans (cut_perm d hi)
    · intro hp
      cases c with
      | nil => have := hp.length_eq; rw [hl] at this; simp at this
      | cons x r =>
        have hx : x ∈ l := hp.mem_iff.1 List.mem_cons_self
        obtain ⟨i, hi, he⟩ := List.getElem_of_mem hx
        have hg : l.getD i d = x := by rw [List.getD_eq_getElem?_getD, List.getElem?_eq_getElem hi]; exact he
        refine ⟨i, hi, r, (seqs_mem d (cut_len1 hi hl)).2 ?_, by rw [hg]⟩
        have h2 := hp.trans (cut_perm d hi).symm
        rw [hg] at h2
        exact h2.cons_inv
theorem flt_lt {α : Type} {p q : α → Bool} : ∀ {l : List α}, (∀ x ∈ l, p x = true → q x = true) → ∀ {x : α}, x ∈ l → q x = true → p x = false → (l.filter p).length < (l.filter q).length
  | [], _, x, hx, _, _ => by simp at hx
  | y :: l, h, x, hx, hq, hp => by
    have hle : (l.filter p).length ≤ (l.filter q).length := by
      have hh : ∀ z ∈ l, p z = true → q z = true := fun z hz => h z (List.mem_cons_of_mem _ hz)
      clear h hx hq hp
      induction l with
      | nil => simp
      | cons z l ih =>
        have h1 := hh z List.mem_cons_self
        have h2 := ih (fun w hw => hh w (List.mem_cons_of_mem _ hw))
        rw [List.filter_cons, List.filter_cons]
        cases hz : p z
        · cases q z <;> simp <;> omega
        · rw [h1 hz]; simp; omega
    rw [List.filter_cons, List.filter_cons]
    rcases List.mem_cons.1 hx with e | e
    · subst e; rw [hq, hp]; simp; omega
    · have ih := flt_lt (fun z hz => h z (List.mem_cons_of_mem _ hz)) e hq hp
      have h1 := h y List.mem_cons_self
      cases hy : p y
      · cases q y <;> simp <;> omega
      · rw [h1 hy]; simp; omega
def cntF (f o : List Int) : Nat := if o = f then 0 else 1 + ((seqs 0 f.length f).filter fun c => decide (llt o c)).length
theorem cntF_lt {f a b : List Int} (hb : b.Perm f) (ha : a ≠ f) (h : b = f ∨ llt a b) : cntF f b < cntF f a := by
  unfold cntF
  rw [if_neg ha]
  by_cases e : b = f
  · rw [if_pos e]; omega
  · rw [if_neg e]
    have hl := h.resolve_left e
    have := flt_lt (p := fun c => decide (llt b c)) (q := fun c => decide (llt a c)) (l := seqs 0 f.length f) (fun c _ hc => by
      simp only [decide_eq_true_eq] at hc ⊢; exact llt_trans hl hc) ((seqs_mem 0 rfl).2 hb) (by simpa using hl) (by simpa using llt_irr b)
    omega
def Bet (cost : List Int → Int) (x y : List Int) : Prop := cost x < cost y ∨ (cost x = cost y ∧ (x = y ∨ llt x y))
def BstAll (cost : List Int → Int) (f best : List Int) : Prop := best.Perm f ∧ ∀ b, b.Perm f → Bet cost best b
def Hst (cost : List Int → Int) (f a best : List Int) : Prop := best.Perm f ∧ (best = a ∨ llt best a) ∧ ∀ b, b.Perm f → (b = a ∨ llt b a) → Bet cost best b
def Srch (cost : List Int → Int) (f o best : List Int) : Prop := best.Perm f ∧ o.Perm f ∧ ((o = f ∧ BstAll cost f best) ∨ (o ≠ f ∧ llt best o ∧ ∀ b, b.Perm f → llt b o → Bet cost best b))
theorem bst_one {cost : List Int → Int} {f x y : List Int} (h : BstAll cost f x) (k : BstAll cost f y) : x = y := by
  have h1 := h.2 y k.1
  have h2 := k.2 x h.1
  rcases h1 with h1 | ⟨h1, h3⟩
  · rcases h2 with h2 | ⟨h2, _⟩ <;> omega
  · rcases h2 with h2 | ⟨_, h4⟩
    · omega
    · rcases h3 with h3 | h3
      · exact h3
      · rcases h4 with h4 | h4
        · exact h4.symm
        · exact absurd (llt_trans h3 h4) (llt_irr _)
theorem asc_one {x y : List Int} (hx : Asc x) (hy : Asc y) (h : x.Perm y) : x = y := by
  rcases asc_min hy h with e | e
  · exact e
  · rcases asc_min hx h.symm with e2 | e2
    · exact e2.symm
    · exact absurd (llt_trans e e2) (llt_irr _)
theorem hst_0 (cost : List Int → Int) {f : List Int} (hf : Asc f) : Hst cost f f f := ⟨List.Perm.refl _, .inl rfl, fun b hb hl => by
  rcases hl with rfl | hl
  · exact .inr ⟨rfl, .inl rfl⟩
  · rcases asc_min hf hb with e | e
    · rw [e] at hl; exact absurd hl (llt_irr _)
    · exact absurd (llt_trans hl e) (llt_irr _)⟩
theorem hst_up {cost : List Int → Int} {f o best : List Int} (h : Srch cost f o best) (hne : o ≠ f) : Hst cost f o (if cost o < cost best then o else best) := by
  obtain ⟨hb, ho, h⟩ := h
  rcases h with ⟨e, _⟩ | ⟨_, hl, hall⟩
  · exact absurd e hne
  by_cases hc : cost o < cost best
  · rw [if_pos hc]
    refine ⟨ho, .inl rfl, fun b hb2 hbl => ?_⟩
    rcases hbl with rfl | hbl
    · exact .inr ⟨rfl, .inl rfl⟩
    · rcases hall b hb2 hbl with k | ⟨k, _⟩
      · exact .inl (by omega)
      · exact .inl (by omega)
  · rw [if_neg hc]
    refine ⟨hb, .inr hl, fun b hb2 hbl => ?_⟩
    rcases hbl with rfl | hbl
    · by_cases e : cost best = cost b
      · exact .inr ⟨e, .inr hl⟩
      · exact .inl (by omega)
    · exact hall b hb2 hbl
theorem srch_next {cost : List Int → Int} {f a b best : List Int} (hf : Asc f) (h : Hst cost f a best) (ha : a.Perm f) (hn : NextOf a b) : Srch cost f b best ∧ (b = f ∨ llt a b) := by
  have hb : b.Perm f := hn.perm.trans ha
  rcases hn with ⟨hd, rfl⟩ | ⟨P, T1, T2, x, y, rfl, hT, hxy, h2, rfl⟩
  · have e : a.reverse = f := asc_one (asc_rev hd) hf hb
    refine ⟨⟨h.1, hb, .inl ⟨e, h.1, fun c hc => h.2.2 c hc ?_⟩⟩, .inl e⟩
    have hca : c.Perm a := hc.trans ha.symm
    rcases llt_tri (hca.length_eq) with k | k | k
    · exact .inl k
    · exact .inr k
    · exact absurd k (dsc_max hd hca)
  · have hgt := next_gt (P := P) (T1 := T1) (T2 := T2) hxy
    refine ⟨⟨h.1, hb, .inr ⟨fun e => ?_, ?_, fun c hc hcl => h.2.2 c hc ?_⟩⟩, .inr hgt⟩
    · rcases asc_min hf ha with k | k
      · rw [e, ← k] at hgt; exact llt_irr _ hgt
      · rw [e] at hgt; exact llt_irr _ (llt_trans k hgt)
    · rcases h.2.1 with k | k
      · rw [k]; exact hgt
      · exact llt_trans k hgt
    · have hca := hc.trans ha.symm
      rcases llt_tri (hca.length_eq) with k | k | k
      · exact .inl k
      · exact .inr k
      · rcases next_min hT hxy h2 hca k with q | q
        · rw [q] at hcl; exact absurd hcl (llt_irr _)
        · exact absurd (llt_trans q hcl) (llt_irr _)
theorem srch_end {cost : List Int → Int} {f best : List Int} (h : Srch cost f f best) : BstAll cost f best := by
  rcases h.2.2 with h | h
  · exact h.2
  · exact absurd rfl h.1
theorem arr_inj {a b : List Int} (h : a.length = b.length) (e : arr a = arr b) : a = b := by
  have := congrArg (List.take a.length) e
  unfold arr at this
  rwa [List.take_left, h, List.take_left] at this
def lstL (a : List Int) (k : Nat) : List Int := a.take k ++ (srt (a.drop k)).reverse
theorem arr_midF {f : List Int → List Int} (hf : ∀ l, (f l).length = l.length) {a : List Int} {o m : Nat} (ho : o ≤ a.length) (hm : m = a.length - o) : (arr a).take o ++ f (((arr a).drop o).take m) ++ (arr a).drop (o + m) = arr (a.take o ++ f (a.drop o)) := by
  subst hm
  have hl : (a.take o ++ f (a.drop o)).length = a.length := by rw [List.length_append, List.length_take, hf, List.length_drop]; omega
  unfold arr
  rw [hl, List.take_append_of_le_length ho, List.drop_append_of_le_length ho, List.take_left' (List.length_drop), List.drop_left' (by omega)]
theorem mid_len (a : List Int) (o : Nat) : (a.take o ++ srt (a.drop o)).length = a.length := by rw [List.length_append, List.length_take, srt_len, List.length_drop]; omega
theorem mid_rev (a : List Int) {o : Nat} (ho : o ≤ a.length) : (a.take o ++ srt (a.drop o)).take o ++ ((a.take o ++ srt (a.drop o)).drop o).reverse = lstL a o := by
  have h : (a.take o).length = o := by rw [List.length_take]; omega
  rw [List.take_left' h, List.drop_left' h]; rfl
theorem take_snocO {α : Type} (l : List α) (d : α) {x : Nat} (h : x < l.length) : l.take (x + 1) = l.take x ++ [l.getD x d] := by
  rw [List.take_add_one, List.getElem?_eq_getElem h, List.getD_eq_getElem?_getD, List.getElem?_eq_getElem h]; rfl
theorem snocI {L : List Int} {i : Nat} {v : Int} (h : i < L.length) (hv : v = L.getD i 0) : (((L.take i).length + 1, (L.take i).map (PV.int .i64) ++ [PV.int .i64 v]) : Nat × List PV) = ((L.take (i + 1)).length, (L.take (i + 1)).map (PV.int .i64)) := by
  subst hv
  rw [take_snocO L (0 : Int) h, List.length_append, List.map_append]; rfl
theorem flat_app6 : ∀ {a b : List PV}, PV.flatL a = true → PV.flatL b = true → PV.flatL (a ++ b) = true
  | [], b, _, h => h
  | x :: a, b, h1, h2 => by
    simp only [PV.flatL, Bool.and_eq_true] at h1
    show (x.flat && PV.flatL (a ++ b)) = true
    rw [h1.1, flat_app6 h1.2 h2]; rfl
theorem lstL_len (a : List Int) (o : Nat) : (lstL a o).length = a.length := by
  unfold lstL; rw [List.length_append, List.length_take, List.length_reverse, srt_len, List.length_drop]; omega
set_option maxRecDepth 8000 in
set_option maxHeartbeats 4000000 in
theorem impl_lastLike (a : List Int) (kk : Nat) (h10 : a.length ≤ 10) (hk : kk ≤ a.length) : PCalls Tryd.prog 57 [.agg ((arr a).map (.int .i64)), .int .i64 (kk : Nat), .int .i64 (a.length : Nat)] (· = [.val (.agg ((arr (lstL a kk)).map (.int .i64)))]) := by
  refine pcalls_of_code (n := 16) az Tryd.func57 (by kernel_rfl) rfl rfl (Nat.le_of_ble_eq_true rfl) (by intro t u h; simp [Tryd.f57] at h; obtain ⟨_, rfl⟩ := h <;> first | exact resTy_agg agg_77 (by decide)) ?_
  have hfl := flat_map (PV.int .i64) (fun _ => rfl) (arr a)
  have hml := mid_len a kk
  have hll := lstL_len a kk
  rw [show inits false 0 [.agg ((arr a).map (.int .i64)), .int .i64 (kk : Nat), .int .i64 (a.length : Nat)] = [(0, SV.val (.agg ((arr a).map (.int .i64)))), (1, SV.val (.int .i64 (kk : Nat))), (2, SV.val (.int .i64 (a.length : Nat)))] from by simp [inits, PV.start, PV.flat, hfl]]
  refine code_seq (fun K1 hK1 => ?_)
  refine code_region ?_
  refine list_cons rfl (op_box rfl (.inl ⟨rfl, hfl⟩) (by decide) (by decide) rfl ?_)
  refine list_cons rfl (op_alloc zt_77 (by decide) (by decide) rfl ?_)
  refine list_nil ?_
  refine hK1 _ ?_; clear hK1 K1
  refine code_seq (fun K2 hK2 => ?_)
  refine code_region ?_
  refine list_cons rfl (op_q (q_move rfl (by decide)) ?_)
  refine list_cons rfl (op_q (q_move rfl (by decide)) ?_)
  refine list_cons rfl (op_q (q_sliceBox Tryd.underlying77 one_3.2 rfl ⟨_, rfl⟩ ⟨_, rfl⟩ (by first | omega | (rw [List.length_map, arr_len (by omega)]; omega)) (by first | omega | (rw [List.length_map, arr_len (by omega)]; omega)) (by first | omega | (rw [List.length_map, arr_len (by omega)]; omega)) (by decide)) ?_)
  refine listT.imp ?_ (imp_vbox (h := 3) (x := 9) rfl rfl)
  refine list_cons rfl (op_callM (sort_V _ _ _ (arr a) ?_ ?_) (.tmp 9) 3 [9] [] _ rfl rfl (by intro y hy; cases hy; exact ⟨rfl, (by intro t ht; simp only [List.mem_cons, List.not_mem_nil, or_false] at ht; subst ht; rfl), (by intro s hs; simp only [List.mem_cons, List.not_mem_nil, or_false] at hs; (try cases hs))⟩) (by decide) (by decide) (by decide) rfl (fun _ => rfl) ?_)
  · (rw [arr_len (by omega)]; omega)
  · (rw [arr_len (by omega)]; omega)
  rintro _ _ ⟨rfl, rfl⟩
  refine listT.imp ?_ (imp_unvbox (h := 3) (x := 9) rfl rfl)
  refine list_nil ?_
  refine hK2 _ ?_; clear hK2 K2
  refine codeT.imp (σ' := [(0, _), (1, _), (2, _), (3, .box 3 77 ((arr (a.take kk ++ srt (a.drop kk))).map (.int .i64))), (6, _)]) ?_ (imp_covers ⟨rfl, rfl, rfl, (congrArg (fun z => some (SV.box 3 77 (List.map (PV.int .i64) z))) (arr_midF srt_len (by omega) (by omega))), rfl, trivial⟩)
  refine code_seq (fun K3 hK3 => ?_)
  refine code_region ?_
  refine list_cons rfl (op_q (q_move rfl (by decide)) ?_)
  refine list_cons rfl (op_q (q_move rfl (by decide)) ?_)
  refine list_cons rfl (op_q (q_sliceBox Tryd.underlying77 one_3.2 rfl ⟨_, rfl⟩ ⟨_, rfl⟩ (by first | omega | (rw [List.length_map, arr_len (by omega)]; omega)) (by first | omega | (rw [List.length_map, arr_len (by omega)]; omega)) (by first | omega | (rw [List.length_map, arr_len (by omega)]; omega)) (by decide)) ?_)
  refine listT.imp ?_ (imp_vbox (h := 3) (x := 13) rfl rfl)
  refine list_cons rfl (op_callM (reverse_V _ _ _ (arr (a.take kk ++ srt (a.drop kk))) ?_ ?_) (.tmp 13) 3 [13] [] _ rfl rfl (by intro y hy; cases hy; exact ⟨rfl, (by intro t ht; simp only [List.mem_cons, List.not_mem_nil, or_false] at ht; subst ht; rfl), (by intro s hs; simp only [List.mem_cons, List.not_mem_nil, or_false] at hs; (try cases hs))⟩) (by decide) (by decide) (by decide) rfl (fun _ => rfl) ?_)
  · (rw [arr_len (by omega)]; omega)
  · (rw [arr_len (by omega)]; omega)
  rintro _ _ ⟨rfl, rfl⟩
  refine listT.imp ?_ (imp_unvbox (h := 3) (x := 13) rfl rfl)
  refine list_nil ?_
  refine hK3 _ ?_; clear hK3 K3
  refine codeT.imp (σ' := [(0, _), (1, _), (2, _), (3, .box 3 77 ((arr (lstL a kk)).map (.int .i64))), (6, _)]) ?_ (imp_covers ⟨rfl, rfl, rfl, (congrArg (fun z => some (SV.box 3 77 (List.map (PV.int .i64) z))) ((arr_midF (fun _ => List.length_reverse) (by omega) (by omega)).trans (congrArg arr (mid_rev a hk)))), rfl, trivial⟩)
  refine code_seq (fun K4 hK4 => ?_)
  refine code_region ?_
  refine list_cons rfl (op_q (q_cast (q_load_agg agg_77 3 (.inr ⟨rfl, _, rfl⟩) rfl rfl (by first | (rw [List.length_map, arr_len (by omega)]; decide) | (simp [arr_len, h10]; omega)) (by first | rfl | exact flat_part (flat_map _ (fun _ => rfl) _) _ _) (by decide)) (congrArg (fun z => SV.val (PV.agg z)) (ld10 (arr_len (by omega))))) ?_)
  refine list_cons rfl (op_store (agg_77).2 6 [6] (by intro t ht; simp only [List.mem_cons, List.not_mem_nil, or_false] at ht; subst ht; rfl) (.inr ⟨rfl, _, rfl⟩) rfl rfl rfl rfl (by first | rfl | exact flat_part (flat_map _ (fun _ => rfl) _) _ _ | exact flat_map _ (fun _ => rfl) _) (by first | rfl | (simp only [PV.cells, List.length_map]; exact arr_len (by omega))) (by decide) (by decide) rfl ?_)
  refine list_nil ?_
  refine hK4 _ ?_; clear hK4 K4
  refine codeT.imp (σ' := [(0, _), (1, _), (2, _), (3, _), (6, .box 6 77 _)]) ?_ (imp_covers ⟨rfl, rfl, rfl, rfl, (congrArg (fun z => some (SV.box 6 77 z)) (put_all8 (n := 10) rfl (by simp only [List.length_map]; exact arr_len (by omega)))), trivial⟩)
  refine code_ret ?_
  refine ends_ret (cs := []) (res_agg8 rfl rfl (flat_map _ (fun _ => rfl) _) (by show _ = 10; rw [List.length_map]; exact arr_len (by omega))) rfl rfl rfl trivial ?_
  first | rfl
set_option maxRecDepth 8000 in
set_option maxHeartbeats 4000000 in
theorem appendSeqO_c (f : FuncId) (z caps : List PV) (L : List Int) (hL : L.length ≤ 1440) (hit : ITer Tryd.prog f (.ptr z :: caps) L.length (fun i => [.int .i64 (L.getD i 0)])) : PCalls Tryd.prog 69 [.cst 0, .clo f (.ptr z :: caps)] (· = [.own 0 3 1 (L).length ((L).map (.int .i64))]) := by
  refine pcalls_of_code (n := 13) az Tryd.func69 (by kernel_rfl) rfl rfl (Nat.le_of_ble_eq_true rfl) (by intro t u h; simp [Tryd.f69] at h) ?_
  refine codeT.imp ?_ (imp_nil (s := 0) (l := 900) (e := 3) (size := 1) (.inl rfl))
  refine code_seq (fun K1 hK1 => ?_)
  refine code_region ?_
  refine list_cons rfl (op_boxR rfl rfl (by decide) (by decide) (by decide) rfl ?_)
  refine list_cons rfl (op_q (q_assign rfl (by decide)) ?_)
  refine list_nil ?_
  refine hK1 _ ?_; clear hK1 K1
  refine codeT.imp (σ' := [(0, _), (1, _), (2, _), (4, _)]) ?_ (imp_covers ⟨rfl, rfl, rfl, rfl, trivial⟩)
  refine code_seq (fun K2 hK2 => ?_)
  refine code_seq (fun K3 hK3 => ?_)
  refine code_region ?_
  refine list_cons rfl (op_q (q_move rfl (by decide)) ?_)
  refine list_nil ?_
  refine hK3 _ ?_; clear hK3 K3
  refine code_block ?_
  refine code_rangeFunc (hit) ((fun (s1 s4 s6 : SV) (i : Nat) => ([(1, s1), (2, .boxR 2 24 3 1 [some ((L.take i).length, (L.take i).map (.int .i64))]), (4, s4), (6, s6)] : St)) _ _ _) (fun i => True) (trivial) rfl rfl rfl (by decide) rfl (fun _ _ => ⟨rfl, rfl⟩) (fun _ => rfl) rfl rfl (imp_covers ⟨rfl, rfl, rfl, rfl, trivial⟩) (fun i hi hIi => ?_) (fun hIi => ?_)
  · intro K4 hK4
    refine codeT.imp (σ' := [(7, .val (.int .i64 (L.getD i 0))), (1, _), (2, _), (4, _), (6, _)]) ?_ (imp_covers ⟨rfl, rfl, rfl, rfl, rfl, trivial⟩)
    refine code_region ?_
    refine list_cons rfl (op_q (q_assign rfl (by decide)) ?_)
    refine list_nil ?_
    refine hK4 _ rfl ?_; clear hK4 K4
    refine codeT.imp (σ' := [(1, _), (2, _), (4, _), (5, _), (6, _), (7, _)]) ?_ (imp_covers ⟨rfl, rfl, rfl, rfl, rfl, rfl, trivial⟩)
    refine code_block ?_
    refine code_region ?_
    refine list_cons rfl (op_loadR one_24 2 (.inr ⟨rfl, rfl⟩) rfl rfl (by decide) (by decide) (by decide) rfl ?_)
    refine list_cons rfl (op_q (q_move rfl (by decide)) ?_)
    refine list_cons rfl (op_buildSlice sl_24 (parts := [(0, .tmp 9)]) rfl rfl rfl (by decide) (by decide) (by decide) rfl ?_)
    refine list_cons rfl (op_append_gen sl_24 (l := 8) (.inl rfl) rfl rfl (l2 := none) (.inl ⟨rfl, (by first | rfl | exact flat_map _ (fun _ => rfl) _)⟩) (by first | rfl | simp | omega) (by rw [List.length_take]; omega) (by decide) (by decide) (by decide) ?_)
    refine list_cons rfl (op_storeR (one_24).2 2 (.inr ⟨rfl, rfl⟩) rfl rfl (by decide) (by decide) (by first | exact flat_app6 (flat_map _ (fun _ => rfl) _) rfl | rfl) Nat.zero_lt_one rfl ?_)
    refine list_nil ?_
    refine blk_n ?_
    refine rp_n ⟨trivial, imp_covers ⟨rfl, (congrArg (fun z => some (SV.boxR 2 24 3 1 [some z])) (snocI hi rfl)), rfl, rfl, trivial⟩⟩
  · skip
    refine blk_n ?_
    refine hK2 _ ?_; clear hK2 K2
    refine codeT.imp (σ' := [(1, _), (2, _), (4, _), (6, _)]) ?_ (imp_covers ⟨rfl, rfl, rfl, rfl, trivial⟩)
    refine code_seq (fun K5 hK5 => ?_)
    refine code_region ?_
    refine list_cons rfl (op_loadR one_24 2 (.inr ⟨rfl, rfl⟩) rfl rfl (by decide) (by decide) (by decide) rfl ?_)
    refine list_cons rfl (op_q (q_assign rfl (by decide)) ?_)
    refine list_nil ?_
    refine hK5 _ ?_; clear hK5 K5
    refine codeT.imp (σ' := [(1, _), (2, _), (4, _), (6, _)]) ?_ (imp_covers ⟨rfl, rfl, rfl, rfl, trivial⟩)
    refine code_ret ?_
    refine ends_ret (cs := []) rfl rfl rfl rfl trivial ?_
    rw [List.take_of_length_le (Nat.le_refl _)]
set_option maxRecDepth 4000 in
theorem collectO_c (f : FuncId) (z caps : List PV) (L : List Int) (hL : L.length ≤ 1440) (hit : ITer Tryd.prog f (.ptr z :: caps) L.length (fun i => [.int .i64 (L.getD i 0)])) : PCalls Tryd.prog 64 [.clo f (.ptr z :: caps)] (· = [.own 0 3 1 (L).length ((L).map (.int .i64))]) := by
  refine pcalls_of_code (n := 5) az Tryd.func64 (by kernel_rfl) rfl rfl (Nat.le_of_ble_eq_true rfl) (by intro t u h; simp [Tryd.f64] at h) ?_
  refine code_seq (fun K1 hK1 => ?_)
  refine code_region ?_
  refine list_cons rfl (op_q (q_assign rfl (by decide)) ?_)
  refine list_nil ?_
  refine hK1 _ ?_; clear hK1 K1
  refine code_seq (fun K2 hK2 => ?_)
  refine code_region ?_
  refine list_cons rfl (op_q (q_move rfl (by decide)) ?_)
  refine list_cons rfl (op_callN (ss := [.val (.cst 0), _]) (appendSeqO_c f z caps L hL hit) (pvsN_c (pvsN_x rfl rfl pvsN_nil)) (by decide) (by decide) (by decide) rfl ?_)
  rintro _ _ rfl
  refine list_cons rfl (op_q (q_assign rfl (by decide)) ?_)
  refine list_nil ?_
  refine hK2 _ ?_; clear hK2 K2
  refine codeT.imp (σ' := [(0, _), (2, _)]) ?_ (imp_covers ⟨rfl, rfl, trivial⟩)
  refine code_ret ?_
  refine ends_ret (cs := []) rfl rfl rfl rfl trivial ?_
  rfl
set_option maxRecDepth 8000 in
set_option maxHeartbeats 4000000 in
theorem values_it (l : List Int) (hl : l.length ≤ 1440) : ITer Tryd.prog 66 [.ptr [.sl l.length (l.map (.int .i64))]] (l.length) (fun i => [.int .i64 (l.getD i 0)]) := by
  refine iter_of_code (n := 16) Tryd.func66 (by kernel_rfl) rfl rfl (Nat.le_of_ble_eq_true rfl) rfl (fun Y hYN hYe => ?_)
  refine codeY_imp (σ' := [(0, _), (1, _)]) rfl (imp_covers ⟨rfl, rfl, trivial⟩) ?_
  refine codeY_seq (fun K1 hK1 => ?_)
  refine codeY_of rfl rfl ?_
  refine code_region ?_
  refine list_cons rfl (op_q (q_load_rd one_24 rfl (.inl ⟨_, (by first | rfl | exact congrArg (SV.rpar _) (drop_map1 (PV.int .i64) 0 l (by omega))), rfl⟩) (by decide)) ?_)
  refine list_cons rfl (op_q (q_len_sl Tryd.underlying24 rfl rfl (by decide)) ?_)
  refine list_cons rfl (op_q (q_move rfl (by decide)) ?_)
  refine list_nil ?_
  refine thy_n ?_
  refine hK1 _ _ ?_; clear hK1 K1
  refine codeY_imp (σ' := [(0, _), (1, _), (5, _), (6, _), (7, _)]) rfl (imp_covers ⟨rfl, rfl, rfl, rfl, rfl, trivial⟩) ?_
  refine codeY_block ?_
  refine codeY_loop (X := Int) (fun x => [(0, .yld Y.l), (1, .rpar 1 [.sl l.length (l.map (.int .i64))]), (5, .par 1 (.sl l.length (l.map (.int .i64)))), (6, .val (.int .i64 l.length)), (7, .val (.int .i64 x))]) (fun x => (false, x.toNat)) (fun x => 0 ≤ x ∧ x ≤ l.length) (fun x => (l.length - x).toNat) (_) rfl (imp_covers ⟨rfl, rfl, rfl, rfl, rfl, trivial⟩) rfl ?_ ?_
  · (try dsimp only)
    exact ⟨by omega, by omega⟩
  · intro x hI
    revert hI; revert x; intro t7 hI
    replace hI : 0 ≤ t7 ∧ t7 ≤ l.length := hI
    show codeY _ _ _ [(0, .yld Y.l), (1, .rpar 1 [.sl l.length (l.map (.int .i64))]), (5, .par 1 (.sl l.length (l.map (.int .i64)))), (6, .val (.int .i64 l.length)), (7, .val (.int .i64 t7))] (false, t7.toNat) _
    obtain ⟨i1, i2⟩ := hI
    refine codeY_seq (fun K2 hK2 => ?_)
    refine codeY_of rfl rfl ?_
    refine code_region ?_
    refine list_cons rfl (op_q (q_lt rfl rfl (by decide)) ?_)
    refine list_nil ?_
    refine thy_n ?_
    refine hK2 _ _ ?_; clear hK2 K2
    refine codeY_imp (σ' := [(0, _), (1, _), (5, _), (6, _), (7, _), (8, _)]) rfl (imp_covers ⟨rfl, rfl, rfl, rfl, rfl, rfl, trivial⟩) ?_
    refine codeY_seq (fun K3 hK3 => ?_)
    refine codeY_of rfl rfl ?_
    refine code_cond_d rfl (fun h1 => ?_) (fun h1 => ?_)
    · skip
      (try simp only [Decidable.not_not] at h1)
      refine code_skip ?_
      refine thy_n ?_
      refine hK3 _ _ ?_; clear hK3 K3
      refine codeY_imp (σ' := [(0, _), (1, _), (5, _), (6, _), (7, _)]) rfl (imp_covers ⟨rfl, rfl, rfl, rfl, rfl, trivial⟩) ?_
      refine codeY_seq (fun K4 hK4 => ?_)
      refine codeY_block ?_
      refine codeY_seq (fun K5 hK5 => ?_)
      refine codeY_of rfl rfl ?_
      refine code_region ?_
      refine list_cons rfl (op_q (q_indexAddr_rd sl_24 rfl (.inl ⟨_, rfl, rfl⟩) rfl (by omega) (by omega) (by decide)) ?_)
      refine list_cons rfl (op_q (q_load_rd one_3 rfl (.inl ⟨_, (by first | rfl | exact congrArg (SV.rpar _) (drop_map1 (PV.int .i64) 0 l (by omega))), rfl⟩) (by decide)) ?_)
      refine list_cons rfl (op_q (q_assign rfl (by decide)) ?_)
      refine list_nil ?_
      refine thy_n ?_
      refine hK5 _ _ ?_; clear hK5 K5
      refine codeY_imp (σ' := [(0, _), (1, _), (4, _), (5, _), (6, _), (7, _)]) rfl (imp_covers ⟨rfl, rfl, rfl, rfl, rfl, rfl, trivial⟩) ?_
      refine codeY_seq (fun K6 hK6 => ?_)
      refine codeY_region ?_
      refine listY_op rfl rfl (op_q (q_move rfl (by decide)) ?_)
      refine listY_op rfl rfl (op_q (q_move rfl (by decide)) ?_)
      refine listY_yield (k := t7.toNat) rfl rfl (by rw [hYe]; show some [PV.int .i64 _] = some [PV.int .i64 (l.getD t7.toNat 0)]; rfl) (by rw [hYe]; rfl) (by rw [hYN]; omega) rfl (by decide) (.inr trivial) ?_ ?_
      · skip
        refine listY_op rfl rfl (op_q (by first | exact q_notd rfl (by decide) | exact q_not rfl (by decide)) ?_)
        refine listY_nil ?_
        refine thy_n ?_
        refine hK6 _ _ ?_; clear hK6 K6
        refine codeY_imp (σ' := [(0, _), (1, _), (4, _), (5, _), (6, _), (7, _), (14, _)]) rfl (imp_covers ⟨rfl, rfl, rfl, rfl, rfl, rfl, rfl, trivial⟩) ?_
        refine codeY_of rfl rfl ?_
        refine code_cond_f rfl ?_
        refine code_skip ?_
        refine bly_n ?_
        refine thy_n ?_
        refine hK4 _ _ ?_; clear hK4 K4
        refine codeY_imp (σ' := [(0, _), (1, _), (4, _), (5, _), (6, _), (7, _)]) rfl (imp_covers ⟨rfl, rfl, rfl, rfl, rfl, rfl, trivial⟩) ?_
        refine codeY_of rfl rfl ?_
        refine code_region ?_
        refine list_cons rfl (op_q (by first | exact q_addI rfl rfl (by decide) (by omega) (by omega) | exact q_ib rfl rfl rfl (by decide)) ?_)
        refine list_cons rfl (op_q (q_move rfl (by decide)) ?_)
        refine list_nil ?_
        refine thy_n ⟨(_), rfl, imp_covers ⟨rfl, rfl, rfl, rfl, rfl, trivial⟩, ?_, ?_, ?_⟩
        · first | (rw [show (t7 + 1).toNat = t7.toNat + 1 by omega]; done) | (rw [show (t7 + 1).toNat = t7.toNat + 1 by omega]; rfl)
        · (try dsimp only)
          exact ⟨by omega, by omega⟩
        · (try dsimp only); omega
      · skip
        refine listY_op rfl rfl (op_q (by first | exact q_notd rfl (by decide) | exact q_not rfl (by decide)) ?_)
        refine listY_nil ?_
        refine thy_n ?_
        refine hK6 _ _ ?_; clear hK6 K6
        refine codeY_imp (σ' := [(0, _), (1, _), (4, _), (5, _), (6, _), (7, _), (14, _)]) rfl (imp_covers ⟨rfl, rfl, rfl, rfl, rfl, rfl, rfl, trivial⟩) ?_
        refine codeY_of rfl rfl ?_
        refine code_cond_t rfl ?_
        refine code_ret ?_
        refine bly_r ?_
        refine thy_r ?_
        refine thy_r ?_
        refine bly_r ?_
        exact ⟨.inr rfl, .inl ⟨rfl, by (try dsimp only); omega⟩⟩
    (try simp only [Decidable.not_not] at h1)
    refine code_exit ?_
    refine thy_x ?_; clear hK3 K3
    refine thy_x ?_
    refine bly_hit ?_
    exact ⟨.inl rfl, .inr (by rw [show t7.toNat = l.length by omega])⟩
set_option maxRecDepth 4000 in
theorem values_c (l : List Int) : MCalls Tryd.prog 55 true none [.sl l.length (l.map (.int .i64))] (fun rs _ => rs = [.bor 0 (.clo 66 [.ptr [.sl l.length (l.map (.int .i64))]])]) := by
  refine mcalls_of_code (n := 4) az Tryd.func55 (by kernel_rfl) rfl rfl (Nat.le_of_ble_eq_true rfl) (by intro t u h; simp [Tryd.f55] at h) ?_
  refine code_seq (fun K1 hK1 => ?_)
  refine code_region ?_
  refine list_cons rfl (op_box rfl (.inr rfl) (by decide) (by decide) rfl ?_)
  refine list_cons rfl (op_q (q_assign rfl (by decide)) ?_)
  refine list_nil ?_
  refine hK1 _ ?_; clear hK1 K1
  refine code_seq (fun K2 hK2 => ?_)
  refine code_region ?_
  refine list_cons rfl (op_makeFuncC (xs := [.tmp 1]) rfl rfl rfl (by decide) (by decide) rfl ?_)
  refine list_cons rfl (op_q (q_assign rfl (by decide)) ?_)
  refine list_nil ?_
  refine hK2 _ ?_; clear hK2 K2
  refine codeT.imp (σ' := [(0, _), (1, _), (2, _)]) ?_ (imp_covers ⟨rfl, rfl, rfl, trivial⟩)
  refine code_ret ?_
  refine ends_ret (cs := []) rfl rfl rfl rfl trivial ?_
  rfl
set_option maxRecDepth 4000 in
theorem sorted_c (f : FuncId) (z caps : List PV) (L : List Int) (hL : L.length ≤ 1000) (hit : ITer Tryd.prog f (.ptr z :: caps) L.length (fun i => [.int .i64 (L.getD i 0)])) : PCalls Tryd.prog 54 [.clo f (.ptr z :: caps)] (· = [.own 0 3 1 (srt L).length ((srt L).map (.int .i64))]) := by
  refine pcalls_of_code (n := 9) az Tryd.func54 (by kernel_rfl) rfl rfl (Nat.le_of_ble_eq_true rfl) (by intro t u h; simp [Tryd.f54] at h) ?_
  refine code_seq (fun K1 hK1 => ?_)
  refine code_region ?_
  refine list_cons rfl (op_q (q_assign rfl (by decide)) ?_)
  refine list_nil ?_
  refine hK1 _ ?_; clear hK1 K1
  refine code_seq (fun K2 hK2 => ?_)
  refine code_region ?_
  refine list_cons rfl (op_q (q_move rfl (by decide)) ?_)
  refine list_cons rfl (op_call _ (collectO_c f z caps L (by omega) hit) rfl rfl (by decide) (by decide) (by decide) rfl ?_)
  rintro _ rfl
  refine list_cons rfl (op_q (q_assign rfl (by decide)) ?_)
  refine list_nil ?_
  refine hK2 _ ?_; clear hK2 K2
  refine codeT.imp (σ' := [(0, _), (2, _), (3, _)]) ?_ (imp_covers ⟨rfl, rfl, rfl, trivial⟩)
  refine code_seq (fun K3 hK3 => ?_)
  refine code_region ?_
  refine list_cons rfl (op_q (q_move rfl (by decide)) ?_)
  refine list_cons rfl (op_callM (sort_O L hL) (.tmp 6) 5 [3, 6] [] _ rfl rfl (by intro y hy; cases hy; exact ⟨rfl, (by intro t ht; simp only [List.mem_cons, List.not_mem_nil, or_false] at ht; rcases ht with rfl | rfl <;> rfl), (by intro s hs; simp only [List.mem_cons, List.not_mem_nil, or_false] at hs; (try cases hs))⟩) (by decide) (by decide) (by decide) rfl (fun _ => rfl) ?_)
  rintro _ _ ⟨rfl, rfl⟩
  refine list_nil ?_
  refine hK3 _ ?_; clear hK3 K3
  refine codeT.imp (σ' := [(0, _), (2, _), (3, _)]) ?_ (imp_covers ⟨rfl, rfl, rfl, trivial⟩)
  refine code_seq (fun K4 hK4 => ?_)
  refine code_region ?_
  refine list_cons rfl (op_q (q_move rfl (by decide)) ?_)
  refine list_cons rfl (op_q (q_assign rfl (by decide)) ?_)
  refine list_nil ?_
  refine hK4 _ ?_; clear hK4 K4
  refine code_ret ?_
  refine ends_ret (cs := []) rfl rfl rfl rfl trivial ?_
  rw [srt_len]
theorem llt_take : ∀ {k : Nat} {o b c : List Int}, o.length = b.length → b.length = c.length → c.take k = o.take k → (o = b ∨ llt o b) → (b = c ∨ llt b c) → b.take k = o.take k
  | 0, _, _, _, _, _, _, _, _ => by rw [List.take_zero, List.take_zero]
  | k + 1, [], [], _, _, _, _, _, _ => rfl
  | k + 1, [], _ :: _, _, h, _, _, _, _ => by simp at h
  | k + 1, _ :: _, [], _, h, _, _, _, _ => by simp at h
  | k + 1, _ :: _, _ :: _, [], _, h, _, _, _ => by simp at h
  | k + 1, x :: o, y :: b, z :: c, h1, h2, hc, ho, hb => by
    rw [List.take_succ_cons, List.take_succ_cons] at hc ⊢
    injection hc with hz hc
    rcases ho with ho | ho
    · injection ho with e1 e2; rw [e1, e2]
    · rcases hb with hb | hb
      · injection hb with e1 e2; rw [e1, e2, hz, hc]
      · rcases ho with ho | ⟨e1, ho⟩
        · rcases hb with hb | ⟨e2, _⟩
          · exact absurd ho (by omega)
          · exact absurd ho (by omega)
        · rcases hb with hb | ⟨e2, hb⟩
          · exact absurd hb (by omega)
          · rw [e1, llt_take (by simpa using h1) (by simpa using h2) hc (.inr ho) (.inr hb)]
theorem dsc_rev {l : List Int} (h : Asc l) : Dsc l.reverse := by
  unfold Dsc; rw [List.pairwise_reverse]; exact h
theorem lstL_take {o : List Int} {k : Nat} (h : k ≤ o.length) : (lstL o k).take k = o.take k := by
  unfold lstL; exact List.take_left' (by rw [List.length_take]; omega)
theorem lstL_perm (o : List Int) (k : Nat) : (lstL o k).Perm o := by
  have h : ((srt (o.drop k)).reverse).Perm (o.drop k) := (List.reverse_perm _).trans (srt_perm _)
  have h2 := h.append_left (o.take k)
  rw [List.take_append_drop] at h2
  exact h2
theorem lstL_ge (o : List Int) (k : Nat) : o = lstL o k ∨ llt o (lstL o k) := by
  have h : ((srt (o.drop k)).reverse).Perm (o.drop k) := (List.reverse_perm _).trans (srt_perm _)
  rcases llt_tri (a := o.drop k) (b := (srt (o.drop k)).reverse) h.length_eq.symm with e | e | e
  · left
    unfold lstL
    rw [← e, List.take_append_drop]
  · right
    have := (llt_pre (o.take k) (a := o.drop k) (b := (srt (o.drop k)).reverse)).2 e
    rw [List.take_append_drop] at this
    exact this
  · exact absurd e (dsc_max (dsc_rev (srt_asc _)) h.symm)
theorem hst_pre {cost : List Int → Int} {f o best : List Int} {k : Nat} (hk : k ≤ o.length) (h : Srch cost f o best) (hne : o ≠ f) (hp : ∀ b, b.Perm f → b.take k = o.take k → cost best ≤ cost b) : Hst cost f (lstL o k) best := by
  obtain ⟨hb, ho, h⟩ := h
  rcases h with ⟨e, _⟩ | ⟨_, hl, hall⟩
  · exact absurd e hne
  have hge := lstL_ge o k
  have hlt : ∀ c, (o = c ∨ llt o c) → llt best c := fun c hc => by
    rcases hc with e | e
    · rw [← e]; exact hl
    · exact llt_trans hl e
  refine ⟨hb, .inr (hlt _ hge), fun b hbp hbl => ?_⟩
  have hlen : o.length = b.length := (ho.trans hbp.symm).length_eq
  rcases llt_tri hlen with e | e | e
  · have hc := hp b hbp (by rw [e])
    by_cases e2 : cost best = cost b
    · exact .inr ⟨e2, .inr (hlt b (.inl e))⟩
    · exact .inl (by omega)
  · have hpre := llt_take (k := k) hlen (by rw [lstL_len]; omega) (lstL_take hk) (.inr e) hbl
    have hc := hp b hbp hpre
    by_cases e2 : cost best = cost b
    · exact .inr ⟨e2, .inr (hlt b (.inr e))⟩
    · exact .inl (by omega)
  · exact hall b hbp e
theorem cst_pre {o b : List Int} {k : Nat} (hl : o.length = b.length) (h : b.take k = o.take k) : ∀ m, m ≤ o.length → (m + 1 ≤ k ∨ k = o.length) → cstK b m = cstK o m
  | 0, _, _ => rfl
  | m + 1, hm, hk => by
    have ih := cst_pre hl h m (by omega) (by omega)
    have hat : ∀ j, j < k → b.getD j 0 = o.getD j 0 := fun j hj => by
      have := congrArg (fun z => z.getD j 0) h
      simp only [List.getD_eq_getElem?_getD, List.getElem?_take, if_pos hj] at this
      rw [List.getD_eq_getElem?_getD, List.getD_eq_getElem?_getD]; exact this
    have hmod : (m + 1) % o.length < k := by
      by_cases e : m + 1 = o.length
      · rw [e, Nat.mod_self]; omega
      · rw [Nat.mod_eq_of_lt (by omega)]; omega
    rw [cstK, cstK, ih, hat m (by omega), ← hl, hat _ hmod]
theorem cst_up {b : List Int} {t : Int} {L : Nat} (h : ∀ i, i < L → t ≤ dgt (b.getD i 0).toNat (b.getD ((i + 1) % b.length) 0).toNat) : ∀ d m, m + d = L → cstK b m + t * d ≤ cstK b L
  | 0, m, e => by
    rw [show m = L by omega]; simp
  | d + 1, m, e => by
    have ih := cst_up h d (m + 1) (by omega)
    have h1 := h m (by omega)
    rw [cstK] at ih
    have e2 : t * ((d + 1 : Nat) : Int) = t * (d : Int) + t := by rw [Int.natCast_add, Int.mul_add]; simp
    rw [e2]; omega
theorem arr_put {l : List Int} (h : l.length ≤ 10) : putAt (List.replicate 10 (PV.int .i64 0)) 0 (l.map (PV.int .i64)) = (arr l).map (PV.int .i64) := by
  unfold putAt arr
  rw [List.take_zero, List.nil_append, Nat.zero_add, List.length_map, List.drop_replicate, List.map_append, List.map_replicate]
theorem arr_part {l : List Int} {m : Nat} (hm : m = l.length) : (((arr l).map (PV.int .i64)).drop 0).take m = l.map (PV.int .i64) := by
  subst hm
  unfold arr
  rw [List.drop_zero, List.map_append, List.take_left' (List.length_map _)]
theorem hasK_q : ∀ (n : Nat) (l : List Int), n ≤ l.length → HasK (List.replicate n [BK.int .i64]).flatten (l.map (PV.int .i64))
  | 0, _, _ => trivial
  | n + 1, [], h => absurd h (by simp)
  | n + 1, x :: l, h => by
    rw [List.replicate_succ, List.flatten_cons]
    exact ⟨PV.int .i64 x, l.map (PV.int .i64), rfl, ⟨x, rfl⟩, hasK_q n l (by simpa using h)⟩
theorem eqP_q : ∀ (a b : List Int), a.length = b.length → (EqP (a.map (PV.int .i64)) (b.map (PV.int .i64)) ↔ a = b)
  | [], [], _ => by simp [EqP]
  | [], _ :: _, h => by simp at h
  | _ :: _, [], h => by simp at h
  | x :: a, y :: b, h => by
    have ih := eqP_q a b (by simpa using h)
    simp only [List.map_cons, EqP, Eq1, ih, List.cons.injEq]
def unI (cs : List PV) : List Int := cs.map fun c => match c with | .int _ n => n | _ => 0
theorem unI_map (l : List Int) : unI (l.map (PV.int .i64)) = l := by
  unfold unI; rw [List.map_map]; exact List.map_id _
def muS (f : List Int) (cs : List PV) : Nat := cntF f ((unI cs).take f.length)
theorem muS_arr {f o : List Int} (h : o.length = f.length) : muS f ((arr o).map (PV.int .i64)) = cntF f o := by
  unfold muS
  rw [unI_map, ← h]; unfold arr; rw [List.take_left]
def lsC (r : Bool) (b : List Int) : Int := cstK b (lnk b r)
theorem perm_dg {l b : List Int} (hT : ∀ j, j < l.length → 0 ≤ l.getD j 0 ∧ l.getD j 0 ≤ 9) (h : b.Perm l) {j : Nat} (hj : j < b.length) : 0 ≤ b.getD j 0 ∧ b.getD j 0 ≤ 9 := by
  have hm : b.getD j 0 ∈ b := by rw [List.getD_eq_getElem?_getD, List.getElem?_eq_getElem hj]; exact List.getElem_mem hj
  obtain ⟨i, hi, he⟩ := List.getElem_of_mem (h.mem_iff.1 hm)
  have := hT i hi
  rw [List.getD_eq_getElem?_getD, List.getElem?_eq_getElem hi, Option.getD_some, he] at this
  exact this
theorem arr_get {o : List Int} {j : Nat} (h : j < o.length) : ((arr o).map (PV.int .i64))[j * 1]? = some (PV.int .i64 (o.getD j 0)) := by
  rw [Nat.mul_one, List.getElem?_map]
  unfold arr
  rw [List.getElem?_append_left h, List.getD_eq_getElem?_getD, List.getElem?_eq_getElem h]; rfl
theorem lnk_eq {a b : List Int} (h : a.length = b.length) (r : Bool) : lnk a r = lnk b r := by unfold lnk; rw [h]
theorem perm_short {a b : List Int} (h : a.Perm b) (hl : a.length ≤ 1) : a = b := by
  match a, b, h, hl with
  | [], b, h, _ => exact (List.nil_perm.1 h).symm
  | [x], b, h, _ => exact (List.singleton_perm.1 h)
  | _ :: _ :: _, _, _, hl => simp at hl
theorem pass_ok {l o b : List Int} {r : Bool} {link : Int} (hlk : 2 ≤ l.length → ∀ b : List Int, b.Perm l → ∀ i, i < lnk b r → link ≤ dgt (b.getD i 0).toNat (b.getD ((i + 1) % b.length) 0).toNat) (hS : Srch (lsC r) (srt l) o b) (hne : o ≠ srt l) {t : Nat} (ht : t < lnk (srt l) r) (hc : lsC r b ≤ cstK o (t + 1) + link * (((lnk (srt l) r : Nat) : Int) - 1 - t)) : Hst (lsC r) (srt l) (lstL o (min (t + 2) o.length)) b := by
  have hol : o.length = (srt l).length := hS.2.1.length_eq
  have hlk := hlk (by have hk2 : ¬ o.length ≤ 1 := fun k => hne (perm_short hS.2.1 k); have := srt_len l; omega)
  have hlf := lnk_le (srt l) r
  refine hst_pre (Nat.min_le_right _ _) hS hne fun b' hb' hpre => ?_
  have hlen : o.length = b'.length := by rw [hol, hb'.length_eq]
  have e1 : cstK b' (t + 1) = cstK o (t + 1) := cst_pre hlen hpre (t + 1) (by omega) (by omega)
  have e3 : lnk b' r = lnk (srt l) r := lnk_eq (by omega) r
  have e2 := cst_up (b := b') (t := link) (L := lnk (srt l) r) (fun i hi => hlk b' (hb'.trans (srt_perm l)) i (by omega)) (lnk (srt l) r - 1 - t) (t + 1) (by omega)
  rw [show ((lnk (srt l) r - 1 - t : Nat) : Int) = ((lnk (srt l) r : Nat) : Int) - 1 - t by omega, e1] at e2
  show lsC r b ≤ cstK b' (lnk b' r)
  rw [e3]; omega
theorem ge_next {o o2 f : List Int} {k : Nat} (h : o2 = f ∨ llt (lstL o k) o2) : o2 = f ∨ llt o o2 := by
  rcases h with h | h
  · exact .inl h
  · rcases lstL_ge o k with e | e
    · right; rw [e]; exact h
    · exact .inr (llt_trans e h)
theorem lnk_pos {o f : List Int} {r : Bool} (h : o.Perm f) (hne : o ≠ f) : 0 < lnk f r := by
  have h2 : ¬ o.length ≤ 1 := fun k => hne (perm_short h k)
  have h3 := h.length_eq
  unfold lnk; split <;> omega
set_option maxRecDepth 4000 in
theorem cloneO_c (l : List Int) (hl : l.length ≤ 1000) : PCalls Tryd.prog 58 [.sl l.length (l.map (.int .i64))] (· = [.own 0 3 1 (l).length ((l).map (.int .i64))]) := by
  refine pcalls_of_code (n := 8) az Tryd.func58 (by kernel_rfl) rfl rfl (Nat.le_of_ble_eq_true rfl) (by intro t u h; simp [Tryd.f58] at h) ?_
  refine code_seq (fun K1 hK1 => ?_)
  refine code_region ?_
  refine list_cons rfl (op_q (q_assign rfl (by decide)) ?_)
  refine list_nil ?_
  refine hK1 _ ?_; clear hK1 K1
  refine code_seq (fun K2 hK2 => ?_)
  refine code_seq (fun K3 hK3 => ?_)
  refine code_region ?_
  refine list_cons rfl (op_q (q_move rfl (by decide)) ?_)
  refine list_cons rfl (op_eqnil Tryd.underlying24 rfl rfl (by decide) (fun h1 hzh1 => ?_) ?_)
  · skip
    refine list_nil ?_
    refine hK3 _ ?_; clear hK3 K3
    refine code_cond_t rfl ?_
    refine code_seq (fun K4 hK4 => ?_)
    refine code_region ?_
    refine list_cons rfl (op_q (q_assign rfl (by decide)) ?_)
    refine list_nil ?_
    refine hK4 _ ?_; clear hK4 K4
    refine codeT.imp ?_ (imp_nil (s := 2) (l := 902) (e := 3) (size := 1) (by first | exact .inl rfl | exact .inr rfl))
    refine code_ret ?_
    refine then_r ?_; clear hK2 K2
    refine ends_ret (cs := []) rfl rfl rfl rfl trivial ?_
    first
      | rfl
      | (have e : l = [] := List.eq_nil_of_length_eq_zero h1
         subst e; rfl)
      | (rw [show zeros [PV.int IntKind.i64 0] 0 = [] from rfl, List.nil_append, Nat.zero_add]; done)
  · skip
    refine list_nil ?_
    refine hK3 _ ?_; clear hK3 K3
    refine code_cond_f rfl ?_
    refine code_skip ?_
    refine hK2 _ ?_; clear hK2 K2
    refine code_seq (fun K5 hK5 => ?_)
    refine code_region ?_
    refine list_cons rfl (op_buildSlice sl_24 (parts := []) rfl rfl rfl (by decide) (by decide) (by decide) rfl ?_)
    refine list_cons rfl (op_q (q_move rfl (by decide)) ?_)
    refine list_cons rfl (op_append_gen sl_24 (l := 5) (.inl rfl) rfl rfl (l2 := none) (.inl ⟨rfl, (by first | rfl | exact flat_map _ (fun _ => rfl) _)⟩) (by first | rfl | simp | omega) (by omega) (by decide) (by decide) (by decide) ?_)
    refine list_cons rfl (op_q (q_assign rfl (by decide)) ?_)
    refine list_nil ?_
    refine hK5 _ ?_; clear hK5 K5
    refine codeT.imp (σ' := [(0, _), (2, _)]) ?_ (imp_covers ⟨rfl, rfl, trivial⟩)
    refine code_ret ?_
    refine ends_ret (cs := []) rfl rfl rfl rfl trivial ?_
    first
      | rfl
      | (have e : l = [] := List.eq_nil_of_length_eq_zero h1
         subst e; rfl)
      | (rw [show zeros [PV.int IntKind.i64 0] 0 = [] from rfl, List.nil_append, Nat.zero_add]; done)
theorem clone_E (n : Nat) (cs : List PV) (l : List Int) (h1 : n = l.length) (h2 : cs = l.map (.int .i64)) (hl : l.length ≤ 1000) : PCalls Tryd.prog 58 [.sl n cs] (· = [.own 0 3 1 (l).length ((l).map (.int .i64))]) := by
  subst h1; subst h2; exact cloneO_c l hl
theorem afterE (n : Int) (cs : List PV) (a : List Int) (h1 : n = a.length) (h2 : cs = (arr a).map (.int .i64)) (h10 : a.length ≤ 10) : PCalls Tryd.prog 56 [.agg cs, .int .i64 n] (fun rs => ∃ b, NextOf a b ∧ rs = [.val (.agg ((arr b).map (.int .i64)))]) := by
  subst h1; subst h2; exact impl_afterSequence a h10
theorem lastE (n m : Int) (cs : List PV) (a : List Int) (kk : Nat) (h1 : n = a.length) (h2 : cs = (arr a).map (.int .i64)) (h3 : m = kk) (h10 : a.length ≤ 10) (hk : kk ≤ a.length) : PCalls Tryd.prog 57 [.agg cs, .int .i64 m, .int .i64 n] (· = [.val (.agg ((arr (lstL a kk)).map (.int .i64)))]) := by
  subst h1; subst h2; subst h3; exact impl_lastLike a kk h10 hk
set_option maxRecDepth 20000 in
set_option maxHeartbeats 4000000 in
theorem impl_leastSequence (l : List Int) (r : Bool) (link : Int) (hl : l.length ≤ 10) (hT : ∀ j, j < l.length → 0 ≤ l.getD j 0 ∧ l.getD j 0 ≤ 9) (hk0 : 0 ≤ link ∧ link ≤ 7) (hlk : 2 ≤ l.length → ∀ b : List Int, b.Perm l → ∀ i, i < lnk b r → link ≤ dgt (b.getD i 0).toNat (b.getD ((i + 1) % b.length) 0).toNat) : MCalls Tryd.prog 47 true none [.sl l.length (l.map (.int .i64)), .bool r, .int .i64 link] (fun rs _ => ∃ b : List Int, BstAll (lsC r) (srt l) b ∧ rs = [.own 0 3 1 (b).length ((b).map (.int .i64)), .val (.int .i64 (lsC r b))]) := by
  refine mcalls_of_code (n := 84) az Tryd.func47 (by kernel_rfl) rfl rfl (Nat.le_of_ble_eq_true rfl) (by intro t u h; simp [Tryd.f47] at h) ?_
  have hfa := srt_asc l
  have hfp := srt_perm l
  have hfl := srt_len l
  have hTf : ∀ j, j < (srt l).length → 0 ≤ (srt l).getD j 0 ∧ (srt l).getD j 0 ≤ 9 := fun j hj => perm_dg hT hfp hj
  have hlkf := lnk_le (srt l) r
  refine code_seq (fun K1 hK1 => ?_)
  refine code_region ?_
  refine list_cons rfl (op_q (q_assign rfl (by decide)) ?_)
  refine list_cons rfl (op_q (q_assign rfl (by decide)) ?_)
  refine list_nil ?_
  refine hK1 _ ?_; clear hK1 K1
  refine code_scope ?_
  refine code_seq (fun K2 hK2 => ?_)
  refine code_region ?_
  refine list_cons rfl (op_q (q_move rfl (by decide)) ?_)
  refine list_cons rfl (op_callM (values_c l) (.tmp 0) 0 [] [.tmp 18] _ rfl rfl (by intro y hy; cases hy) (by decide) (by decide) (by decide) rfl (by intro h; cases h) ?_)
  rintro _ _ rfl
  refine list_cons rfl (op_call _ (sorted_c 66 [.sl l.length (l.map (.int .i64))] [] l (by omega) (values_it l (by omega))) rfl rfl (by decide) (by decide) (by decide) rfl ?_)
  rintro _ rfl
  refine list_cons rfl (op_q (q_assign rfl (by decide)) ?_)
  refine list_nil ?_
  refine hK2 _ ?_; clear hK2 K2
  refine codeT.imp (σ' := [(0, _), (1, _), (2, _), (6, _), (7, _), (8, _)]) ?_ (imp_covers ⟨rfl, rfl, rfl, rfl, rfl, rfl, trivial⟩)
  refine code_seq (fun K3 hK3 => ?_)
  refine code_region ?_
  refine list_cons rfl (op_q (q_move rfl (by decide)) ?_)
  refine list_cons rfl (op_q (q_move rfl (by decide)) ?_)
  refine list_cons rfl (op_call _ (impl_costOf (srt l) r (by rw [srt_len]; omega) hTf) rfl rfl (by decide) (by decide) (by decide) rfl ?_)
  rintro _ rfl
  refine list_cons rfl (op_q (q_assign rfl (by decide)) ?_)
  refine list_nil ?_
  refine hK3 _ ?_; clear hK3 K3
  refine codeT.imp (σ' := [(0, _), (1, _), (2, _), (6, _), (7, _), (8, _), (9, _)]) ?_ (imp_covers ⟨rfl, rfl, rfl, rfl, rfl, rfl, rfl, trivial⟩)
  refine code_seq (fun K4 hK4 => ?_)
  refine code_region ?_
  refine list_cons rfl (op_alloc zt_77 (by decide) (by decide) rfl ?_)
  refine list_nil ?_
  refine hK4 _ ?_; clear hK4 K4
  refine code_seq (fun K5 hK5 => ?_)
  refine code_region ?_
  refine list_cons rfl (op_q (q_sliceBox Tryd.underlying77 one_3.2 rfl rfl rfl (by omega) (by omega) (by omega) (by decide)) ?_)
  refine list_cons rfl (op_q (q_move rfl (by decide)) ?_)
  refine list_cons rfl (op_copyV Tryd.underlying24 (by kernel_rfl) 10 rfl rfl rfl rfl (flat_map _ (fun _ => rfl) _) (by rw [List.length_map]) (by show _ ≤ 10; omega) (by decide) (by decide) ?_)
  refine list_cons rfl (op_q (q_assign rfl (by decide)) ?_)
  refine list_nil ?_
  refine hK5 _ ?_; clear hK5 K5
  refine codeT.imp (σ' := [(0, _), (1, _), (2, _), (6, _), (7, _), (8, _), (9, _), (10, .box 10 77 ((arr (srt l)).map (.int .i64))), (11, _)]) ?_ (imp_covers ⟨rfl, rfl, rfl, rfl, rfl, rfl, rfl, (congrArg (fun z => some (SV.box 10 77 z)) (arr_put (by omega))), rfl, trivial⟩)
  refine code_seq (fun K6 hK6 => ?_)
  refine any_start fun ob1_0 => ?_
  refine any_op (rd := [10]) ob1_0 rfl rfl rfl (anyT_quiet [(10, _)] ⟨rfl, trivial⟩ rfl (q_cast (q_load_agg agg_77 10 (.inr ⟨rfl, _, rfl⟩) rfl rfl (by first | exact Nat.le_of_ble_eq_true rfl | (rw [List.length_map, arr_len (by rw [srt_len]; omega)]; decide) | (rw [List.length_map, arr_len (by omega)]; decide)) (by first | rfl | exact flat_part (flat_map _ (fun _ => rfl) _) _ _) (by decide)) (congrArg (fun z => SV.val (PV.agg z)) (ld10 (by first | exact arr_len (by rw [srt_len]; omega) | exact arr_len (by omega)))))) (fun ob1_1 => ?_)
  refine any_op (rd := []) ob1_1 rfl rfl rfl (fun σ hag hfr => by exact op_call _ (impl_ChangeTable) evs_nil rfl (by decide) (by decide) (by decide) hfr (fun rs hR => by subst hR; rfl)) (fun ob1_2 => ?_)
  refine any_op (rd := [11]) ob1_2 rfl rfl rfl (anyT_quiet [(11, _)] ⟨rfl, trivial⟩ rfl (q_move rfl (by decide))) (fun ob1_3 => ?_)
  refine any_op (rd := [1]) ob1_3 rfl rfl rfl (anyT_quiet [(1, _)] ⟨rfl, trivial⟩ rfl (q_move rfl (by decide))) (fun ob1_4 => ?_)
  refine any_op (rd := [29, 30]) ob1_4 rfl rfl rfl (fun σ hag hfr => by have e29 : σ.at 29 = some _ := (hag 29 (by decide)).trans rfl; have e30 : σ.at 30 = some _ := (hag 30 (by decide)).trans rfl; exact op_call _ (impl_linksOf (srt l) r (by omega)) (evs_cons e29 (evs_cons e30 evs_nil)) rfl (by decide) (by decide) (by decide) hfr (fun rs hR => by subst hR; rfl)) (fun ob1_5 => ?_)
  refine any_op (rd := []) ob1_5 rfl rfl rfl (fun σ hag hfr => op_alloc zt_77 (by decide) (by decide) (fr1000 hfr (by decide)) rfl) (fun ob1_6 => ?_)
  refine any_op (rd := []) ob1_6 rfl rfl rfl (fun σ hag hfr => op_alloc zt_33 (by decide) (by decide) (fr1000 hfr (by decide)) rfl) (fun ob1_7 => ?_)
  refine any_end [[], [], [], [], [1, 2, 3], [], [], [0, 1, 2, 3, 4, 5, 6], [0, 1, 2, 3, 4, 5, 6, 7], [0, 1, 2, 3, 4, 5, 6, 7, 8]] ob1_7 (by kernel_rfl) (Nat.le_of_ble_eq_true rfl) (by decide) (by decide) (by kernel_rfl) (by kernel_rfl) (by kernel_rfl) (by kernel_rfl) (by kernel_rfl) ?_
  clear ob1_0 ob1_1 ob1_2 ob1_3 ob1_4 ob1_5 ob1_6 ob1_7
  refine listT.imp (σ' := [(0, _), (1, _), (2, _), (6, _), (7, _), (8, _), (9, _), (10, _), (11, _), (12, _), (13, _), (27, _), (28, _), (29, _), (30, _), (31, _)]) ?_ (imp_covers ⟨rfl, rfl, rfl, rfl, rfl, rfl, rfl, rfl, rfl, rfl, rfl, rfl, rfl, rfl, rfl, rfl, trivial⟩)
  refine list_cons rfl (op_store (agg_77).2 12 [12] (by intro t ht; simp only [List.mem_cons, List.not_mem_nil, or_false] at ht; subst ht; rfl) (.inr ⟨rfl, _, rfl⟩) rfl rfl rfl rfl (by first | rfl | exact flat_part (flat_map _ (fun _ => rfl) _) _ _ | exact flat_map _ (fun _ => rfl) _) (by first | rfl | (simp only [PV.cells, List.length_map]; first | exact arr_len (by rw [srt_len]; omega) | exact arr_len (by omega) | (simp [tabS, filN_len]; done))) (by first | decide | (rw [List.length_map, arr_len (by rw [srt_len]; omega)]; decide) | (rw [List.length_map, arr_len (by omega)]; decide) | (simp [tabS, filN_len]; done)) (by decide) rfl ?_)
  refine list_cons rfl (op_store (agg_33).2 13 [13] (by intro t ht; simp only [List.mem_cons, List.not_mem_nil, or_false] at ht; subst ht; rfl) (.inr ⟨rfl, _, rfl⟩) rfl rfl rfl rfl (by first | rfl | exact flat_part (flat_map _ (fun _ => rfl) _) _ _ | exact flat_map _ (fun _ => rfl) _) (by first | rfl | (simp only [PV.cells, List.length_map]; first | exact arr_len (by rw [srt_len]; omega) | exact arr_len (by omega) | (simp [tabS, filN_len]; done))) (by first | decide | (rw [List.length_map, arr_len (by rw [srt_len]; omega)]; decide) | (rw [List.length_map, arr_len (by omega)]; decide) | (simp [tabS, filN_len]; done)) (by decide) rfl ?_)
  refine list_cons rfl (op_q (q_assign rfl (by decide)) ?_)
  refine list_nil ?_
  refine hK6 _ ?_; clear hK6 K6
  refine codeT.imp (σ' := [(0, _), (1, _), (2, _), (6, _), (7, _), (8, _), (9, _), (10, _), (11, _), (12, .box 12 77 ((arr (srt l)).map (.int .i64))), (13, .box 13 33 ((tabS 100).map (.int .i64))), (14, _)]) ?_ (imp_covers ⟨rfl, rfl, rfl, rfl, rfl, rfl, rfl, rfl, rfl, (congrArg (fun z => some (SV.box 12 77 z)) (put_all8 (n := 10) (by first | rfl | (simp only [List.length_map]; exact arr_len (by omega)) | (simp only [List.length_map]; exact arr_len (by rw [lstL_len]; omega)) | (simp only [List.length_map]; exact arr_len (by rw [srt_len]; omega))) (by simp only [List.length_map]; first | exact arr_len (by omega) | exact arr_len (by rw [lstL_len]; omega) | exact arr_len (by rw [srt_len]; omega)))), (congrArg (fun z => some (SV.box 13 33 z)) (put_new (n := 100) (by rfl) (by simp [tabS, filN_len]))), rfl, trivial⟩)
  refine code_seq (fun K7 hK7 => ?_)
  refine code_label ?_
  refine hK7 _ ?_; clear hK7 K7
  refine code_seq (fun K8 hK8 => ?_)
  refine code_seq (fun K9 hK9 => ?_)
  refine code_region ?_
  refine list_cons rfl (op_q (q_cast (q_load_agg agg_77 10 (.inr ⟨rfl, _, rfl⟩) rfl rfl (by first | exact Nat.le_of_ble_eq_true rfl | (rw [List.length_map, arr_len (by rw [srt_len]; omega)]; decide) | (rw [List.length_map, arr_len (by omega)]; decide)) (by first | rfl | exact flat_part (flat_map _ (fun _ => rfl) _) _ _) (by decide)) (congrArg (fun z => SV.val (PV.agg z)) (ld10 (by first | exact arr_len (by rw [srt_len]; omega) | exact arr_len (by omega))))) ?_)
  refine list_cons rfl (op_q (q_move rfl (by decide)) ?_)
  refine list_cons rfl (op_call _ (afterE _ _ (srt l) rfl rfl (by rw [srt_len]; omega)) rfl rfl (by decide) (by decide) (by decide) rfl ?_)
  rintro _ ⟨o1, ho1, rfl⟩; have ho1l : o1.length ≤ 10 := by rw [ho1.perm.length_eq, srt_len]; omega
  refine list_cons rfl (op_alloc zt_77 (by decide) (by decide) rfl ?_)
  refine list_cons rfl (op_store (agg_77).2 15 [15] (by intro t ht; simp only [List.mem_cons, List.not_mem_nil, or_false] at ht; subst ht; rfl) (.inr ⟨rfl, _, rfl⟩) rfl rfl rfl rfl (by first | rfl | exact flat_part (flat_map _ (fun _ => rfl) _) _ _ | exact flat_map _ (fun _ => rfl) _) (by first | rfl | (simp only [PV.cells, List.length_map]; first | exact arr_len (by rw [srt_len]; omega) | exact arr_len (by omega) | (simp [tabS, filN_len]; done))) (by first | decide | (rw [List.length_map, arr_len (by rw [srt_len]; omega)]; decide) | (rw [List.length_map, arr_len (by omega)]; decide) | (simp [tabS, filN_len]; done)) (by decide) rfl ?_)
  refine list_nil ?_
  refine hK9 _ ?_; clear hK9 K9
  refine codeT.imp (σ' := [(0, _), (1, _), (2, _), (6, _), (7, _), (8, _), (9, _), (10, _), (11, _), (12, _), (13, _), (14, _), (15, .box 15 77 _)]) ?_ (imp_covers ⟨rfl, rfl, rfl, rfl, rfl, rfl, rfl, rfl, rfl, rfl, rfl, rfl, (by first | exact congrArg (fun z => some (SV.box 15 77 z)) (put_all8 (n := 10) (by first | rfl | (simp only [List.length_map]; first | exact arr_len (by omega) | exact arr_len (by rw [srt_len]; omega))) (by simp only [List.length_map]; first | exact arr_len (by omega) | exact arr_len (by rw [srt_len]; omega))) | rfl), trivial⟩)
  refine code_block ?_
  refine code_loop (X := PV × Int × Nat × List PV × Int × List PV × List PV) (fun x => [(0, .ext (.sl l.length (l.map (.int .i64)))), (1, .val (.bool r)), (2, .val (.int .i64 link)), (6, .val x.1), (7, .val (.int .i64 x.2.1)), (8, .own 20 3 1 x.2.2.1 x.2.2.2.1), (9, .val (.int .i64 x.2.2.2.2.1)), (10, .box 10 77 ((arr (srt l)).map (.int .i64))), (11, .val (.int .i64 (((srt l).length : Nat)))), (12, .box 12 77 x.2.2.2.2.2.1), (13, .box 13 33 ((tabS 100).map (.int .i64))), (14, .val (.int .i64 (lnk (srt l) r))), (15, .box 15 77 x.2.2.2.2.2.2)]) (fun x => ∃ o b : List Int, x.2.2.2.2.2.2 = (arr o).map (.int .i64) ∧ x.2.2.2.2.2.1 = (arr b).map (.int .i64) ∧ x.2.2.2.2.1 = lsC r b ∧ Srch (lsC r) (srt l) o b) (fun x => muS (srt l) x.2.2.2.2.2.2) (_, _, _, _, _, _, _) (imp_covers ⟨rfl, rfl, rfl, rfl, rfl, rfl, rfl, rfl, rfl, rfl, rfl, rfl, rfl, trivial⟩) ?_ ?_
  · (try dsimp only)
    exact ⟨o1, srt l, rfl, rfl, rfl, (srch_next hfa (hst_0 (lsC r) hfa) (List.Perm.refl _) ho1).1⟩
  · intro x hI
    obtain ⟨t6_p, t7, ascending_n, ascending_c, least, best_c, order_c⟩ := x
    replace hI : ∃ o b : List Int, order_c = (arr o).map (.int .i64) ∧ best_c = (arr b).map (.int .i64) ∧ least = lsC r b ∧ Srch (lsC r) (srt l) o b := hI
    show codeT _ _ _ [(0, .ext (.sl l.length (l.map (.int .i64)))), (1, .val (.bool r)), (2, .val (.int .i64 link)), (6, .val t6_p), (7, .val (.int .i64 t7)), (8, .own 20 3 1 ascending_n ascending_c), (9, .val (.int .i64 least)), (10, .box 10 77 ((arr (srt l)).map (.int .i64))), (11, .val (.int .i64 (((srt l).length : Nat)))), (12, .box 12 77 best_c), (13, .box 13 33 ((tabS 100).map (.int .i64))), (14, .val (.int .i64 (lnk (srt l) r))), (15, .box 15 77 order_c)] _
    obtain ⟨o, b, rfl, rfl, rfl, hS⟩ := hI
    have hb := hS.1
    have ho := hS.2.1
    have hol : o.length = l.length := by rw [ho.length_eq, srt_len]
    have hbl : b.length = l.length := by rw [hb.length_eq, srt_len]
    refine code_seq (fun K10 hK10 => ?_)
    refine code_seq (fun K11 hK11 => ?_)
    refine code_region ?_
    refine list_cons rfl (op_q (q_cast (q_load_agg agg_77 15 (.inr ⟨rfl, _, rfl⟩) rfl rfl (by first | exact Nat.le_of_ble_eq_true rfl | (rw [List.length_map, arr_len (by rw [srt_len]; omega)]; decide) | (rw [List.length_map, arr_len (by omega)]; decide)) (by first | rfl | exact flat_part (flat_map _ (fun _ => rfl) _) _ _) (by decide)) (congrArg (fun z => SV.val (PV.agg z)) (ld10 (by first | exact arr_len (by rw [srt_len]; omega) | exact arr_len (by omega))))) ?_)
    refine list_cons rfl (op_q (q_cast (q_load_agg agg_77 10 (.inr ⟨rfl, _, rfl⟩) rfl rfl (by first | exact Nat.le_of_ble_eq_true rfl | (rw [List.length_map, arr_len (by rw [srt_len]; omega)]; decide) | (rw [List.length_map, arr_len (by omega)]; decide)) (by first | rfl | exact flat_part (flat_map _ (fun _ => rfl) _) _ _) (by decide)) (congrArg (fun z => SV.val (PV.agg z)) (ld10 (by first | exact arr_len (by rw [srt_len]; omega) | exact arr_len (by omega))))) ?_)
    refine list_cons rfl (op_q (q_aggne (by decide) agg_77 eqty_77 eqg_77 rfl rfl (hasK_q 10 _ (by first | (rw [arr_len (by rw [srt_len]; omega)]; decide) | (rw [arr_len (by omega)]; decide))) (hasK_q 10 _ (by first | (rw [arr_len (by rw [srt_len]; omega)]; decide) | (rw [arr_len (by omega)]; decide))) (by rw [List.length_map]; first | (rw [arr_len (by rw [srt_len]; omega)]; rfl) | (rw [arr_len (by omega)]; rfl)) (by rw [List.length_map]; first | (rw [arr_len (by rw [srt_len]; omega)]; rfl) | (rw [arr_len (by omega)]; rfl)) (by decide)) ?_)
    refine list_nil ?_
    refine hK11 _ ?_; clear hK11 K11
    refine code_cond_d rfl (fun h1 => ?_) (fun h1 => ?_)
    · skip
      (try simp only [Decidable.not_not] at h1); (try rw [hwr (by omega)] at h1); (try have hne : o ≠ srt l := fun e => (h1 : ¬ EqP _ _) ((eqP_q _ _ (by rw [arr_len (by omega), arr_len (by rw [srt_len]; omega)])).2 (by rw [e]))); (try have heq : o = srt l := arr_inj (by rw [srt_len]; omega) ((eqP_q _ _ (by rw [arr_len (by omega), arr_len (by rw [srt_len]; omega)])).1 (h1 : EqP _ _)))
      refine code_skip ?_
      refine hK10 _ ?_; clear hK10 K10
      refine code_seq (fun K12 hK12 => ?_)
      refine code_block ?_
      refine code_seq (fun K13 hK13 => ?_)
      refine code_region ?_
      refine list_cons rfl (op_q (q_assign rfl (by decide)) ?_)
      refine list_nil ?_
      refine hK13 _ ?_; clear hK13 K13
      refine code_seq (fun K14 hK14 => ?_)
      refine code_seq (fun K15 hK15 => ?_)
      refine code_region ?_
      refine list_cons rfl (op_q (q_move rfl (by decide)) ?_)
      refine list_cons rfl (op_q (q_move rfl (by decide)) ?_)
      refine list_nil ?_
      refine hK15 _ ?_; clear hK15 K15
      refine code_block ?_
      refine code_loop (X := PV × Int × Nat × List PV × Int × Int) (fun x => [(0, .ext (.sl l.length (l.map (.int .i64)))), (1, .val (.bool r)), (2, .val (.int .i64 link)), (6, .val x.1), (7, .val (.int .i64 x.2.1)), (8, .own 20 3 1 x.2.2.1 x.2.2.2.1), (9, .val (.int .i64 (lsC r b))), (10, .box 10 77 ((arr (srt l)).map (.int .i64))), (11, .val (.int .i64 (((srt l).length : Nat)))), (12, .box 12 77 ((arr b).map (.int .i64))), (13, .box 13 33 ((tabS 100).map (.int .i64))), (14, .val (.int .i64 (lnk (srt l) r))), (15, .box 15 77 ((arr o).map (.int .i64))), (16, .val (.int .i64 x.2.2.2.2.1)), (41, .val (.int .i64 (lnk (srt l) r))), (42, .val (.int .i64 x.2.2.2.2.2))]) (fun x => 0 ≤ x.2.2.2.2.2 ∧ x.2.2.2.2.2 ≤ lnk (srt l) r ∧ x.2.2.2.2.1 = cstK o x.2.2.2.2.2.toNat ∧ (0 < x.2.2.2.2.2 → x.2.2.2.2.1 + link * (lnk (srt l) r - x.2.2.2.2.2) < lsC r b)) (fun x => (lnk (srt l) r - x.2.2.2.2.2).toNat) (_, _, _, _, _, _) (imp_covers ⟨rfl, rfl, rfl, rfl, rfl, rfl, rfl, rfl, rfl, rfl, rfl, rfl, rfl, rfl, rfl, rfl, trivial⟩) ?_ ?_
      · (try dsimp only)
        exact ⟨by omega, by omega, rfl, fun h => absurd h (by omega)⟩
      · intro x hI
        obtain ⟨t6_p, t7, ascending_n, ascending_c, cost, t42⟩ := x
        replace hI : 0 ≤ t42 ∧ t42 ≤ lnk (srt l) r ∧ cost = cstK o t42.toNat ∧ (0 < t42 → cost + link * (lnk (srt l) r - t42) < lsC r b) := hI
        show codeT _ _ _ [(0, .ext (.sl l.length (l.map (.int .i64)))), (1, .val (.bool r)), (2, .val (.int .i64 link)), (6, .val t6_p), (7, .val (.int .i64 t7)), (8, .own 20 3 1 ascending_n ascending_c), (9, .val (.int .i64 (lsC r b))), (10, .box 10 77 ((arr (srt l)).map (.int .i64))), (11, .val (.int .i64 (((srt l).length : Nat)))), (12, .box 12 77 ((arr b).map (.int .i64))), (13, .box 13 33 ((tabS 100).map (.int .i64))), (14, .val (.int .i64 (lnk (srt l) r))), (15, .box 15 77 ((arr o).map (.int .i64))), (16, .val (.int .i64 cost)), (41, .val (.int .i64 (lnk (srt l) r))), (42, .val (.int .i64 t42))] _
        obtain ⟨i1, i2, rfl, i4⟩ := hI
        have hcb := cstK_le o t42.toNat
        have hll : (lstL o (min (t42.toNat + 2) o.length)).length ≤ 10 := by rw [lstL_len]; omega
        have hdo : ∀ j, j < o.length → 0 ≤ o.getD j 0 ∧ o.getD j 0 ≤ 9 := fun j hj => perm_dg hTf ho hj
        have hg := dgt_le (o.getD t42.toNat 0).toNat (o.getD ((t42 + 1) % ((srt l).length : Int)).toNat 0).toNat
        have hm : 0 < l.length → 0 ≤ (t42 + 1) % ((srt l).length : Int) ∧ (t42 + 1) % ((srt l).length : Int) < (srt l).length := fun h => ⟨Int.emod_nonneg _ (by omega), Int.emod_lt_of_pos _ (by omega)⟩
        have hmt : ((t42 + 1) % ((srt l).length : Int)).toNat = (t42.toNat + 1) % (srt l).length := by rw [show t42 + 1 = ((t42.toNat + 1 : Nat) : Int) by omega, ← Int.natCast_emod, Int.toNat_natCast]
        have hmu : t42 < lnk (srt l) r → 0 ≤ link * (((lnk (srt l) r : Nat) : Int) - 1 - t42) ∧ link * (((lnk (srt l) r : Nat) : Int) - 1 - t42) ≤ 70 := fun h => ⟨Int.mul_nonneg hk0.1 (by omega), Int.le_trans (Int.mul_le_mul hk0.2 (show ((lnk (srt l) r : Nat) : Int) - 1 - t42 ≤ 10 by omega) (by omega) (by omega)) (by omega)⟩
        have hwr : t42 < lnk (srt l) r → IntKind.i64.wrap (cstK o t42.toNat + dgt (o.getD t42.toNat 0).toNat (o.getD ((t42 + 1) % ((srt l).length : Int)).toNat 0).toNat + IntKind.i64.wrap (link * (((lnk (srt l) r : Nat) : Int) - 1 - t42))) = cstK o t42.toNat + dgt (o.getD t42.toNat 0).toNat (o.getD ((t42 + 1) % ((srt l).length : Int)).toNat 0).toNat + link * (((lnk (srt l) r : Nat) : Int) - 1 - t42) := fun h => by
          have h1 := hmu h
          rw [wrap_in (i := link * (((lnk (srt l) r : Nat) : Int) - 1 - t42)) (by omega) (by omega), wrap_in (by omega) (by omega)]
        have hstep : cstK o (t42 + 1).toNat = cstK o t42.toNat + dgt (o.getD t42.toNat 0).toNat (o.getD ((t42 + 1) % ((srt l).length : Int)).toNat 0).toNat := by rw [show (t42 + 1).toNat = t42.toNat + 1 by omega, cstK, hmt, show o.length = (srt l).length by omega]
        have d1 : t42 < l.length → 0 ≤ o.getD t42.toNat 0 ∧ o.getD t42.toNat 0 ≤ 9 := fun h => hdo _ (by omega)
        have d2 : t42 < l.length → 0 ≤ o.getD ((t42 + 1) % ((srt l).length : Int)).toNat 0 ∧ o.getD ((t42 + 1) % ((srt l).length : Int)).toNat 0 ≤ 9 := fun h => hdo _ (by have := hm (by omega); omega)
        refine code_seq (fun K16 hK16 => ?_)
        refine code_region ?_
        refine list_cons rfl (op_q (q_lt rfl rfl (by decide)) ?_)
        refine list_nil ?_
        refine hK16 _ ?_; clear hK16 K16
        refine code_seq (fun K17 hK17 => ?_)
        refine code_cond_d rfl (fun h2 => ?_) (fun h2 => ?_)
        · skip
          (try simp only [Decidable.not_not] at h2); (try rw [hwr (by omega)] at h2); (try have hne : o ≠ srt l := fun e => (h2 : ¬ EqP _ _) ((eqP_q _ _ (by rw [arr_len (by omega), arr_len (by rw [srt_len]; omega)])).2 (by rw [e]))); (try have heq : o = srt l := arr_inj (by rw [srt_len]; omega) ((eqP_q _ _ (by rw [arr_len (by omega), arr_len (by rw [srt_len]; omega)])).1 (h2 : EqP _ _)))
          refine code_skip ?_
          refine hK17 _ ?_; clear hK17 K17
          refine code_seq (fun K18 hK18 => ?_)
          refine code_block ?_
          refine code_seq (fun K19 hK19 => ?_)
          refine code_region ?_
          refine list_cons rfl (op_q (q_move rfl (by decide)) ?_)
          refine list_cons rfl (op_q (q_assign rfl (by decide)) ?_)
          refine list_nil ?_
          refine hK19 _ ?_; clear hK19 K19
          refine code_seq (fun K20 hK20 => ?_)
          refine code_draw (by kernel_rfl) (by kernel_rfl) ?_
          refine draw_q rfl (q_move rfl (by decide)) ?_
          refine draw_q rfl (q_move rfl (by decide)) ?_
          refine draw_q rfl (q_indexAddr_arr arr_77 rfl rfl rfl (by omega) (by omega) (by decide)) ?_
          refine draw_q rfl (q_load one_3 15 rfl rfl rfl (by first | exact arr_get (by omega) | exact tab_get (by omega) (by omega)) (by decide)) ?_
          refine draw_q rfl (q_move rfl (by decide)) ?_
          refine draw_q rfl (by first | exact q_addI rfl rfl (by decide) (by omega) (by omega) | exact q_ib rfl rfl rfl (by decide)) ?_
          refine draw_q rfl (q_move rfl (by decide)) ?_
          refine draw_q rfl (by first | exact q_remI rfl rfl (by decide) (by omega) (by omega) | exact q_rem rfl rfl (by omega) (by decide)) ?_
          refine draw_q rfl (q_indexAddr_arr arr_77 rfl rfl rfl (by omega) (by omega) (by decide)) ?_
          refine draw_q rfl (q_load one_3 15 rfl rfl rfl (by first | exact arr_get (by omega) | exact tab_get (by omega) (by omega)) (by decide)) ?_
          refine draw_q rfl (q_indexAddr_arr arr_33 rfl rfl rfl (by omega) (by omega) (by decide)) ?_
          refine draw_q rfl (q_indexAddr_arr arr_32 rfl rfl rfl (by omega) (by omega) (by decide)) ?_
          refine draw_q rfl (q_load one_3 13 rfl rfl rfl (by first | exact arr_get (by omega) | exact tab_get (by omega) (by omega)) (by decide)) ?_
          refine draw_q rfl (by first | exact q_addI rfl rfl (by decide) (by omega) (by omega) | exact q_ib rfl rfl rfl (by decide)) ?_
          refine draw_q rfl (q_assign rfl (by decide)) ?_
          refine draw_nil ?_
          refine hK20 _ ?_; clear hK20 K20
          refine codeT.imp (σ' := [(0, _), (1, _), (2, _), (6, _), (7, _), (8, _), (9, _), (10, _), (11, _), (12, _), (13, _), (14, _), (15, _), (16, _), (17, _), (41, _), (42, _)]) ?_ (imp_covers ⟨rfl, rfl, rfl, rfl, rfl, rfl, rfl, rfl, rfl, rfl, rfl, rfl, rfl, rfl, rfl, rfl, rfl, trivial⟩)
          refine code_seq (fun K21 hK21 => ?_)
          refine code_region ?_
          refine list_cons rfl (op_q (q_move rfl (by decide)) ?_)
          refine list_cons rfl (op_q (q_move rfl (by decide)) ?_)
          refine list_cons rfl (op_q (q_move rfl (by decide)) ?_)
          refine list_cons rfl (op_q (by first | exact q_subI rfl rfl (by decide) (by omega) (by omega) | exact q_ib rfl rfl rfl (by decide)) ?_)
          refine list_cons rfl (op_q (q_move rfl (by decide)) ?_)
          refine list_cons rfl (op_q (by first | exact q_subI rfl rfl (by decide) (by omega) (by omega) | exact q_ib rfl rfl rfl (by decide)) ?_)
          refine list_cons rfl (op_q (by first | exact q_mulI rfl rfl (by decide) (by omega) (by omega) | exact q_ib rfl rfl rfl (by decide)) ?_)
          refine list_cons rfl (op_q (by first | exact q_addI rfl rfl (by decide) (by omega) (by omega) | exact q_ib rfl rfl rfl (by decide)) ?_)
          refine list_cons rfl (op_q (q_move rfl (by decide)) ?_)
          refine list_cons rfl (op_q (q_ge rfl rfl (by decide)) ?_)
          refine list_nil ?_
          refine hK21 _ ?_; clear hK21 K21
          refine codeT.imp (σ' := [(0, _), (1, _), (2, _), (6, _), (7, _), (8, _), (9, _), (10, _), (11, _), (12, _), (13, _), (14, _), (15, _), (16, _), (17, _), (41, _), (42, _), (68, _)]) ?_ (imp_covers ⟨rfl, rfl, rfl, rfl, rfl, rfl, rfl, rfl, rfl, rfl, rfl, rfl, rfl, rfl, rfl, rfl, rfl, rfl, trivial⟩)
          refine code_cond_d rfl (fun h3 => ?_) (fun h3 => ?_)
          · skip
            (try simp only [Decidable.not_not] at h3); (try rw [hwr (by omega)] at h3); (try have hne : o ≠ srt l := fun e => (h3 : ¬ EqP _ _) ((eqP_q _ _ (by rw [arr_len (by omega), arr_len (by rw [srt_len]; omega)])).2 (by rw [e]))); (try have heq : o = srt l := arr_inj (by rw [srt_len]; omega) ((eqP_q _ _ (by rw [arr_len (by omega), arr_len (by rw [srt_len]; omega)])).1 (h3 : EqP _ _)))
            refine code_seq (fun K22 hK22 => ?_)
            refine code_region ?_
            refine list_cons rfl (op_q (q_cast (q_load_agg agg_77 15 (.inr ⟨rfl, _, rfl⟩) rfl rfl (by first | exact Nat.le_of_ble_eq_true rfl | (rw [List.length_map, arr_len (by rw [srt_len]; omega)]; decide) | (rw [List.length_map, arr_len (by omega)]; decide)) (by first | rfl | exact flat_part (flat_map _ (fun _ => rfl) _) _ _) (by decide)) (congrArg (fun z => SV.val (PV.agg z)) (ld10 (by first | exact arr_len (by rw [srt_len]; omega) | exact arr_len (by omega))))) ?_)
            refine list_cons rfl (op_q (q_move rfl (by decide)) ?_)
            refine list_cons rfl (op_q (by first | exact q_addI rfl rfl (by decide) (by omega) (by omega) | exact q_ib rfl rfl rfl (by decide)) ?_)
            refine list_cons rfl (op_q (q_move rfl (by decide)) ?_)
            refine list_cons rfl (op_q (q_min rfl rfl (by decide)) ?_)
            refine list_cons rfl (op_q (q_move rfl (by decide)) ?_)
            refine list_cons rfl (op_call _ (lastE _ _ _ o (min (t42.toNat + 2) o.length) (by omega) rfl (by first | omega | (split <;> omega)) (by omega) (by omega)) rfl rfl (by decide) (by decide) (by decide) rfl ?_)
            rintro _ rfl
            refine list_cons rfl (op_store (agg_77).2 15 [15] (by intro t ht; simp only [List.mem_cons, List.not_mem_nil, or_false] at ht; subst ht; rfl) (.inr ⟨rfl, _, rfl⟩) rfl rfl rfl rfl (by first | rfl | exact flat_part (flat_map _ (fun _ => rfl) _) _ _ | exact flat_map _ (fun _ => rfl) _) (by first | rfl | (simp only [PV.cells, List.length_map]; first | exact arr_len (by rw [srt_len]; omega) | exact arr_len (by omega) | (simp [tabS, filN_len]; done))) (by first | decide | (rw [List.length_map, arr_len (by rw [srt_len]; omega)]; decide) | (rw [List.length_map, arr_len (by omega)]; decide) | (simp [tabS, filN_len]; done)) (by decide) rfl ?_)
            refine list_nil ?_
            refine hK22 _ ?_; clear hK22 K22
            refine codeT.imp (σ' := [(0, _), (1, _), (2, _), (6, _), (7, _), (8, _), (9, _), (10, _), (11, _), (12, _), (13, _), (14, _), (15, .box 15 77 _), (16, _), (17, _), (41, _), (42, _)]) ?_ (imp_covers ⟨rfl, rfl, rfl, rfl, rfl, rfl, rfl, rfl, rfl, rfl, rfl, rfl, (by first | exact congrArg (fun z => some (SV.box 15 77 z)) (put_all8 (n := 10) (by first | rfl | (simp only [List.length_map]; first | exact arr_len (by omega) | exact arr_len (by rw [srt_len]; omega))) (by simp only [List.length_map]; first | exact arr_len (by omega) | exact arr_len (by rw [srt_len]; omega))) | rfl), rfl, rfl, rfl, rfl, trivial⟩)
            refine code_exit ?_
            refine blk_miss (by decide) ?_
            refine then_x ?_; clear hK18 K18
            refine then_x ?_
            refine blk_miss (by decide) ?_
            refine then_x ?_; clear hK14 K14
            refine blk_hit ?_
            refine hK12 _ ?_; clear hK12 K12
            refine code_seq (fun K23 hK23 => ?_)
            refine code_seq (fun K24 hK24 => ?_)
            refine code_region ?_
            refine list_cons rfl (op_q (q_cast (q_load_agg agg_77 15 (.inr ⟨rfl, _, rfl⟩) rfl rfl (by first | exact Nat.le_of_ble_eq_true rfl | (rw [List.length_map, arr_len (by rw [srt_len]; omega)]; decide) | (rw [List.length_map, arr_len (by omega)]; decide)) (by first | rfl | exact flat_part (flat_map _ (fun _ => rfl) _) _ _) (by decide)) (congrArg (fun z => SV.val (PV.agg z)) (ld10 (by first | exact arr_len (by rw [srt_len]; omega) | exact arr_len (by omega))))) ?_)
            refine list_nil ?_
            refine hK24 _ ?_; clear hK24 K24
            refine code_region ?_
            refine listT.imp (σ' := [(0, _), (1, _), (2, _), (6, _), (7, _), (8, _), (9, _), (10, _), (11, _), (12, _), (13, _), (14, _), (16, _), (17, _), (41, _), (42, _), (79, _)]) ?_ (imp_covers ⟨rfl, rfl, rfl, rfl, rfl, rfl, rfl, rfl, rfl, rfl, rfl, rfl, rfl, rfl, rfl, rfl, rfl, trivial⟩)
            refine list_cons rfl (op_alloc zt_77 (by decide) (by decide) rfl ?_)
            refine list_cons rfl (op_store (agg_77).2 15 [15] (by intro t ht; simp only [List.mem_cons, List.not_mem_nil, or_false] at ht; subst ht; rfl) (.inr ⟨rfl, _, rfl⟩) rfl rfl rfl rfl (by first | rfl | exact flat_part (flat_map _ (fun _ => rfl) _) _ _ | exact flat_map _ (fun _ => rfl) _) (by first | rfl | (simp only [PV.cells, List.length_map]; first | exact arr_len (by rw [srt_len]; omega) | exact arr_len (by omega) | (simp [tabS, filN_len]; done))) (by first | decide | (rw [List.length_map, arr_len (by rw [srt_len]; omega)]; decide) | (rw [List.length_map, arr_len (by omega)]; decide) | (simp [tabS, filN_len]; done)) (by decide) rfl ?_)
            refine list_nil ?_
            refine hK23 _ ?_; clear hK23 K23
            refine codeT.imp (σ' := [(0, _), (1, _), (2, _), (6, _), (7, _), (8, _), (9, _), (10, _), (11, _), (12, _), (13, _), (14, _), (15, .box 15 77 _), (16, _), (17, _), (41, _), (42, _), (79, _)]) ?_ (imp_covers ⟨rfl, rfl, rfl, rfl, rfl, rfl, rfl, rfl, rfl, rfl, rfl, rfl, (by first | exact congrArg (fun z => some (SV.box 15 77 z)) (put_all8 (n := 10) (by first | rfl | (simp only [List.length_map]; first | exact arr_len (by omega) | exact arr_len (by rw [srt_len]; omega))) (by simp only [List.length_map]; first | exact arr_len (by omega) | exact arr_len (by rw [srt_len]; omega))) | rfl), rfl, rfl, rfl, rfl, rfl, trivial⟩)
            refine code_region ?_
            refine list_cons rfl (op_q (q_cast (q_load_agg agg_77 15 (.inr ⟨rfl, _, rfl⟩) rfl rfl (by first | exact Nat.le_of_ble_eq_true rfl | (rw [List.length_map, arr_len (by rw [srt_len]; omega)]; decide) | (rw [List.length_map, arr_len (by omega)]; decide)) (by first | rfl | exact flat_part (flat_map _ (fun _ => rfl) _) _ _) (by decide)) (congrArg (fun z => SV.val (PV.agg z)) (ld10 (by first | exact arr_len (by rw [srt_len]; omega) | exact arr_len (by omega))))) ?_)
            refine list_cons rfl (op_q (q_move rfl (by decide)) ?_)
            refine list_cons rfl (op_call _ (afterE _ _ (lstL o (min (t42.toNat + 2) o.length)) (by rw [lstL_len]; omega) rfl (by rw [lstL_len]; omega)) rfl rfl (by decide) (by decide) (by decide) rfl ?_)
            rintro _ ⟨o2, ho2, rfl⟩; have ho2l : o2.length ≤ 10 := by rw [ho2.perm.length_eq, lstL_len]; omega
            refine list_cons rfl (op_store (agg_77).2 15 [15] (by intro t ht; simp only [List.mem_cons, List.not_mem_nil, or_false] at ht; subst ht; rfl) (.inr ⟨rfl, _, rfl⟩) rfl rfl rfl rfl (by first | rfl | exact flat_part (flat_map _ (fun _ => rfl) _) _ _ | exact flat_map _ (fun _ => rfl) _) (by first | rfl | (simp only [PV.cells, List.length_map]; first | exact arr_len (by rw [srt_len]; omega) | exact arr_len (by omega) | (simp [tabS, filN_len]; done))) (by first | decide | (rw [List.length_map, arr_len (by rw [srt_len]; omega)]; decide) | (rw [List.length_map, arr_len (by omega)]; decide) | (simp [tabS, filN_len]; done)) (by decide) rfl ?_)
            refine list_nil ?_
            refine then_n ⟨(_, _, _, _, _, _, _), imp_covers ⟨rfl, rfl, rfl, rfl, rfl, rfl, rfl, rfl, rfl, rfl, rfl, rfl, rfl, trivial⟩, ?_, ?_⟩
            · (try dsimp only)
              first
              | (have hpass : lsC r b ≤ cstK o (t42.toNat + 1) + link * (((lnk (srt l) r : Nat) : Int) - 1 - (t42.toNat : Nat)) := by
                   rw [show t42.toNat + 1 = (t42 + 1).toNat by omega, hstep, Int.toNat_of_nonneg i1]; omega
                 have hH := pass_ok hlk hS hne (t := t42.toNat) (by omega) hpass
                 exact ⟨o2, b, (put_all8 (n := 10) (by simp only [List.length_map]; exact arr_len (by omega)) (by show (List.map _ _).length = 10; rw [List.length_map]; exact arr_len (by omega))), rfl, rfl, (srch_next hfa hH ((lstL_perm o _).trans ho) ho2).1⟩)
              | (have hlen2 : 0 < t42 := by have hlp := lnk_pos (r := r) ho hne; omega
                 have hq := i4 hlen2
                 rw [show ((lnk (srt l) r : Nat) : Int) - t42 = 0 by omega, Int.mul_zero] at hq
                 have hco : cstK o t42.toNat = lsC r o := by
                   show _ = cstK o (lnk o r)
                   rw [lnk_eq (show o.length = (srt l).length by omega) r, show t42.toNat = lnk (srt l) r by omega]
                 have hH := hst_up hS hne
                 rw [if_pos (by omega)] at hH
                 exact ⟨o2, o, (put_all8 (n := 10) (by simp only [List.length_map]; exact arr_len (by omega)) (by show (List.map _ _).length = 10; rw [List.length_map]; exact arr_len (by omega))), rfl, hco, (srch_next hfa hH ho ho2).1⟩)
            · first | (have hq : putAt ((arr (lstL o (min (t42.toNat + 2) o.length))).map (PV.int .i64)) 0 (PV.agg ((arr o2).map (PV.int .i64))).cells = (arr o2).map (PV.int .i64) := put_all8 (n := 10) (by rw [List.length_map]; exact arr_len (by omega)) (by show (List.map _ _).length = 10; rw [List.length_map]; exact arr_len (by omega)); have hpo : (lstL o (min (t42.toNat + 2) o.length)).Perm (srt l) := (lstL_perm o _).trans ho; have hlt : o2 = srt l ∨ llt o o2 := ge_next (srch_next hfa (pass_ok hlk hS hne (t := t42.toNat) (by omega) (by rw [show t42.toNat + 1 = (t42 + 1).toNat by omega, hstep, Int.toNat_of_nonneg i1]; omega)) ((lstL_perm o _).trans ho) ho2).2; show muS (srt l) (putAt ((arr (lstL o (min (t42.toNat + 2) o.length))).map (PV.int .i64)) 0 (PV.agg ((arr o2).map (PV.int .i64))).cells) < muS (srt l) ((arr o).map (PV.int .i64)); rw [hq, muS_arr (by rw [ho2.perm.length_eq, hpo.length_eq]), muS_arr ho.length_eq]; exact cntF_lt (ho2.perm.trans hpo) hne hlt) | (have hq : putAt ((arr (o)).map (PV.int .i64)) 0 (PV.agg ((arr o2).map (PV.int .i64))).cells = (arr o2).map (PV.int .i64) := put_all8 (n := 10) (by rw [List.length_map]; exact arr_len (by omega)) (by show (List.map _ _).length = 10; rw [List.length_map]; exact arr_len (by omega)); have hpo : (o).Perm (srt l) := ho; have hlt : o2 = srt l ∨ llt o o2 := (srch_next hfa (cost := lsC r) (best := if lsC r o < lsC r b then o else b) (hst_up hS hne) ho ho2).2; show muS (srt l) (putAt ((arr (o)).map (PV.int .i64)) 0 (PV.agg ((arr o2).map (PV.int .i64))).cells) < muS (srt l) ((arr o).map (PV.int .i64)); rw [hq, muS_arr (by rw [ho2.perm.length_eq, hpo.length_eq]), muS_arr ho.length_eq]; exact cntF_lt (ho2.perm.trans hpo) hne hlt)
          (try simp only [Decidable.not_not] at h3); (try rw [hwr (by omega)] at h3); (try have hne : o ≠ srt l := fun e => (h3 : ¬ EqP _ _) ((eqP_q _ _ (by rw [arr_len (by omega), arr_len (by rw [srt_len]; omega)])).2 (by rw [e]))); (try have heq : o = srt l := arr_inj (by rw [srt_len]; omega) ((eqP_q _ _ (by rw [arr_len (by omega), arr_len (by rw [srt_len]; omega)])).1 (h3 : EqP _ _)))
          refine code_skip ?_
          refine blk_n ?_
          refine hK18 _ ?_; clear hK18 K18
          refine codeT.imp (σ' := [(0, _), (1, _), (2, _), (6, _), (7, _), (8, _), (9, _), (10, _), (11, _), (12, _), (13, _), (14, _), (15, .box 15 77 _), (16, _), (17, _), (41, _), (42, _)]) ?_ (imp_covers ⟨rfl, rfl, rfl, rfl, rfl, rfl, rfl, rfl, rfl, rfl, rfl, rfl, (by first | exact congrArg (fun z => some (SV.box 15 77 z)) (put_all8 (n := 10) (by first | rfl | (simp only [List.length_map]; first | exact arr_len (by omega) | exact arr_len (by rw [srt_len]; omega))) (by simp only [List.length_map]; first | exact arr_len (by omega) | exact arr_len (by rw [srt_len]; omega))) | rfl), rfl, rfl, rfl, rfl, trivial⟩)
          refine code_region ?_
          refine list_cons rfl (op_q (by first | exact q_addI rfl rfl (by decide) (by omega) (by omega) | exact q_ib rfl rfl rfl (by decide)) ?_)
          refine list_cons rfl (op_q (q_move rfl (by decide)) ?_)
          refine list_nil ?_
          refine then_n ⟨(_, _, _, _, _, _), imp_covers ⟨rfl, rfl, rfl, rfl, rfl, rfl, rfl, rfl, rfl, rfl, rfl, rfl, rfl, rfl, rfl, rfl, trivial⟩, ?_, ?_⟩
          · (try dsimp only)
            exact ⟨by omega, by omega, hstep.symm, fun _ => by rw [show ((lnk (srt l) r : Nat) : Int) - (t42 + 1) = ((lnk (srt l) r : Nat) : Int) - 1 - t42 by omega]; omega⟩
          · (try dsimp only); omega
        (try simp only [Decidable.not_not] at h2); (try rw [hwr (by omega)] at h2); (try have hne : o ≠ srt l := fun e => (h2 : ¬ EqP _ _) ((eqP_q _ _ (by rw [arr_len (by omega), arr_len (by rw [srt_len]; omega)])).2 (by rw [e]))); (try have heq : o = srt l := arr_inj (by rw [srt_len]; omega) ((eqP_q _ _ (by rw [arr_len (by omega), arr_len (by rw [srt_len]; omega)])).1 (h2 : EqP _ _)))
        refine code_exit ?_
        refine then_x ?_; clear hK17 K17
        refine then_x ?_
        refine blk_hit ?_
        refine hK14 _ ?_; clear hK14 K14
        refine code_region ?_
        refine list_cons rfl (op_q (q_cast (q_load_agg agg_77 15 (.inr ⟨rfl, _, rfl⟩) rfl rfl (by first | exact Nat.le_of_ble_eq_true rfl | (rw [List.length_map, arr_len (by rw [srt_len]; omega)]; decide) | (rw [List.length_map, arr_len (by omega)]; decide)) (by first | rfl | exact flat_part (flat_map _ (fun _ => rfl) _) _ _) (by decide)) (congrArg (fun z => SV.val (PV.agg z)) (ld10 (by first | exact arr_len (by rw [srt_len]; omega) | exact arr_len (by omega))))) ?_)
        refine list_cons rfl (op_q (q_move rfl (by decide)) ?_)
        refine list_cons rfl (op_store (agg_77).2 12 [12] (by intro t ht; simp only [List.mem_cons, List.not_mem_nil, or_false] at ht; subst ht; rfl) (.inr ⟨rfl, _, rfl⟩) rfl rfl rfl rfl (by first | rfl | exact flat_part (flat_map _ (fun _ => rfl) _) _ _ | exact flat_map _ (fun _ => rfl) _) (by first | rfl | (simp only [PV.cells, List.length_map]; first | exact arr_len (by rw [srt_len]; omega) | exact arr_len (by omega) | (simp [tabS, filN_len]; done))) (by first | decide | (rw [List.length_map, arr_len (by rw [srt_len]; omega)]; decide) | (rw [List.length_map, arr_len (by omega)]; decide) | (simp [tabS, filN_len]; done)) (by decide) rfl ?_)
        refine list_cons rfl (op_q (q_assign rfl (by decide)) ?_)
        refine list_nil ?_
        refine blk_n ?_
        refine hK12 _ ?_; clear hK12 K12
        refine codeT.imp (σ' := [(0, _), (1, _), (2, _), (6, _), (7, _), (8, _), (9, _), (10, _), (11, _), (12, .box 12 77 _), (13, _), (14, _), (15, _), (16, _), (41, _), (42, _)]) ?_ (imp_covers ⟨rfl, rfl, rfl, rfl, rfl, rfl, rfl, rfl, rfl, (by first | exact congrArg (fun z => some (SV.box 12 77 z)) (put_all8 (n := 10) (by first | rfl | (simp only [List.length_map]; first | exact arr_len (by omega) | exact arr_len (by rw [srt_len]; omega))) (by simp only [List.length_map]; first | exact arr_len (by omega) | exact arr_len (by rw [srt_len]; omega))) | rfl), rfl, rfl, rfl, rfl, rfl, rfl, trivial⟩)
        refine code_seq (fun K25 hK25 => ?_)
        refine code_seq (fun K26 hK26 => ?_)
        refine code_region ?_
        refine list_cons rfl (op_q (q_cast (q_load_agg agg_77 15 (.inr ⟨rfl, _, rfl⟩) rfl rfl (by first | exact Nat.le_of_ble_eq_true rfl | (rw [List.length_map, arr_len (by rw [srt_len]; omega)]; decide) | (rw [List.length_map, arr_len (by omega)]; decide)) (by first | rfl | exact flat_part (flat_map _ (fun _ => rfl) _) _ _) (by decide)) (congrArg (fun z => SV.val (PV.agg z)) (ld10 (by first | exact arr_len (by rw [srt_len]; omega) | exact arr_len (by omega))))) ?_)
        refine list_nil ?_
        refine hK26 _ ?_; clear hK26 K26
        refine code_region ?_
        refine listT.imp (σ' := [(0, _), (1, _), (2, _), (6, _), (7, _), (8, _), (9, _), (10, _), (11, _), (12, _), (13, _), (14, _), (16, _), (41, _), (42, _), (79, _)]) ?_ (imp_covers ⟨rfl, rfl, rfl, rfl, rfl, rfl, rfl, rfl, rfl, rfl, rfl, rfl, rfl, rfl, rfl, rfl, trivial⟩)
        refine list_cons rfl (op_alloc zt_77 (by decide) (by decide) rfl ?_)
        refine list_cons rfl (op_store (agg_77).2 15 [15] (by intro t ht; simp only [List.mem_cons, List.not_mem_nil, or_false] at ht; subst ht; rfl) (.inr ⟨rfl, _, rfl⟩) rfl rfl rfl rfl (by first | rfl | exact flat_part (flat_map _ (fun _ => rfl) _) _ _ | exact flat_map _ (fun _ => rfl) _) (by first | rfl | (simp only [PV.cells, List.length_map]; first | exact arr_len (by rw [srt_len]; omega) | exact arr_len (by omega) | (simp [tabS, filN_len]; done))) (by first | decide | (rw [List.length_map, arr_len (by rw [srt_len]; omega)]; decide) | (rw [List.length_map, arr_len (by omega)]; decide) | (simp [tabS, filN_len]; done)) (by decide) rfl ?_)
        refine list_nil ?_
        refine hK25 _ ?_; clear hK25 K25
        refine codeT.imp (σ' := [(0, _), (1, _), (2, _), (6, _), (7, _), (8, _), (9, _), (10, _), (11, _), (12, _), (13, _), (14, _), (15, .box 15 77 _), (16, _), (41, _), (42, _), (79, _)]) ?_ (imp_covers ⟨rfl, rfl, rfl, rfl, rfl, rfl, rfl, rfl, rfl, rfl, rfl, rfl, (by first | exact congrArg (fun z => some (SV.box 15 77 z)) (put_all8 (n := 10) (by first | rfl | (simp only [List.length_map]; first | exact arr_len (by omega) | exact arr_len (by rw [srt_len]; omega))) (by simp only [List.length_map]; first | exact arr_len (by omega) | exact arr_len (by rw [srt_len]; omega))) | rfl), rfl, rfl, rfl, rfl, trivial⟩)
        refine code_region ?_
        refine list_cons rfl (op_q (q_cast (q_load_agg agg_77 15 (.inr ⟨rfl, _, rfl⟩) rfl rfl (by first | exact Nat.le_of_ble_eq_true rfl | (rw [List.length_map, arr_len (by rw [srt_len]; omega)]; decide) | (rw [List.length_map, arr_len (by omega)]; decide)) (by first | rfl | exact flat_part (flat_map _ (fun _ => rfl) _) _ _) (by decide)) (congrArg (fun z => SV.val (PV.agg z)) (ld10 (by first | exact arr_len (by rw [srt_len]; omega) | exact arr_len (by omega))))) ?_)
        refine list_cons rfl (op_q (q_move rfl (by decide)) ?_)
        refine list_cons rfl (op_call _ (afterE _ _ o (by omega) rfl (by omega)) rfl rfl (by decide) (by decide) (by decide) rfl ?_)
        rintro _ ⟨o2, ho2, rfl⟩; have ho2l : o2.length ≤ 10 := by rw [ho2.perm.length_eq]; omega
        refine list_cons rfl (op_store (agg_77).2 15 [15] (by intro t ht; simp only [List.mem_cons, List.not_mem_nil, or_false] at ht; subst ht; rfl) (.inr ⟨rfl, _, rfl⟩) rfl rfl rfl rfl (by first | rfl | exact flat_part (flat_map _ (fun _ => rfl) _) _ _ | exact flat_map _ (fun _ => rfl) _) (by first | rfl | (simp only [PV.cells, List.length_map]; first | exact arr_len (by rw [srt_len]; omega) | exact arr_len (by omega) | (simp [tabS, filN_len]; done))) (by first | decide | (rw [List.length_map, arr_len (by rw [srt_len]; omega)]; decide) | (rw [List.length_map, arr_len (by omega)]; decide) | (simp [tabS, filN_len]; done)) (by decide) rfl ?_)
        refine list_nil ?_
        refine then_n ⟨(_, _, _, _, _, _, _), imp_covers ⟨rfl, rfl, rfl, rfl, rfl, rfl, rfl, rfl, rfl, rfl, rfl, rfl, rfl, trivial⟩, ?_, ?_⟩
        · (try dsimp only)
          first
          | (have hpass : lsC r b ≤ cstK o (t42.toNat + 1) + link * (((lnk (srt l) r : Nat) : Int) - 1 - (t42.toNat : Nat)) := by
               rw [show t42.toNat + 1 = (t42 + 1).toNat by omega, hstep, Int.toNat_of_nonneg i1]; omega
             have hH := pass_ok hlk hS hne (t := t42.toNat) (by omega) hpass
             exact ⟨o2, b, (put_all8 (n := 10) (by simp only [List.length_map]; exact arr_len (by omega)) (by show (List.map _ _).length = 10; rw [List.length_map]; exact arr_len (by omega))), rfl, rfl, (srch_next hfa hH ((lstL_perm o _).trans ho) ho2).1⟩)
          | (have hlen2 : 0 < t42 := by have hlp := lnk_pos (r := r) ho hne; omega
             have hq := i4 hlen2
             rw [show ((lnk (srt l) r : Nat) : Int) - t42 = 0 by omega, Int.mul_zero] at hq
             have hco : cstK o t42.toNat = lsC r o := by
               show _ = cstK o (lnk o r)
               rw [lnk_eq (show o.length = (srt l).length by omega) r, show t42.toNat = lnk (srt l) r by omega]
             have hH := hst_up hS hne
             rw [if_pos (by omega)] at hH
             exact ⟨o2, o, (put_all8 (n := 10) (by simp only [List.length_map]; exact arr_len (by omega)) (by show (List.map _ _).length = 10; rw [List.length_map]; exact arr_len (by omega))), rfl, hco, (srch_next hfa hH ho ho2).1⟩)
        · first | (have hq : putAt ((arr (lstL o (min (t42.toNat + 2) o.length))).map (PV.int .i64)) 0 (PV.agg ((arr o2).map (PV.int .i64))).cells = (arr o2).map (PV.int .i64) := put_all8 (n := 10) (by rw [List.length_map]; exact arr_len (by omega)) (by show (List.map _ _).length = 10; rw [List.length_map]; exact arr_len (by omega)); have hpo : (lstL o (min (t42.toNat + 2) o.length)).Perm (srt l) := (lstL_perm o _).trans ho; have hlt : o2 = srt l ∨ llt o o2 := ge_next (srch_next hfa (pass_ok hlk hS hne (t := t42.toNat) (by omega) (by rw [show t42.toNat + 1 = (t42 + 1).toNat by omega, hstep, Int.toNat_of_nonneg i1]; omega)) ((lstL_perm o _).trans ho) ho2).2; show muS (srt l) (putAt ((arr (lstL o (min (t42.toNat + 2) o.length))).map (PV.int .i64)) 0 (PV.agg ((arr o2).map (PV.int .i64))).cells) < muS (srt l) ((arr o).map (PV.int .i64)); rw [hq, muS_arr (by rw [ho2.perm.length_eq, hpo.length_eq]), muS_arr ho.length_eq]; exact cntF_lt (ho2.perm.trans hpo) hne hlt) | (have hq : putAt ((arr (o)).map (PV.int .i64)) 0 (PV.agg ((arr o2).map (PV.int .i64))).cells = (arr o2).map (PV.int .i64) := put_all8 (n := 10) (by rw [List.length_map]; exact arr_len (by omega)) (by show (List.map _ _).length = 10; rw [List.length_map]; exact arr_len (by omega)); have hpo : (o).Perm (srt l) := ho; have hlt : o2 = srt l ∨ llt o o2 := (srch_next hfa (cost := lsC r) (best := if lsC r o < lsC r b then o else b) (hst_up hS hne) ho ho2).2; show muS (srt l) (putAt ((arr (o)).map (PV.int .i64)) 0 (PV.agg ((arr o2).map (PV.int .i64))).cells) < muS (srt l) ((arr o).map (PV.int .i64)); rw [hq, muS_arr (by rw [ho2.perm.length_eq, hpo.length_eq]), muS_arr ho.length_eq]; exact cntF_lt (ho2.perm.trans hpo) hne hlt)
    (try simp only [Decidable.not_not] at h1); (try rw [hwr (by omega)] at h1); (try have hne : o ≠ srt l := fun e => (h1 : ¬ EqP _ _) ((eqP_q _ _ (by rw [arr_len (by omega), arr_len (by rw [srt_len]; omega)])).2 (by rw [e]))); (try have heq : o = srt l := arr_inj (by rw [srt_len]; omega) ((eqP_q _ _ (by rw [arr_len (by omega), arr_len (by rw [srt_len]; omega)])).1 (h1 : EqP _ _)))
    refine code_exit ?_
    refine then_x ?_; clear hK10 K10
    refine then_x ?_
    refine blk_hit ?_
    refine hK8 _ ?_; clear hK8 K8
    refine codeT.imp (σ' := [(0, _), (1, _), (2, _), (6, _), (7, _), (8, _), (9, _), (10, _), (11, _), (12, _), (13, _), (14, _), (15, .box 15 77 _)]) ?_ (imp_covers ⟨rfl, rfl, rfl, rfl, rfl, rfl, rfl, rfl, rfl, rfl, rfl, rfl, (by first | exact congrArg (fun z => some (SV.box 15 77 z)) (put_all8 (n := 10) (by first | rfl | (simp only [List.length_map]; first | exact arr_len (by omega) | exact arr_len (by rw [srt_len]; omega))) (by simp only [List.length_map]; first | exact arr_len (by omega) | exact arr_len (by rw [srt_len]; omega))) | rfl), trivial⟩)
    refine code_seq (fun K27 hK27 => ?_)
    refine code_region ?_
    refine list_cons rfl (op_q (q_move rfl (by decide)) ?_)
    refine list_cons rfl (op_q (q_sliceBoxB Tryd.underlying77 one_3.2 rfl rfl ⟨_, rfl⟩ (by omega) (by omega) (by omega) (by decide)) ?_)
    refine list_cons rfl (op_call _ (clone_E _ _ b (by omega) (arr_part (by omega)) (by omega)) rfl rfl (by decide) (by decide) (by decide) rfl ?_)
    rintro _ rfl
    refine list_cons rfl (op_q (q_move rfl (by decide)) ?_)
    refine list_cons rfl (op_q (q_assign rfl (by decide)) ?_)
    refine list_cons rfl (op_q (q_assign rfl (by decide)) ?_)
    refine list_nil ?_
    refine hK27 _ ?_; clear hK27 K27
    refine codeT.imp (σ' := [(0, _), (1, _), (2, _), (6, _), (7, _), (8, _), (9, _), (10, _), (11, _), (12, _), (13, _), (14, _), (15, _)]) ?_ (imp_covers ⟨rfl, rfl, rfl, rfl, rfl, rfl, rfl, rfl, rfl, rfl, rfl, rfl, rfl, trivial⟩)
    refine code_ret ?_
    refine sc_r ?_
    refine ends_ret (cs := []) rfl rfl rfl rfl trivial ?_
    first
    | (rw [heq] at hS
       exact ⟨b, srch_end hS, rfl⟩)
end Go.Proofs.YtppocfcopnaebaaDoor
