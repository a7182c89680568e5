/- Contracts of functions, walked over the pure layer; each says for which arguments. -/
import Derived.Test.YtjbbijlbenkgcaaDoorS5Ty
import Derived.Test.YtjbbijlbenkgcaaDoorTf
import Derived.Test.YtjbbijlbenkgcaaDoorSp
import Derived.Test.YtjbbijlbenkgcaaDoorS4
import Derived.Test.YtjbbijlbenkgcaaDoorS4c
namespace Go.Proofs.YtjbbijlbenkgcaaDoor
open Go.RowKit S5Ty
set_option linter.unusedVariables false
set_option linter.unusedSimpArgs false

def farC (a b : Int) : Int := ((cnt7 (a.toNat ^^^ b.toNat) : Nat) : Int)
theorem farC_le (a b : Int) : 0 ≤ farC a b ∧ farC a b ≤ 7 := by have := cnt7_le (a.toNat ^^^ b.toNat); unfold farC; omega
theorem farC_comm (a b : Int) : farC a b = farC b a := by unfold farC; rw [Nat.xor_comm]
def codK (l : List Int) : Nat → Bool
  | 0 => true
  | k + 1 => codK l k && (decide (0 ≤ l.getD k 0 ∧ l.getD k 0 ≤ 127) && !hasK l (l.getD k 0) k)
theorem codK_mono {l : List Int} : ∀ {m k : Nat}, k ≤ m → codK l m = true → codK l k = true
  | 0, k, h, h1 => by rw [show k = 0 by omega]; rfl
  | m + 1, k, h, h1 => by
    by_cases e : k = m + 1
    · rw [e]; exact h1
    · simp only [codK, Bool.and_eq_true] at h1
      exact codK_mono (by omega) h1.1
theorem codK_at {l : List Int} {m j : Nat} (h : codK l m = true) (hj : j < m) : (0 ≤ l.getD j 0 ∧ l.getD j 0 ≤ 127) ∧ hasK l (l.getD j 0) j = false := by
  have := codK_mono (k := j + 1) (by omega) h
  simp only [codK, Bool.and_eq_true, decide_eq_true_eq, Bool.not_eq_true'] at this
  exact this.2
theorem codK_succ {l : List Int} {k : Nat} (h : codK l k = true) (h1 : 0 ≤ l.getD k 0 ∧ l.getD k 0 ≤ 127) (h2 : hasK l (l.getD k 0) k = false) : codK l (k + 1) = true := by
  simp only [codK, h, h2, decide_eq_true h1, Bool.and_self, Bool.not_false]
def CodeP (l : List Int) : Prop := (1 ≤ l.length ∧ l.length ≤ 12) ∧ codK l l.length = true
instance (l : List Int) : Decidable (CodeP l) := by unfold CodeP; infer_instance
theorem CodeP.cell {l : List Int} (h : CodeP l) : ∀ j, j < l.length → 0 ≤ l.getD j 0 ∧ l.getD j 0 ≤ 127 := fun _ hj => (codK_at h.2 hj).1
def digC (d : Int) : Int := digT.getD d.toNat 0
def dcd (l : List Int) : List Int := l.map digC
theorem dcd_len (l : List Int) : (dcd l).length = l.length := by simp [dcd]
def DigP (l : List Int) : Prop := 1 ≤ l.length ∧ ordK l l.length = true
instance (l : List Int) : Decidable (DigP l) := by unfold DigP; infer_instance
theorem dig_len (l : List Int) : (if DigP l then dcd l else []).length ≤ 10 := by
  split
  · rename_i h; rw [dcd_len]; exact ord_len h.2
  · simp
/-- The nearest places: one more is looked at. -/
def nr1 (s : List Int × Int) (k : Nat) (f : Int) : List Int × Int := if f < s.2 then ([(k : Int)], f) else if f = s.2 then (s.1 ++ [(k : Int)], s.2) else s
def nrK (l : List Int) (c m : Int) : Nat → List Int × Int
  | 0 => ([], m)
  | k + 1 => nr1 (nrK l c m k) k (farC (l.getD k 0) c)
theorem nrK_le (l : List Int) (c : Int) {m : Int} (hm : 0 ≤ m) : ∀ k, 0 ≤ (nrK l c m k).2 ∧ (nrK l c m k).2 ≤ m ∧ (nrK l c m k).1.length ≤ k
  | 0 => by simp [nrK, hm]
  | k + 1 => by
    have ih := nrK_le l c hm k
    have hd := farC_le (l.getD k 0) c
    unfold nrK nr1
    split
    · exact ⟨hd.1, by simp only; omega, by simp⟩
    · split
      · exact ⟨ih.1, ih.2.1, by simp; omega⟩
      · exact ⟨ih.1, ih.2.1, by omega⟩
theorem nr_87 (l : List Int) (c : Int) : ∀ k, nrK l c 7 (k + 1) = nrK l c 8 (k + 1)
  | 0 => by
    have hd := farC_le (l.getD 0 0) c
    have e : ∀ m : Int, nrK l c m 1 = if farC (l.getD 0 0) c < m then ([((0 : Nat) : Int)], farC (l.getD 0 0) c) else if farC (l.getD 0 0) c = m then ([] ++ [((0 : Nat) : Int)], m) else ([], m) := fun m => rfl
    rw [e, e]
    by_cases h : farC (l.getD 0 0) c < 7
    · rw [if_pos h, if_pos (show farC (l.getD 0 0) c < 8 by omega)]
    · rw [if_neg h, if_pos (show farC (l.getD 0 0) c = 7 by omega), if_pos (show farC (l.getD 0 0) c < 8 by omega), show farC (l.getD 0 0) c = 7 by omega]; rfl
  | k + 1 => by rw [nrK, nr_87 l c k]; rfl
/-- How far the nearest cells are. -/
theorem nr_all (l : List Int) (c : Int) {d : Int} (hd : d ≤ 8) : ∀ k, (d ≤ (nrK l c 8 k).2 ↔ ∀ j, j < k → d ≤ farC (l.getD j 0) c)
  | 0 => by simp [nrK, hd]
  | k + 1 => by
    have ih := nr_all l c hd k
    have e : (nrK l c 8 (k + 1)).2 = if farC (l.getD k 0) c < (nrK l c 8 k).2 then farC (l.getD k 0) c else (nrK l c 8 k).2 := by
      rw [nrK, nr1]
      split
      · rfl
      · split <;> rfl
    rw [e]
    constructor
    · intro h j hj
      by_cases hjk : j = k
      · subst hjk; split at h <;> omega
      · exact ih.1 (by split at h <;> omega) j (by omega)
    · intro h
      have h1 := ih.2 (fun j hj => h j (by omega))
      have h2 := h k (by omega)
      split <;> omega
def ndS (l : List Int) (c : Nat) : Int := (nrK l (c : Int) 8 l.length).2
theorem ndS_le (l : List Int) (c : Nat) : 0 ≤ ndS l c ∧ ndS l c ≤ 8 := by have := nrK_le l (c : Int) (m := 8) (by omega) l.length; exact ⟨this.1, this.2.1⟩
theorem ndS_at (l : List Int) {c : Int} (h : 0 ≤ c) : (nrK l c 8 l.length).2 = ndS l c.toNat := by unfold ndS; rw [Int.toNat_of_nonneg h]
def cnN (l : List Int) (k : Int) : Nat → Nat
  | 0 => 0
  | c + 1 => cnN l k c + if ndS l c ≤ k then 1 else 0
theorem cnN_le (l : List Int) (k : Int) : ∀ n, cnN l k n ≤ n
  | 0 => Nat.le_refl _
  | n + 1 => by have := cnN_le l k n; unfold cnN; split <;> omega
theorem cnN_yes {l : List Int} {k : Int} {c : Nat} (h : ndS l c ≤ k) : ((cnN l k c : Nat) : Int) + 1 = ((cnN l k (c + 1) : Nat) : Int) := by rw [cnN, if_pos h]; rfl
theorem cnN_no {l : List Int} {k : Int} {c : Nat} (h : ¬ ndS l c ≤ k) : ((cnN l k c : Nat) : Int) = ((cnN l k (c + 1) : Nat) : Int) := by rw [cnN, if_neg h]; rfl
theorem cnN_all (l : List Int) (k : Int) : ∀ n, (cnN l k n = n ↔ ∀ c, c < n → ndS l c ≤ k)
  | 0 => by simp [cnN]
  | n + 1 => by
    have ih := cnN_all l k n
    have hle := cnN_le l k n
    rw [cnN]
    constructor
    · intro h c hc
      by_cases e : c = n
      · subst e
        by_cases h2 : ndS l c ≤ k
        · exact h2
        · rw [if_neg h2] at h; omega
      · exact ih.1 (by split at h <;> omega) c (by omega)
    · intro h
      rw [if_pos (h n (by omega)), ih.2 (fun c hc => h c (by omega))]
/-- The farthest cell. -/
def fthK (l : List Int) (m : Int) : Nat → Int × Int
  | 0 => (0, m)
  | c + 1 => if (fthK l m c).2 < ndS l c then ((c : Int), ndS l c) else fthK l m c
theorem fth_yes {l : List Int} {m : Int} {c : Nat} {s : Int × Int} (h : s = fthK l m c) (hx : s.2 < ndS l c) : ((c : Int), ndS l c) = fthK l m (c + 1) := by
  subst h; rw [fthK, if_pos hx]
theorem fth_no {l : List Int} {m : Int} {c : Nat} {s : Int × Int} (h : s = fthK l m c) (hx : ¬ s.2 < ndS l c) : s = fthK l m (c + 1) := by
  subst h; rw [fthK, if_neg hx]
theorem fth_le (l : List Int) {m : Int} (hm : m ≤ 8) : ∀ n, m ≤ (fthK l m n).2 ∧ (fthK l m n).2 ≤ 8 ∧ 0 ≤ (fthK l m n).1 ∧ (fthK l m n).1 ≤ n
  | 0 => by simp [fthK, hm]
  | n + 1 => by
    have ih := fth_le l hm n
    have := ndS_le l n
    unfold fthK
    split
    · exact ⟨by simp only; omega, this.2, by simp only; omega, by simp only; omega⟩
    · exact ⟨ih.1, ih.2.1, ih.2.2.1, by omega⟩
theorem fth_01 (l : List Int) : ∀ n, fthK l (-1) (n + 1) = fthK l 0 (n + 1)
  | 0 => by
    have := ndS_le l 0
    have e : ∀ m : Int, fthK l m 1 = if m < ndS l 0 then (((0 : Nat) : Int), ndS l 0) else (0, m) := fun m => rfl
    rw [e, e, if_pos (show -1 < ndS l 0 by omega)]
    by_cases h : 0 < ndS l 0
    · rw [if_pos h]
    · rw [if_neg h, show ndS l 0 = 0 by omega]; rfl
  | n + 1 => by rw [fthK, fth_01 l n]; rfl
theorem fth_all (l : List Int) (m k : Int) : ∀ n, ((fthK l m n).2 ≤ k ↔ m ≤ k ∧ ∀ c, c < n → ndS l c ≤ k)
  | 0 => by simp [fthK]
  | n + 1 => by
    have ih := fth_all l m k n
    have e : (fthK l m (n + 1)).2 = if (fthK l m n).2 < ndS l n then ndS l n else (fthK l m n).2 := by
      rw [fthK]; split <;> rfl
    rw [e]
    constructor
    · intro h
      have h1 : (fthK l m n).2 ≤ k := by split at h <;> omega
      have h2 : ndS l n ≤ k := by split at h <;> omega
      refine ⟨(ih.1 h1).1, fun c hc => ?_⟩
      by_cases e : c = n
      · rw [e]; exact h2
      · exact (ih.1 h1).2 c (by omega)
    · intro ⟨h0, h⟩
      have h1 := ih.2 ⟨h0, fun c hc => h c (by omega)⟩
      have h2 := h n (by omega)
      split <;> omega
theorem cov_iff (l : List Int) {k : Int} (hk : 0 ≤ k) : (cnN l k 128 < 128 ↔ k < (fthK l (-1) 128).2) := by
  have h1 := cnN_all l k 128
  have h2 := fth_all l (-1) k 128
  have h3 := cnN_le l k 128
  constructor
  · intro h
    refine Int.not_le.1 fun h4 => ?_
    have := h1.2 (h2.1 h4).2
    omega
  · intro h
    refine Nat.lt_of_le_of_ne h3 fun h4 => ?_
    have := h2.2 ⟨by omega, h1.1 h4⟩
    omega
def flp (l : List Int) (b : Int) : List Int := l.map fun x => ((x.toNat ^^^ b.toNat : Nat) : Int)
theorem flp_len (l : List Int) (b : Int) : (flp l b).length = l.length := by simp [flp]
/-- The greedy code. -/
def okA (d : Int) (L : List Int) (c : Int) : Bool := L.all fun x => decide (d ≤ farC x c)
def grK (d m : Int) : Nat → List Int
  | 0 => []
  | c + 1 => if ((grK d m c).length : Int) < m ∧ okA d (grK d m c) (c : Int) = true then grK d m c ++ [(c : Int)] else grK d m c
theorem grK_len (d : Int) {m : Int} (hm : 0 ≤ m) : ∀ c, ((grK d m c).length : Int) ≤ m
  | 0 => by simp [grK, hm]
  | c + 1 => by
    have ih := grK_len d hm c
    unfold grK
    split
    · simp; omega
    · exact ih
theorem grK_cell (d m : Int) : ∀ c, c ≤ 128 → ∀ x ∈ grK d m c, 0 ≤ x ∧ x ≤ 127
  | 0, _, x, h => by simp [grK] at h
  | c + 1, hc, x, h => by
    unfold grK at h
    split at h
    · rcases List.mem_append.1 h with h | h
      · exact grK_cell d m c (by omega) x h
      · simp only [List.mem_singleton] at h; omega
    · exact grK_cell d m c (by omega) x h
theorem grK_at (d m : Int) {c : Nat} (hc : c ≤ 128) {j : Nat} (hj : j < (grK d m c).length) : 0 ≤ (grK d m c).getD j 0 ∧ (grK d m c).getD j 0 ≤ 127 := by
  have : (grK d m c).getD j 0 = (grK d m c)[j] := by simp [hj]
  rw [this]; exact grK_cell d m c hc _ (List.getElem_mem hj)
theorem grK_full {d m : Int} {c : Nat} (h : ¬ ((grK d m c).length : Int) < m) : ∀ k, grK d m (c + k) = grK d m c
  | 0 => rfl
  | k + 1 => by
    have ih := grK_full h k
    rw [show c + (k + 1) = c + k + 1 from rfl, grK, ih, if_neg (fun e => h e.1)]
theorem okA_iff (d : Int) (L : List Int) (c : Int) : okA d L c = true ↔ ∀ j, j < L.length → d ≤ farC (L.getD j 0) c := by
  unfold okA
  rw [List.all_eq_true]
  constructor
  · intro h j hj
    have := h (L.getD j 0) (by rw [show L.getD j 0 = L[j] by simp [hj]]; exact List.getElem_mem hj)
    exact of_decide_eq_true this
  · intro h x hx
    obtain ⟨j, hj, rfl⟩ := List.getElem_of_mem hx
    have := h j hj
    rw [show L.getD j 0 = L[j] by simp [hj]] at this
    exact decide_eq_true this
theorem okA_nr {d : Int} (hd : d ≤ 8) (L : List Int) (c : Int) : d ≤ (nrK L c 8 L.length).2 ↔ okA d L c = true := (nr_all L c hd L.length).trans (okA_iff d L c).symm

set_option maxRecDepth 4000 in
theorem spec_l5Code (l : List Int) (hl : l.length ≤ 4611686018427387904) : PCalls Tryd.prog 89 [.sl l.length (l.map (.int .i64))] (· = [.val (.bool (decide (CodeP l)))]) := by
  refine pcalls_of_code (n := 33) az Tryd.func89 (by kernel_rfl) rfl rfl (Nat.le_of_ble_eq_true rfl) (by intro t u h; simp [Tryd.f89] at h) ?_
  refine code_seq (fun K1 hK1 => ?_)
  refine code_region ?_
  refine list_cons rfl (op_q (q_assign rfl (by decide)) ?_)
  refine list_nil ?_
  refine hK1 _ ?_; clear hK1 K1
  refine code_seq (fun K2 hK2 => ?_)
  refine code_seq (fun K3 hK3 => ?_)
  refine code_region ?_
  refine list_cons rfl (op_q (q_assign rfl (by decide)) ?_)
  refine list_nil ?_
  refine hK3 _ ?_; clear hK3 K3
  refine code_block ?_
  refine code_loop (X := Bool × Int) (fun x => [(0, .par 0 (.sl l.length (l.map (.int .i64)))), (2, .val (.bool x.1)), (3, .val (.int .i64 x.2))]) (fun x => 0 ≤ x.2 ∧ x.2 ≤ 13 ∧ x.2 ≤ l.length ∧ codK l x.2.toNat = true) (fun x => (14 - x.2).toNat) (_, _) (imp_covers ⟨rfl, rfl, rfl, trivial⟩) ?_ ?_
  · (try dsimp only)
    exact ⟨by omega, by omega, by omega, rfl⟩
  · intro x hI
    obtain ⟨t2, i⟩ := x
    replace hI : 0 ≤ i ∧ i ≤ 13 ∧ i ≤ l.length ∧ codK l i.toNat = true := hI
    show codeT _ _ _ [(0, .par 0 (.sl l.length (l.map (.int .i64)))), (2, .val (.bool t2)), (3, .val (.int .i64 i))] _
    obtain ⟨i1, i2, i2l, i3⟩ := hI
    refine code_seq (fun K4 hK4 => ?_)
    refine code_seq (fun K5 hK5 => ?_)
    refine code_region ?_
    refine list_cons rfl (op_q (q_move rfl (by decide)) ?_)
    refine list_cons rfl (op_q (q_move rfl (by decide)) ?_)
    refine list_cons rfl (op_q (q_len_sl Tryd.underlying24 rfl rfl (by decide)) ?_)
    refine list_cons rfl (op_q (q_lt rfl rfl (by decide)) ?_)
    refine list_cons rfl (op_q (q_move rfl (by decide)) ?_)
    refine list_guard_d rfl rfl rfl rfl (by decide) rfl (by decide) (fun h1 => ?_) (fun h1 => ?_)
    · simp only [Bool.false_eq_true, if_true, if_false, Decidable.not_not] at h1
      refine id (op_q (q_move rfl (by decide)) ?_)
      refine list_guard_y rfl rfl rfl rfl (by decide) rfl ?_
      refine id (op_q (q_le rfl rfl (by decide)) ?_)
      refine list_cons rfl (op_q (q_pick rfl rfl (by decide)) ?_)
      refine list_nil ?_
      refine hK5 _ ?_; clear hK5 K5
      refine codeT.imp (σ' := [(0, _), (2, _), (3, _), (11, _)]) ?_ (imp_covers ⟨rfl, rfl, rfl, rfl, trivial⟩)
      refine code_cond_d rfl (fun h2 => ?_) (fun h2 => ?_)
      · skip
        (try simp only [Decidable.not_not] at h2)
        refine code_skip ?_
        refine hK4 _ ?_; clear hK4 K4
        refine code_seq (fun K6 hK6 => ?_)
        refine code_block ?_
        refine code_seq (fun K7 hK7 => ?_)
        refine code_draw (by kernel_rfl) (by kernel_rfl) ?_
        refine draw_q rfl (q_move rfl (by decide)) ?_
        refine draw_q rfl (q_move rfl (by decide)) ?_
        refine draw_q rfl (q_indexAddr_rd sl_24 rfl (.inl ⟨_, rfl, rfl⟩) rfl (by omega) (by omega) (by decide)) ?_
        refine draw_q rfl (q_load_rd one_3 rfl (.inl ⟨_, (by first | rfl | exact congrArg (SV.rpar _) (drop_map1 _ 0 _ (by first | omega | (simp; omega)))), rfl⟩) (by decide)) ?_
        refine draw_call _ (spec_l2Cell _) rfl rfl rfl (by decide) ?_
        refine draw_q rfl (by first | exact q_notd rfl (by decide) | exact q_not rfl (by decide)) ?_
        refine draw_q rfl (q_move rfl (by decide)) ?_
        refine draw_guard_d rfl rfl rfl rfl (by decide) rfl (by decide) (fun h3 => q_move rfl (by decide)) (fun h3 => ?_) (fun h3 => ?_)
        · simp only [Bool.false_eq_true, if_true, if_false, Decidable.not_not] at h3
          refine draw_guard_y rfl rfl rfl rfl (by decide) rfl (q_move rfl (by decide)) ?_
          refine draw_guard_y rfl rfl rfl rfl (by decide) rfl (q_slice_sl sl_24 rfl rfl rfl ⟨_, rfl⟩ (by omega) (by omega) (by omega) rfl (by decide)) ?_
          refine draw_guard_y rfl rfl rfl rfl (by decide) rfl (q_move rfl (by decide)) ?_
          refine draw_guard_y rfl rfl rfl rfl (by decide) rfl (q_move rfl (by decide)) ?_
          refine draw_guard_y rfl rfl rfl rfl (by decide) rfl (q_indexAddr_rd sl_24 rfl (.inl ⟨_, rfl, rfl⟩) rfl (by omega) (by omega) (by decide)) ?_
          refine draw_guard_y rfl rfl rfl rfl (by decide) rfl (q_load_rd one_3 rfl (.inl ⟨_, (by first | rfl | exact congrArg (SV.rpar _) (drop_map1 _ 0 _ (by first | omega | (simp; omega)))), rfl⟩) (by decide)) ?_
          refine draw_callW _ (spec_l1HasT l _ i i1 (by omega) hl) rfl rfl rfl (by decide) (wanted_of rfl rfl rfl (by decide)) ?_
          refine draw_q rfl (q_pick rfl rfl (by decide)) ?_
          refine draw_nil ?_
          refine hK7 _ ?_; clear hK7 K7
          refine codeT.imp (σ' := [(0, _), (2, _), (3, _), (29, _)]) ?_ (imp_covers ⟨rfl, rfl, rfl, rfl, trivial⟩)
          refine code_cond_d rfl (fun h4 => ?_) (fun h4 => ?_)
          · skip
            (try simp only [Decidable.not_not] at h4)
            refine code_seq (fun K8 hK8 => ?_)
            refine code_region ?_
            refine list_cons rfl (op_q (q_assign rfl (by decide)) ?_)
            refine list_nil ?_
            refine hK8 _ ?_; clear hK8 K8
            refine code_ret ?_
            refine blk_r ?_
            refine then_r ?_; clear hK6 K6
            refine then_r ?_
            refine blk_r ?_
            refine then_r ?_; clear hK2 K2
            refine ends_ret (cs := []) rfl rfl rfl rfl trivial ?_
            first
              | (rw [decide_eq_false (fun e => absurd (codK_at e.2 (j := i.toNat) (by omega)).1 (by assumption))]; done)
              | (have hx := h4
                 rw [decide_eq_false (fun e => by rw [(codK_at e.2 (j := i.toNat) (by omega)).2] at hx; exact absurd hx (by simp))]; done)
              | (congr 3
                 exact decide_eq_decide.mpr ⟨fun e => ⟨⟨by omega, by omega⟩, by rw [show l.length = i.toNat by omega]; exact i3⟩, fun e => by have := e.1; omega⟩)
          (try simp only [Decidable.not_not] at h4)
          refine code_skip ?_
          refine blk_n ?_
          refine hK6 _ ?_; clear hK6 K6
          refine code_region ?_
          refine list_cons rfl (op_q (q_move rfl (by decide)) ?_)
          refine list_cons rfl (op_q (by first | exact q_addI rfl rfl (by decide) (by omega) (by omega) | exact q_ib rfl rfl rfl (by decide)) ?_)
          refine list_cons rfl (op_q (q_assign rfl (by decide)) ?_)
          refine list_nil ?_
          refine then_n ⟨(_, _), imp_covers ⟨rfl, rfl, rfl, trivial⟩, ?_, ?_⟩
          · (try dsimp only)
            exact ⟨by omega, by omega, by omega, by rw [show (i + 1).toNat = i.toNat + 1 by omega]; exact codK_succ i3 (by assumption) (by simpa using h4)⟩
          · (try dsimp only); omega
        simp only [Bool.false_eq_true, if_true, if_false, Decidable.not_not] at h3
        refine draw_guard_n rfl rfl rfl rfl (by decide) rfl ?_
        refine draw_guard_n rfl rfl rfl rfl (by decide) rfl ?_
        refine draw_guard_n rfl rfl rfl rfl (by decide) rfl ?_
        refine draw_guard_n rfl rfl rfl rfl (by decide) rfl ?_
        refine draw_guard_n rfl rfl rfl rfl (by decide) rfl ?_
        refine draw_guard_n rfl rfl rfl rfl (by decide) rfl ?_
        refine draw_guard_n rfl rfl rfl rfl (by decide) rfl ?_
        refine draw_q rfl (q_pick rfl rfl (by decide)) ?_
        refine draw_nil ?_
        refine hK7 _ ?_; clear hK7 K7
        refine codeT.imp (σ' := [(0, _), (2, _), (3, _), (29, _)]) ?_ (imp_covers ⟨rfl, rfl, rfl, rfl, trivial⟩)
        refine code_cond_t rfl ?_
        refine code_seq (fun K9 hK9 => ?_)
        refine code_region ?_
        refine list_cons rfl (op_q (q_assign rfl (by decide)) ?_)
        refine list_nil ?_
        refine hK9 _ ?_; clear hK9 K9
        refine code_ret ?_
        refine blk_r ?_
        refine then_r ?_; clear hK6 K6
        refine then_r ?_
        refine blk_r ?_
        refine then_r ?_; clear hK2 K2
        refine ends_ret (cs := []) rfl rfl rfl rfl trivial ?_
        first
          | (rw [decide_eq_false (fun e => absurd (codK_at e.2 (j := i.toNat) (by omega)).1 (by assumption))]; done)
          | (have hx := h3
             rw [decide_eq_false (fun e => by rw [(codK_at e.2 (j := i.toNat) (by omega)).2] at hx; exact absurd hx (by simp))]; done)
          | (congr 3
             exact decide_eq_decide.mpr ⟨fun e => ⟨⟨by omega, by omega⟩, by rw [show l.length = i.toNat by omega]; exact i3⟩, fun e => by have := e.1; omega⟩)
      (try simp only [Decidable.not_not] at h2)
      refine code_exit ?_
      refine then_x ?_; clear hK4 K4
      refine then_x ?_
      refine blk_hit ?_
      refine hK2 _ ?_; clear hK2 K2
      refine code_seq (fun K10 hK10 => ?_)
      refine code_region ?_
      refine list_cons rfl (op_q (q_move rfl (by decide)) ?_)
      refine list_cons rfl (op_q (q_len_sl Tryd.underlying24 rfl rfl (by decide)) ?_)
      refine list_cons rfl (op_call _ (spec_l1In _ _ _) rfl rfl (by decide) (by decide) (by decide) rfl ?_)
      rintro _ rfl
      refine list_cons rfl (op_q (q_assign rfl (by decide)) ?_)
      refine list_nil ?_
      refine hK10 _ ?_; clear hK10 K10
      refine codeT.imp (σ' := [(0, _), (2, _), (3, _)]) ?_ (imp_covers ⟨rfl, rfl, rfl, trivial⟩)
      refine code_ret ?_
      refine ends_ret (cs := []) rfl rfl rfl rfl trivial ?_
      first
        | (rw [decide_eq_false (fun e => absurd (codK_at e.2 (j := i.toNat) (by omega)).1 (by assumption))]; done)
        | (have hx := h2
           rw [decide_eq_false (fun e => by rw [(codK_at e.2 (j := i.toNat) (by omega)).2] at hx; exact absurd hx (by simp))]; done)
        | (congr 3
           exact decide_eq_decide.mpr ⟨fun e => ⟨⟨by omega, by omega⟩, by rw [show l.length = i.toNat by omega]; exact i3⟩, fun e => by have := e.1; omega⟩)
    simp only [Bool.false_eq_true, if_true, if_false, Decidable.not_not] at h1
    refine list_guard_n rfl rfl rfl rfl (by decide) rfl ?_
    refine list_cons rfl (op_q (q_pick rfl rfl (by decide)) ?_)
    refine list_nil ?_
    refine hK5 _ ?_; clear hK5 K5
    refine code_cond_f rfl ?_
    refine code_exit ?_
    refine then_x ?_; clear hK4 K4
    refine then_x ?_
    refine blk_hit ?_
    refine hK2 _ ?_; clear hK2 K2
    refine code_seq (fun K11 hK11 => ?_)
    refine code_region ?_
    refine list_cons rfl (op_q (q_move rfl (by decide)) ?_)
    refine list_cons rfl (op_q (q_len_sl Tryd.underlying24 rfl rfl (by decide)) ?_)
    refine list_cons rfl (op_call _ (spec_l1In _ _ _) rfl rfl (by decide) (by decide) (by decide) rfl ?_)
    rintro _ rfl
    refine list_cons rfl (op_q (q_assign rfl (by decide)) ?_)
    refine list_nil ?_
    refine hK11 _ ?_; clear hK11 K11
    refine codeT.imp (σ' := [(0, _), (2, _), (3, _)]) ?_ (imp_covers ⟨rfl, rfl, rfl, trivial⟩)
    refine code_ret ?_
    refine ends_ret (cs := []) rfl rfl rfl rfl trivial ?_
    first
      | (rw [decide_eq_false (fun e => absurd (codK_at e.2 (j := i.toNat) (by omega)).1 (by assumption))]; done)
      | (have hx := h1
         rw [decide_eq_false (fun e => by rw [(codK_at e.2 (j := i.toNat) (by omega)).2] at hx; exact absurd hx (by simp))]; done)
      | (congr 3
         exact decide_eq_decide.mpr ⟨fun e => ⟨⟨by omega, by omega⟩, by rw [show l.length = i.toNat by omega]; exact i3⟩, fun e => by have := e.1; omega⟩)

set_option maxRecDepth 4000 in
theorem spec_IsCode (l : List Int) (hl : l.length ≤ 4611686018427387904) : PCalls Tryd.prog 41 [.sl l.length (l.map (.int .i64))] (· = [.val (.bool (decide (CodeP l)))]) := by
  refine pcalls_of_code (n := 5) az Tryd.func41 (by kernel_rfl) rfl rfl (Nat.le_of_ble_eq_true rfl) (by intro t u h; simp [Tryd.f41] at h) ?_
  refine code_seq (fun K1 hK1 => ?_)
  refine code_region ?_
  refine list_cons rfl (op_q (q_assign rfl (by decide)) ?_)
  refine list_nil ?_
  refine hK1 _ ?_; clear hK1 K1
  refine code_seq (fun K2 hK2 => ?_)
  refine code_region ?_
  refine list_cons rfl (op_q (q_move rfl (by decide)) ?_)
  refine list_cons rfl (op_call _ (spec_l5Code _ (by omega)) rfl rfl (by decide) (by decide) (by decide) rfl ?_)
  rintro _ rfl
  refine list_cons rfl (op_q (q_assign rfl (by decide)) ?_)
  refine list_nil ?_
  refine hK2 _ ?_; clear hK2 K2
  refine codeT.imp (σ' := [(0, _), (2, _)]) ?_ (imp_covers ⟨rfl, rfl, trivial⟩)
  refine code_ret ?_
  refine ends_ret (cs := []) rfl rfl rfl rfl trivial ?_
  rfl

set_option maxRecDepth 4000 in
theorem spec_DigitCode (l : List Int) (hl : l.length ≤ 4611686018427387904) : PCalls Tryd.prog 38 [.sl l.length (l.map (.int .i64))] (· = [.own 0 3 1 (if DigP l then dcd l else []).length ((if DigP l then dcd l else []).map (.int .i64)), .val (.bool (decide (DigP l)))]) := by
  refine pcalls_of_code (n := 44) az Tryd.func38 (by kernel_rfl) rfl rfl (Nat.le_of_ble_eq_true rfl) (by intro t u h; simp [Tryd.f38] at h) ?_
  refine code_seq (fun K1 hK1 => ?_)
  refine code_region ?_
  refine list_cons rfl (op_q (q_assign rfl (by decide)) ?_)
  refine list_cons rfl (op_q (q_assign rfl (by decide)) ?_)
  refine list_nil ?_
  refine hK1 _ ?_; clear hK1 K1
  refine code_seq (fun K2 hK2 => ?_)
  refine code_seq (fun K3 hK3 => ?_)
  refine code_region ?_
  refine list_cons rfl (op_q (q_move rfl (by decide)) ?_)
  refine list_cons rfl (op_q (q_len_sl Tryd.underlying24 rfl rfl (by decide)) ?_)
  refine list_cons rfl (op_call _ (spec_l1In _ _ _) rfl rfl (by decide) (by decide) (by decide) rfl ?_)
  rintro _ rfl
  refine list_cons rfl (op_q (by first | exact q_notd rfl (by decide) | exact q_not rfl (by decide)) ?_)
  refine list_nil ?_
  refine hK3 _ ?_; clear hK3 K3
  refine codeT.imp (σ' := [(0, _), (2, _), (3, _), (9, _)]) ?_ (imp_covers ⟨rfl, rfl, rfl, rfl, trivial⟩)
  refine code_cond_d rfl (fun h1 => ?_) (fun h1 => ?_)
  · skip
    (try simp only [Decidable.not_not] at h1)
    refine code_seq (fun K4 hK4 => ?_)
    refine code_region ?_
    refine list_cons rfl (op_buildSlice sl_24 (parts := []) rfl rfl rfl (by decide) (by decide) (by decide) rfl ?_)
    refine list_cons rfl (op_q (q_assign rfl (by decide)) ?_)
    refine list_cons rfl (op_q (q_assign rfl (by decide)) ?_)
    refine list_nil ?_
    refine hK4 _ ?_; clear hK4 K4
    refine code_ret ?_
    refine then_r ?_; clear hK2 K2
    refine ends_ret (cs := []) rfl rfl rfl rfl trivial ?_
    first
      | (have e : ¬ DigP l := fun e => by have := ord_len e.2; have := e.1; omega
         simp only [if_neg e, decide_eq_false e]; rfl)
      | (have e : ¬ DigP l := fun e => absurd (ordK_at e.2 (j := i.toNat) (by omega)).1 (by assumption)
         simp only [if_neg e, decide_eq_false e]; rfl)
      | (have hx := h1
         have e : ¬ DigP l := fun e => by rw [(ordK_at e.2 (j := i.toNat) (by omega)).2] at hx; exact absurd hx (by simp)
         simp only [if_neg e, decide_eq_false e]; rfl)
      | (have hi : i.toNat = l.length := by omega
         rw [hi] at i3
         have e : DigP l := ⟨by omega, i3⟩
         simp only [if_pos e, decide_eq_true e, dcd_len, hi, List.take_length]; rfl)
  (try simp only [Decidable.not_not] at h1)
  refine code_skip ?_
  refine hK2 _ ?_; clear hK2 K2
  refine code_seq (fun K5 hK5 => ?_)
  refine code_region ?_
  refine list_cons rfl (op_buildSlice sl_24 (parts := []) rfl rfl rfl (by decide) (by decide) (by decide) rfl ?_)
  refine list_cons rfl (op_q (q_assign rfl (by decide)) ?_)
  refine list_nil ?_
  refine hK5 _ ?_; clear hK5 K5
  refine code_seq (fun K6 hK6 => ?_)
  refine code_seq (fun K7 hK7 => ?_)
  refine code_region ?_
  refine list_cons rfl (op_q (q_assign rfl (by decide)) ?_)
  refine list_nil ?_
  refine hK7 _ ?_; clear hK7 K7
  refine code_block ?_
  refine code_loop (X := PV × Bool × Nat × List PV × Int) (fun x => [(0, .par 0 (.sl l.length (l.map (.int .i64)))), (2, .val x.1), (3, .val (.bool x.2.1)), (4, .own 11 3 1 x.2.2.1 x.2.2.2.1), (5, .val (.int .i64 x.2.2.2.2))]) (fun x => 0 ≤ x.2.2.2.2 ∧ x.2.2.2.2 ≤ l.length ∧ (1 ≤ l.length ∧ l.length ≤ 10) ∧ ordK l x.2.2.2.2.toNat = true ∧ x.2.2.1 = x.2.2.2.2.toNat ∧ x.2.2.2.1 = ((l.take x.2.2.2.2.toNat).map digC).map (.int .i64)) (fun x => (l.length - x.2.2.2.2).toNat) (_, _, _, _, _) (imp_covers ⟨rfl, rfl, rfl, rfl, rfl, trivial⟩) ?_ ?_
  · (try dsimp only)
    exact ⟨by omega, by omega, ⟨by omega, by omega⟩, rfl, rfl, by simp⟩
  · intro x hI
    obtain ⟨t2_p, t3, out_n, out_c, i⟩ := x
    replace hI : 0 ≤ i ∧ i ≤ l.length ∧ (1 ≤ l.length ∧ l.length ≤ 10) ∧ ordK l i.toNat = true ∧ out_n = i.toNat ∧ out_c = ((l.take i.toNat).map digC).map (.int .i64) := hI
    show codeT _ _ _ [(0, .par 0 (.sl l.length (l.map (.int .i64)))), (2, .val t2_p), (3, .val (.bool t3)), (4, .own 11 3 1 out_n out_c), (5, .val (.int .i64 i))] _
    obtain ⟨i1, i2, i5, i3, rfl, rfl⟩ := hI
    refine code_seq (fun K8 hK8 => ?_)
    refine code_seq (fun K9 hK9 => ?_)
    refine code_region ?_
    refine list_cons rfl (op_q (q_move rfl (by decide)) ?_)
    refine list_cons rfl (op_q (q_move rfl (by decide)) ?_)
    refine list_cons rfl (op_q (q_len_sl Tryd.underlying24 rfl rfl (by decide)) ?_)
    refine list_cons rfl (op_q (q_lt rfl rfl (by decide)) ?_)
    refine list_nil ?_
    refine hK9 _ ?_; clear hK9 K9
    refine code_cond_d rfl (fun h2 => ?_) (fun h2 => ?_)
    · skip
      (try simp only [Decidable.not_not] at h2)
      refine code_skip ?_
      refine hK8 _ ?_; clear hK8 K8
      refine code_seq (fun K10 hK10 => ?_)
      refine code_block ?_
      refine code_seq (fun K11 hK11 => ?_)
      refine code_seq (fun K12 hK12 => ?_)
      refine code_draw (by kernel_rfl) (by kernel_rfl) ?_
      refine draw_q rfl (q_move rfl (by decide)) ?_
      refine draw_q rfl (q_move rfl (by decide)) ?_
      refine draw_q rfl (q_indexAddr_rd sl_24 rfl (.inl ⟨_, rfl, rfl⟩) rfl (by omega) (by omega) (by decide)) ?_
      refine draw_q rfl (q_load_rd one_3 rfl (.inl ⟨_, (by first | rfl | exact congrArg (SV.rpar _) (drop_map1 _ 0 _ (by first | omega | (simp; omega)))), rfl⟩) (by decide)) ?_
      refine draw_call _ (spec_l1In _ _ _) rfl rfl rfl (by decide) ?_
      refine draw_q rfl (by first | exact q_notd rfl (by decide) | exact q_not rfl (by decide)) ?_
      refine draw_q rfl (q_move rfl (by decide)) ?_
      refine draw_guard_d rfl rfl rfl rfl (by decide) rfl (by decide) (fun h3 => q_move rfl (by decide)) (fun h3 => ?_) (fun h3 => ?_)
      · simp only [Bool.false_eq_true, if_true, if_false, Decidable.not_not] at h3
        refine draw_guard_y rfl rfl rfl rfl (by decide) rfl (q_move rfl (by decide)) ?_
        refine draw_guard_y rfl rfl rfl rfl (by decide) rfl (q_slice_sl sl_24 rfl rfl rfl ⟨_, rfl⟩ (by omega) (by omega) (by omega) rfl (by decide)) ?_
        refine draw_guard_y rfl rfl rfl rfl (by decide) rfl (q_move rfl (by decide)) ?_
        refine draw_guard_y rfl rfl rfl rfl (by decide) rfl (q_move rfl (by decide)) ?_
        refine draw_guard_y rfl rfl rfl rfl (by decide) rfl (q_indexAddr_rd sl_24 rfl (.inl ⟨_, rfl, rfl⟩) rfl (by omega) (by omega) (by decide)) ?_
        refine draw_guard_y rfl rfl rfl rfl (by decide) rfl (q_load_rd one_3 rfl (.inl ⟨_, (by first | rfl | exact congrArg (SV.rpar _) (drop_map1 _ 0 _ (by first | omega | (simp; omega)))), rfl⟩) (by decide)) ?_
        refine draw_callW _ (spec_l1HasT l _ i i1 (by omega) hl) rfl rfl rfl (by decide) (wanted_of rfl rfl rfl (by decide)) ?_
        refine draw_q rfl (q_pick rfl rfl (by decide)) ?_
        refine draw_nil ?_
        refine hK12 _ ?_; clear hK12 K12
        refine codeT.imp (σ' := [(0, _), (2, _), (3, _), (4, _), (5, _), (33, _)]) ?_ (imp_covers ⟨rfl, rfl, rfl, rfl, rfl, rfl, trivial⟩)
        refine code_cond_d rfl (fun h4 => ?_) (fun h4 => ?_)
        · skip
          (try simp only [Decidable.not_not] at h4)
          refine code_seq (fun K13 hK13 => ?_)
          refine code_region ?_
          refine list_cons rfl (op_buildSlice sl_24 (parts := []) rfl rfl rfl (by decide) (by decide) (by decide) rfl ?_)
          refine list_cons rfl (op_q (q_assign rfl (by decide)) ?_)
          refine list_cons rfl (op_q (q_assign rfl (by decide)) ?_)
          refine list_nil ?_
          refine hK13 _ ?_; clear hK13 K13
          refine code_ret ?_
          refine then_r ?_; clear hK11 K11
          refine blk_r ?_
          refine then_r ?_; clear hK10 K10
          refine then_r ?_
          refine blk_r ?_
          refine then_r ?_; clear hK6 K6
          refine ends_ret (cs := []) rfl rfl rfl rfl trivial ?_
          first
            | (have e : ¬ DigP l := fun e => by have := ord_len e.2; have := e.1; omega
               simp only [if_neg e, decide_eq_false e]; rfl)
            | (have e : ¬ DigP l := fun e => absurd (ordK_at e.2 (j := i.toNat) (by omega)).1 (by assumption)
               simp only [if_neg e, decide_eq_false e]; rfl)
            | (have hx := h4
               have e : ¬ DigP l := fun e => by rw [(ordK_at e.2 (j := i.toNat) (by omega)).2] at hx; exact absurd hx (by simp)
               simp only [if_neg e, decide_eq_false e]; rfl)
            | (have hi : i.toNat = l.length := by omega
               rw [hi] at i3
               have e : DigP l := ⟨by omega, i3⟩
               simp only [if_pos e, decide_eq_true e, dcd_len, hi, List.take_length]; rfl)
        (try simp only [Decidable.not_not] at h4)
        refine code_skip ?_
        refine hK11 _ ?_; clear hK11 K11
        refine code_region ?_
        refine list_cons rfl (op_q (q_move rfl (by decide)) ?_)
        refine list_cons rfl (op_q (q_move rfl (by decide)) ?_)
        refine list_cons rfl (op_q (q_move rfl (by decide)) ?_)
        refine list_cons rfl (op_q (q_indexAddr_rd sl_24 rfl (.inl ⟨_, rfl, rfl⟩) rfl (by omega) (by omega) (by decide)) ?_)
        refine list_cons rfl (op_q (q_load_rd one_3 rfl (.inl ⟨_, (by first | rfl | exact congrArg (SV.rpar _) (drop_map1 _ 0 _ (by first | omega | (simp; omega)))), rfl⟩) (by decide)) ?_)
        refine list_cons rfl (op_call _ (spec_l2Digit _ (by omega) (by omega)) rfl rfl (by decide) (by decide) (by decide) rfl ?_)
        rintro _ rfl
        refine list_cons rfl (op_buildSlice sl_24 (parts := [(0, .tmp 40)]) rfl rfl rfl (by decide) (by decide) (by decide) rfl ?_)
        refine list_cons rfl (op_append_gen sl_24 (l := 11) (.inl rfl) rfl rfl (l2 := none) (.inl ⟨rfl, (by first | rfl | exact flat_map _ (fun _ => rfl) _)⟩) (by first | rfl | simp | omega) (by omega) (by decide) (by decide) (by decide) ?_)
        refine list_cons rfl (op_q (q_assign rfl (by decide)) ?_)
        refine list_nil ?_
        refine blk_n ?_
        refine hK10 _ ?_; clear hK10 K10
        refine codeT.imp (σ' := [(0, _), (2, _), (3, _), (4, _), (5, _)]) ?_ (imp_covers ⟨rfl, rfl, rfl, rfl, rfl, trivial⟩)
        refine code_region ?_
        refine list_cons rfl (op_q (q_move rfl (by decide)) ?_)
        refine list_cons rfl (op_q (by first | exact q_addI rfl rfl (by decide) (by omega) (by omega) | exact q_ib rfl rfl rfl (by decide)) ?_)
        refine list_cons rfl (op_q (q_assign rfl (by decide)) ?_)
        refine list_nil ?_
        refine then_n ⟨(_, _, _, _, _), imp_covers ⟨rfl, rfl, rfl, rfl, rfl, trivial⟩, ?_, ?_⟩
        · (try dsimp only)
          refine ⟨by omega, by omega, i5, ?_, by omega, ?_⟩
          · rw [show (i + 1).toNat = i.toNat + 1 by omega]
            exact ordK_succ i3 (by assumption) (by simpa using h4)
          · rw [show (i + 1).toNat = i.toNat + 1 by omega, map_take digC 0 l (by omega), List.map_append]; rfl
        · (try dsimp only); omega
      simp only [Bool.false_eq_true, if_true, if_false, Decidable.not_not] at h3
      refine draw_guard_n rfl rfl rfl rfl (by decide) rfl ?_
      refine draw_guard_n rfl rfl rfl rfl (by decide) rfl ?_
      refine draw_guard_n rfl rfl rfl rfl (by decide) rfl ?_
      refine draw_guard_n rfl rfl rfl rfl (by decide) rfl ?_
      refine draw_guard_n rfl rfl rfl rfl (by decide) rfl ?_
      refine draw_guard_n rfl rfl rfl rfl (by decide) rfl ?_
      refine draw_guard_n rfl rfl rfl rfl (by decide) rfl ?_
      refine draw_q rfl (q_pick rfl rfl (by decide)) ?_
      refine draw_nil ?_
      refine hK12 _ ?_; clear hK12 K12
      refine codeT.imp (σ' := [(0, _), (2, _), (3, _), (4, _), (5, _), (33, _)]) ?_ (imp_covers ⟨rfl, rfl, rfl, rfl, rfl, rfl, trivial⟩)
      refine code_cond_t rfl ?_
      refine code_seq (fun K14 hK14 => ?_)
      refine code_region ?_
      refine list_cons rfl (op_buildSlice sl_24 (parts := []) rfl rfl rfl (by decide) (by decide) (by decide) rfl ?_)
      refine list_cons rfl (op_q (q_assign rfl (by decide)) ?_)
      refine list_cons rfl (op_q (q_assign rfl (by decide)) ?_)
      refine list_nil ?_
      refine hK14 _ ?_; clear hK14 K14
      refine code_ret ?_
      refine then_r ?_; clear hK11 K11
      refine blk_r ?_
      refine then_r ?_; clear hK10 K10
      refine then_r ?_
      refine blk_r ?_
      refine then_r ?_; clear hK6 K6
      refine ends_ret (cs := []) rfl rfl rfl rfl trivial ?_
      first
        | (have e : ¬ DigP l := fun e => by have := ord_len e.2; have := e.1; omega
           simp only [if_neg e, decide_eq_false e]; rfl)
        | (have e : ¬ DigP l := fun e => absurd (ordK_at e.2 (j := i.toNat) (by omega)).1 (by assumption)
           simp only [if_neg e, decide_eq_false e]; rfl)
        | (have hx := h3
           have e : ¬ DigP l := fun e => by rw [(ordK_at e.2 (j := i.toNat) (by omega)).2] at hx; exact absurd hx (by simp)
           simp only [if_neg e, decide_eq_false e]; rfl)
        | (have hi : i.toNat = l.length := by omega
           rw [hi] at i3
           have e : DigP l := ⟨by omega, i3⟩
           simp only [if_pos e, decide_eq_true e, dcd_len, hi, List.take_length]; rfl)
    (try simp only [Decidable.not_not] at h2)
    refine code_exit ?_
    refine then_x ?_; clear hK8 K8
    refine then_x ?_
    refine blk_hit ?_
    refine hK6 _ ?_; clear hK6 K6
    refine code_seq (fun K15 hK15 => ?_)
    refine code_region ?_
    refine list_cons rfl (op_q (q_move rfl (by decide)) ?_)
    refine list_cons rfl (op_q (q_assign rfl (by decide)) ?_)
    refine list_cons rfl (op_q (q_assign rfl (by decide)) ?_)
    refine list_nil ?_
    refine hK15 _ ?_; clear hK15 K15
    refine code_ret ?_
    refine ends_ret (cs := []) rfl rfl rfl rfl trivial ?_
    first
      | (have e : ¬ DigP l := fun e => by have := ord_len e.2; have := e.1; omega
         simp only [if_neg e, decide_eq_false e]; rfl)
      | (have e : ¬ DigP l := fun e => absurd (ordK_at e.2 (j := i.toNat) (by omega)).1 (by assumption)
         simp only [if_neg e, decide_eq_false e]; rfl)
      | (have hx := h2
         have e : ¬ DigP l := fun e => by rw [(ordK_at e.2 (j := i.toNat) (by omega)).2] at hx; exact absurd hx (by simp)
         simp only [if_neg e, decide_eq_false e]; rfl)
      | (have hi : i.toNat = l.length := by omega
         rw [hi] at i3
         have e : DigP l := ⟨by omega, i3⟩
         simp only [if_pos e, decide_eq_true e, dcd_len, hi, List.take_length]; rfl)

set_option maxRecDepth 4000 in
theorem spec_FlipCode (l : List Int) (b : Int) (hl : l.length ≤ 4611686018427387904) : PCalls Tryd.prog 32 [.sl l.length (l.map (.int .i64)), .int .i64 b] (· = [.own 0 3 1 (if CodeP l ∧ 0 ≤ b ∧ b ≤ 127 then flp l b else []).length ((if CodeP l ∧ 0 ≤ b ∧ b ≤ 127 then flp l b else []).map (.int .i64)), .val (.bool (decide (CodeP l ∧ 0 ≤ b ∧ b ≤ 127)))]) := by
  refine pcalls_of_code (n := 34) az Tryd.func32 (by kernel_rfl) rfl rfl (Nat.le_of_ble_eq_true rfl) (by intro t u h; simp [Tryd.f32] at h) ?_
  refine code_seq (fun K1 hK1 => ?_)
  refine code_region ?_
  refine list_cons rfl (op_q (q_assign rfl (by decide)) ?_)
  refine list_cons rfl (op_q (q_assign rfl (by decide)) ?_)
  refine list_nil ?_
  refine hK1 _ ?_; clear hK1 K1
  refine code_seq (fun K2 hK2 => ?_)
  refine code_seq (fun K3 hK3 => ?_)
  refine code_region ?_
  refine list_cons rfl (op_q (q_move rfl (by decide)) ?_)
  refine list_cons rfl (op_call _ (spec_l5Code _ (by omega)) rfl rfl (by decide) (by decide) (by decide) rfl ?_)
  rintro _ rfl
  refine list_cons rfl (op_q (by first | exact q_notd rfl (by decide) | exact q_not rfl (by decide)) ?_)
  refine list_cons rfl (op_q (q_move rfl (by decide)) ?_)
  refine list_guard_d rfl rfl rfl rfl (by decide) rfl (by decide) (fun h1 => ?_) (fun h1 => ?_)
  · simp only [Bool.false_eq_true, if_true, if_false, Decidable.not_not] at h1
    refine id (op_q (q_move rfl (by decide)) ?_)
    refine list_guard_y rfl rfl rfl rfl (by decide) rfl ?_
    refine id (op_call _ (spec_l2Cell _) rfl rfl (by decide) (by decide) (by decide) rfl ?_)
    rintro _ rfl
    refine list_guard_y rfl rfl rfl rfl (by decide) rfl ?_
    refine id (op_q (by first | exact q_notd rfl (by decide) | exact q_not rfl (by decide)) ?_)
    refine list_cons rfl (op_q (q_pick rfl rfl (by decide)) ?_)
    refine list_nil ?_
    refine hK3 _ ?_; clear hK3 K3
    refine codeT.imp (σ' := [(0, _), (1, _), (4, _), (5, _), (15, _)]) ?_ (imp_covers ⟨rfl, rfl, rfl, rfl, rfl, trivial⟩)
    refine code_cond_d rfl (fun h2 => ?_) (fun h2 => ?_)
    · skip
      (try simp only [Decidable.not_not] at h2)
      refine code_seq (fun K4 hK4 => ?_)
      refine code_region ?_
      refine list_cons rfl (op_buildSlice sl_24 (parts := []) rfl rfl rfl (by decide) (by decide) (by decide) rfl ?_)
      refine list_cons rfl (op_q (q_assign rfl (by decide)) ?_)
      refine list_cons rfl (op_q (q_assign rfl (by decide)) ?_)
      refine list_nil ?_
      refine hK4 _ ?_; clear hK4 K4
      refine code_ret ?_
      refine then_r ?_; clear hK2 K2
      refine ends_ret (cs := []) rfl rfl rfl rfl trivial ?_
      first
        | (have e : ¬ (CodeP l ∧ 0 ≤ b ∧ b ≤ 127) := fun e => absurd e.1 (by assumption)
           simp only [if_neg e, decide_eq_false e]; rfl)
        | (have e : ¬ (CodeP l ∧ 0 ≤ b ∧ b ≤ 127) := fun e => absurd e.2 (by assumption)
           simp only [if_neg e, decide_eq_false e]; rfl)
        | (have hi : i.toNat = l.length := by omega
           simp only [if_pos hC, decide_eq_true hC, flp_len, hi, List.take_length])
    (try simp only [Decidable.not_not] at h2)
    refine code_skip ?_
    refine hK2 _ ?_; clear hK2 K2
    refine code_seq (fun K5 hK5 => ?_)
    refine code_region ?_
    refine list_cons rfl (op_buildSlice sl_24 (parts := []) rfl rfl rfl (by decide) (by decide) (by decide) rfl ?_)
    refine list_cons rfl (op_q (q_assign rfl (by decide)) ?_)
    refine list_nil ?_
    refine hK5 _ ?_; clear hK5 K5
    refine code_seq (fun K6 hK6 => ?_)
    refine code_seq (fun K7 hK7 => ?_)
    refine code_region ?_
    refine list_cons rfl (op_q (q_assign rfl (by decide)) ?_)
    refine list_nil ?_
    refine hK7 _ ?_; clear hK7 K7
    refine code_block ?_
    refine code_loop (X := PV × Bool × Nat × List PV × Int) (fun x => [(0, .par 0 (.sl l.length (l.map (.int .i64)))), (1, .val (.int .i64 b)), (4, .val x.1), (5, .val (.bool x.2.1)), (6, .own 17 3 1 x.2.2.1 x.2.2.2.1), (7, .val (.int .i64 x.2.2.2.2))]) (fun x => (CodeP l ∧ 0 ≤ b ∧ b ≤ 127) ∧ 0 ≤ x.2.2.2.2 ∧ x.2.2.2.2 ≤ l.length ∧ x.2.2.1 = x.2.2.2.2.toNat ∧ x.2.2.2.1 = (flp (l.take x.2.2.2.2.toNat) b).map (.int .i64)) (fun x => (l.length - x.2.2.2.2).toNat) (_, _, _, _, _) (imp_covers ⟨rfl, rfl, rfl, rfl, rfl, rfl, trivial⟩) ?_ ?_
    · (try dsimp only)
      exact ⟨⟨by assumption, by assumption⟩, by omega, by omega, rfl, by simp [flp]⟩
    · intro x hI
      obtain ⟨t4_p, t5, out_n, out_c, i⟩ := x
      replace hI : (CodeP l ∧ 0 ≤ b ∧ b ≤ 127) ∧ 0 ≤ i ∧ i ≤ l.length ∧ out_n = i.toNat ∧ out_c = (flp (l.take i.toNat) b).map (.int .i64) := hI
      show codeT _ _ _ [(0, .par 0 (.sl l.length (l.map (.int .i64)))), (1, .val (.int .i64 b)), (4, .val t4_p), (5, .val (.bool t5)), (6, .own 17 3 1 out_n out_c), (7, .val (.int .i64 i))] _
      obtain ⟨hC, i1, i2, rfl, rfl⟩ := hI
      have hl12 := hC.1.1
      have hci := hC.1.cell i.toNat
      refine code_seq (fun K8 hK8 => ?_)
      refine code_seq (fun K9 hK9 => ?_)
      refine code_region ?_
      refine list_cons rfl (op_q (q_move rfl (by decide)) ?_)
      refine list_cons rfl (op_q (q_move rfl (by decide)) ?_)
      refine list_cons rfl (op_q (q_len_sl Tryd.underlying24 rfl rfl (by decide)) ?_)
      refine list_cons rfl (op_q (q_lt rfl rfl (by decide)) ?_)
      refine list_nil ?_
      refine hK9 _ ?_; clear hK9 K9
      refine code_cond_d rfl (fun h3 => ?_) (fun h3 => ?_)
      · skip
        (try simp only [Decidable.not_not] at h3)
        refine code_skip ?_
        refine hK8 _ ?_; clear hK8 K8
        refine code_seq (fun K10 hK10 => ?_)
        refine code_block ?_
        refine code_region ?_
        refine list_cons rfl (op_q (q_move rfl (by decide)) ?_)
        refine list_cons rfl (op_q (q_move rfl (by decide)) ?_)
        refine list_cons rfl (op_q (q_move rfl (by decide)) ?_)
        refine list_cons rfl (op_q (q_indexAddr_rd sl_24 rfl (.inl ⟨_, rfl, rfl⟩) rfl (by omega) (by omega) (by decide)) ?_)
        refine list_cons rfl (op_q (q_load_rd one_3 rfl (.inl ⟨_, (by first | rfl | exact congrArg (SV.rpar _) (drop_map1 _ 0 _ (by first | omega | (simp; omega)))), rfl⟩) (by decide)) ?_)
        refine list_cons rfl (op_q (q_move rfl (by decide)) ?_)
        refine list_cons rfl (op_q (by first | exact q_xorI rfl rfl (by decide) (by omega) (by omega) (by omega) (by omega) | exact q_ib rfl rfl rfl (by decide)) ?_)
        refine list_cons rfl (op_buildSlice sl_24 (parts := [(0, .tmp 30)]) rfl rfl rfl (by decide) (by decide) (by decide) rfl ?_)
        refine list_cons rfl (op_append_gen sl_24 (l := 17) (.inl rfl) rfl rfl (l2 := none) (.inl ⟨rfl, (by first | rfl | exact flat_map _ (fun _ => rfl) _)⟩) (by first | rfl | simp | omega) (by omega) (by decide) (by decide) (by decide) ?_)
        refine list_cons rfl (op_q (q_assign rfl (by decide)) ?_)
        refine list_nil ?_
        refine blk_n ?_
        refine hK10 _ ?_; clear hK10 K10
        refine codeT.imp (σ' := [(0, _), (1, _), (4, _), (5, _), (6, _), (7, _)]) ?_ (imp_covers ⟨rfl, rfl, rfl, rfl, rfl, rfl, trivial⟩)
        refine code_region ?_
        refine list_cons rfl (op_q (q_move rfl (by decide)) ?_)
        refine list_cons rfl (op_q (by first | exact q_addI rfl rfl (by decide) (by omega) (by omega) | exact q_ib rfl rfl rfl (by decide)) ?_)
        refine list_cons rfl (op_q (q_assign rfl (by decide)) ?_)
        refine list_nil ?_
        refine then_n ⟨(_, _, _, _, _), imp_covers ⟨rfl, rfl, rfl, rfl, rfl, rfl, trivial⟩, ?_, ?_⟩
        · (try dsimp only)
          refine ⟨hC, by omega, by omega, by omega, ?_⟩
          rw [show (i + 1).toNat = i.toNat + 1 by omega]
          unfold flp
          rw [map_take _ 0 l (by omega), List.map_append]; rfl
        · (try dsimp only); omega
      (try simp only [Decidable.not_not] at h3)
      refine code_exit ?_
      refine then_x ?_; clear hK8 K8
      refine then_x ?_
      refine blk_hit ?_
      refine hK6 _ ?_; clear hK6 K6
      refine code_seq (fun K11 hK11 => ?_)
      refine code_region ?_
      refine list_cons rfl (op_q (q_move rfl (by decide)) ?_)
      refine list_cons rfl (op_q (q_assign rfl (by decide)) ?_)
      refine list_cons rfl (op_q (q_assign rfl (by decide)) ?_)
      refine list_nil ?_
      refine hK11 _ ?_; clear hK11 K11
      refine code_ret ?_
      refine ends_ret (cs := []) rfl rfl rfl rfl trivial ?_
      first
        | (have e : ¬ (CodeP l ∧ 0 ≤ b ∧ b ≤ 127) := fun e => absurd e.1 (by assumption)
           simp only [if_neg e, decide_eq_false e]; rfl)
        | (have e : ¬ (CodeP l ∧ 0 ≤ b ∧ b ≤ 127) := fun e => absurd e.2 (by assumption)
           simp only [if_neg e, decide_eq_false e]; rfl)
        | (have hi : i.toNat = l.length := by omega
           simp only [if_pos hC, decide_eq_true hC, flp_len, hi, List.take_length])
  simp only [Bool.false_eq_true, if_true, if_false, Decidable.not_not] at h1
  refine list_guard_n rfl rfl rfl rfl (by decide) rfl ?_
  refine list_guard_n rfl rfl rfl rfl (by decide) rfl ?_
  refine list_cons rfl (op_q (q_pick rfl rfl (by decide)) ?_)
  refine list_nil ?_
  refine hK3 _ ?_; clear hK3 K3
  refine code_cond_t rfl ?_
  refine code_seq (fun K12 hK12 => ?_)
  refine code_region ?_
  refine list_cons rfl (op_buildSlice sl_24 (parts := []) rfl rfl rfl (by decide) (by decide) (by decide) rfl ?_)
  refine list_cons rfl (op_q (q_assign rfl (by decide)) ?_)
  refine list_cons rfl (op_q (q_assign rfl (by decide)) ?_)
  refine list_nil ?_
  refine hK12 _ ?_; clear hK12 K12
  refine code_ret ?_
  refine then_r ?_; clear hK2 K2
  refine ends_ret (cs := []) rfl rfl rfl rfl trivial ?_
  first
    | (have e : ¬ (CodeP l ∧ 0 ≤ b ∧ b ≤ 127) := fun e => absurd e.1 (by assumption)
       simp only [if_neg e, decide_eq_false e]; rfl)
    | (have e : ¬ (CodeP l ∧ 0 ≤ b ∧ b ≤ 127) := fun e => absurd e.2 (by assumption)
       simp only [if_neg e, decide_eq_false e]; rfl)
    | (have hi : i.toNat = l.length := by omega
       simp only [if_pos hC, decide_eq_true hC, flp_len, hi, List.take_length])

end Go.Proofs.YtjbbijlbenkgcaaDoor
