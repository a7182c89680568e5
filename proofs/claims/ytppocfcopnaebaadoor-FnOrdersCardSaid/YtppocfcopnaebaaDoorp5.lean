/- Contracts of functions, walked over the pure layer; each says for which arguments. -/
import Derived.Test.YtppocfcopnaebaaDoorp5Ty
import Derived.Test.YtppocfcopnaebaaDoorTf
import Derived.Test.YtppocfcopnaebaaDoorp1
import Derived.Test.YtppocfcopnaebaaDoorShelf
import Derived.Test.YtppocfcopnaebaaDoorp2
import Derived.Test.YtppocfcopnaebaaDoorp3
namespace Go.Proofs.YtppocfcopnaebaaDoor
open Go.RowKit p5Ty
set_option linter.unusedVariables false
set_option linter.unusedSimpArgs false
def pS (a : Int) : List Int → Int
  | [] => 0
  | x :: r => dgt a.toNat x.toNat + pS x r
def pL (a : Int) : List Int → Int
  | [] => a
  | x :: r => pL x r
theorem pS_app : ∀ (a : Int) (p q : List Int), pS a (p ++ q) = pS a p + pS (pL a p) q
  | a, [], q => by simp [pS, pL]
  | a, x :: p, q => by
    show dgt _ _ + pS x (p ++ q) = dgt _ _ + pS x p + pS (pL x p) q
    rw [pS_app x p q]; omega
theorem pL_app : ∀ (a : Int) (p q : List Int), pL a (p ++ q) = pL (pL a p) q
  | a, [], q => rfl
  | a, x :: p, q => pL_app x p q
theorem pL_take (x : Int) : ∀ (l : List Int) (k : Nat), k ≤ l.length → (x :: l).getD k 0 = pL x (l.take k)
  | l, 0, _ => rfl
  | [], k + 1, h => by simp at h
  | y :: l, k + 1, h => by
    have := pL_take y l k (by simpa using h)
    rw [List.take_succ_cons]
    show (y :: l).getD k 0 = pL y (l.take k)
    exact this
theorem take_snocR {l : List Int} {k : Nat} (h : k < l.length) : l.take (k + 1) = l.take k ++ [l.getD k 0] := by
  rw [List.take_add_one, List.getElem?_eq_getElem h, List.getD_eq_getElem?_getD, List.getElem?_eq_getElem h]; rfl
theorem cst_take (x : Int) (l : List Int) : ∀ k, k ≤ l.length → cstK (x :: l) k = pS x (l.take k)
  | 0, _ => rfl
  | k + 1, h => by
    have ih := cst_take x l k (by omega)
    rw [cstK, ih, take_snocR (by omega), pS_app, ← pL_take x l k (by omega)]
    have e : (k + 1) % (x :: l).length = k + 1 := Nat.mod_eq_of_lt (by simp only [List.length_cons]; omega)
    rw [e]
    show _ + dgt ((x :: l).getD k 0).toNat (l.getD k 0).toNat = _ + (dgt _ _ + 0)
    omega
theorem cst_path (x : Int) (l : List Int) : cstK (x :: l) l.length = pS x l := by
  rw [cst_take x l l.length (Nat.le_refl _), List.take_length]
theorem cst_ring (x : Int) (l : List Int) : cstK (x :: l) (l.length + 1) = pS x l + dgt (pL x l).toNat x.toNat := by
  rw [cstK, cst_path, pL_take x l l.length (Nat.le_refl _), List.take_length]
  rw [show (l.length + 1) % (x :: l).length = 0 by simp]
  rfl
def mnF (L : List Int) : Int := L.foldl (fun b c => if b < 0 ∨ c < b then c else b) (-1)
theorem mn_fold : ∀ (L : List Int) (b : Int), 0 ≤ b → (∀ c ∈ L, 0 ≤ c) → (L.foldl (fun b c => if b < 0 ∨ c < b then c else b) b = b ∨ L.foldl (fun b c => if b < 0 ∨ c < b then c else b) b ∈ L) ∧ L.foldl (fun b c => if b < 0 ∨ c < b then c else b) b ≤ b ∧ ∀ c ∈ L, L.foldl (fun b c => if b < 0 ∨ c < b then c else b) b ≤ c
  | [], b, _, _ => ⟨.inl rfl, Int.le_refl _, by simp⟩
  | c :: L, b, hb, h => by
    simp only [List.foldl_cons]
    have hc := h c (by simp)
    by_cases e : c < b
    · rw [if_pos (.inr e)]
      obtain ⟨h1, h2, h3⟩ := mn_fold L c hc (fun d hd => h d (by simp [hd]))
      refine ⟨.inr (h1.elim (fun k => by rw [k]; simp) (fun k => by simp [k])), by omega, fun d hd => ?_⟩
      rcases List.mem_cons.1 hd with rfl | hd
      · exact h2
      · exact h3 d hd
    · rw [if_neg (by omega)]
      obtain ⟨h1, h2, h3⟩ := mn_fold L b hb (fun d hd => h d (by simp [hd]))
      refine ⟨h1.imp id (fun k => by simp [k]), h2, fun d hd => ?_⟩
      rcases List.mem_cons.1 hd with rfl | hd
      · omega
      · exact h3 d hd
theorem mnF_ok {L : List Int} (hn : L ≠ []) (h : ∀ c ∈ L, 0 ≤ c) : mnF L ∈ L ∧ ∀ c ∈ L, mnF L ≤ c := by
  match L, hn with
  | c :: L, _ =>
    have hc := h c (by simp)
    unfold mnF
    simp only [List.foldl_cons]
    rw [if_pos (.inl (by omega))]
    obtain ⟨h1, h2, h3⟩ := mn_fold L c hc (fun d hd => h d (by simp [hd]))
    refine ⟨h1.elim (fun k => by rw [k]; simp) (fun k => by simp [k]), fun d hd => ?_⟩
    rcases List.mem_cons.1 hd with rfl | hd
    · exact h2
    · exact h3 d hd
def bsE (back a : Int) : Int := if 0 ≤ back then dgt a.toNat back.toNat else 0
theorem bsE_nn (back a : Int) : 0 ≤ bsE back a ∧ bsE back a ≤ 7 := by
  have := dgt_le a.toNat back.toNat
  unfold bsE; split <;> omega
def RL (back : Int) : Nat → List Int → Int → Int
  | 0, _, a => bsE back a
  | n + 1, L, a => mnF (L.map fun x => dgt a.toNat x.toNat + RL back n (L.erase x) x)
def rv (back : Int) (L : List Int) (a : Int) : Int := RL back L.length L a
theorem rv_nil (back a : Int) : rv back [] a = bsE back a := rfl
theorem rv_step {back : Int} {L : List Int} (a : Int) (h : L ≠ []) : rv back L a = mnF (L.map fun x => dgt a.toNat x.toNat + rv back (L.erase x) x) := by
  obtain ⟨n, hn⟩ : ∃ n, L.length = n + 1 := ⟨L.length - 1, by have := List.length_pos_iff.2 h; omega⟩
  unfold rv
  rw [hn]
  show mnF _ = mnF _
  congr 1
  apply List.map_congr_left
  intro x hx
  rw [List.length_erase_of_mem hx, hn]; rfl
theorem rv_nn (back : Int) : ∀ (n : Nat) (L : List Int) (a : Int), L.length = n → 0 ≤ rv back L a ∧ rv back L a ≤ 7 * (n + 1 : Nat)
  | 0, L, a, h => by
    have e : L = [] := List.eq_nil_of_length_eq_zero h
    subst e
    have := bsE_nn back a
    rw [rv_nil]; omega
  | n + 1, L, a, h => by
    have hne : L ≠ [] := by intro e; subst e; simp at h
    have hb : ∀ c ∈ L.map (fun x => dgt a.toNat x.toNat + rv back (L.erase x) x), 0 ≤ c ∧ c ≤ 7 * (n + 1 + 1 : Nat) := by
      intro c hc
      obtain ⟨x, hx, rfl⟩ := List.mem_map.1 hc
      have h1 := rv_nn back n (L.erase x) x (by rw [List.length_erase_of_mem hx]; omega)
      have h2 := dgt_le a.toNat x.toNat
      omega
    rw [rv_step a hne]
    exact hb _ (mnF_ok (by simpa using hne) (fun c hc => (hb c hc).1)).1
def pE (back a : Int) (p : List Int) : Int := pS a p + bsE back (pL a p)
theorem pE_cons (back a x : Int) (p : List Int) : pE back a (x :: p) = dgt a.toNat x.toNat + pE back x p := by
  unfold pE; simp only [pS, pL]; omega
theorem rv_mem {back a : Int} {L : List Int} {x : Int} (hx : x ∈ L) : rv back L a ≤ dgt a.toNat x.toNat + rv back (L.erase x) x := by
  have hne : L ≠ [] := by intro e; subst e; simp at hx
  rw [rv_step a hne]
  refine (mnF_ok (by simpa using hne) (fun c hc => ?_)).2 _ (List.mem_map_of_mem (f := fun x => dgt a.toNat x.toNat + rv back (L.erase x) x) hx)
  obtain ⟨y, hy, rfl⟩ := List.mem_map.1 hc
  have h1 := rv_nn back _ (L.erase y) y rfl
  have h2 := dgt_le a.toNat y.toNat
  omega
theorem rv_at {back a : Int} {L : List Int} (hne : L ≠ []) : ∃ x ∈ L, dgt a.toNat x.toNat + rv back (L.erase x) x = rv back L a := by
  have h := (mnF_ok (L := L.map fun x => dgt a.toNat x.toNat + rv back (L.erase x) x) (by simpa using hne) (fun c hc => by
    obtain ⟨y, hy, rfl⟩ := List.mem_map.1 hc
    have h1 := rv_nn back _ (L.erase y) y rfl
    have h2 := dgt_le a.toNat y.toNat
    omega)).1
  rw [← rv_step a hne] at h
  obtain ⟨x, hx, he⟩ := List.mem_map.1 h
  exact ⟨x, hx, he⟩
theorem rv_le (back : Int) : ∀ (p : List Int) (L : List Int) (a : Int), p.Perm L → rv back L a ≤ pE back a p
  | [], L, a, h => by
    have e := List.nil_perm.1 h
    subst e
    unfold pE; simp [rv_nil, pS, pL]
  | x :: p, L, a, h => by
    have hx : x ∈ L := h.mem_iff.1 (by simp)
    have h2 : p.Perm (L.erase x) := by
      have := h.erase x
      simpa using this
    have h3 := rv_le back p (L.erase x) x h2
    have h4 := rv_mem (back := back) (a := a) hx
    rw [pE_cons]; omega
def FP (back : Int) : Nat → List Int → Int → List Int
  | 0, _, _ => []
  | n + 1, L, a => match L.find? (fun x => decide (dgt a.toNat x.toNat + rv back (L.erase x) x = rv back L a)) with
    | some x => x :: FP back n (L.erase x) x
    | none => []
theorem FP_ok (back : Int) : ∀ (n : Nat) (L : List Int) (a : Int), L.length = n → (FP back n L a).Perm L ∧ pE back a (FP back n L a) = rv back L a
  | 0, L, a, h => by
    have e : L = [] := List.eq_nil_of_length_eq_zero h
    subst e
    exact ⟨List.Perm.refl _, by unfold pE FP; simp [rv_nil, pS, pL]⟩
  | n + 1, L, a, h => by
    have hne : L ≠ [] := by intro e; subst e; simp at h
    unfold FP
    split
    · rename_i x hf
      have hx := List.mem_of_find?_eq_some hf
      have hq : decide (dgt a.toNat x.toNat + rv back (L.erase x) x = rv back L a) = true := List.find?_some (p := fun x => decide (dgt a.toNat x.toNat + rv back (L.erase x) x = rv back L a)) hf
      obtain ⟨h1, h2⟩ := FP_ok back n (L.erase x) x (by rw [List.length_erase_of_mem hx]; omega)
      refine ⟨(h1.cons x).trans (List.perm_cons_erase hx).symm, ?_⟩
      rw [pE_cons, h2]; exact of_decide_eq_true hq
    · rename_i hf
      obtain ⟨x, hx, he⟩ := rv_at (back := back) (a := a) hne
      exact absurd (decide_eq_true he) (List.find?_eq_none.1 hf x hx)
theorem FP_first (back : Int) : ∀ (n : Nat) (L : List Int) (a : Int), L.length = n → L.Pairwise (· < ·) → ∀ p, p.Perm L → pE back a p = rv back L a → FP back n L a = p ∨ llt (FP back n L a) p
  | 0, L, a, h, _, p, hp, _ => by
    have e : L = [] := List.eq_nil_of_length_eq_zero h
    subst e
    have e2 := List.perm_nil.1 hp
    subst e2; exact .inl rfl
  | n + 1, L, a, h, hs, [], hp, _ => by
    have e := List.nil_perm.1 hp
    subst e; simp at h
  | n + 1, L, a, h, hs, y :: p, hp, he => by
    have hy : y ∈ L := hp.mem_iff.1 (by simp)
    have h2 : p.Perm (L.erase y) := by
      have := hp.erase y
      simpa using this
    rw [pE_cons] at he
    have h3 := rv_le back p (L.erase y) y h2
    have h4 := rv_mem (back := back) (a := a) hy
    have hyq : dgt a.toNat y.toNat + rv back (L.erase y) y = rv back L a := by omega
    unfold FP
    split
    · rename_i x hf
      have hx := List.mem_of_find?_eq_some hf
      by_cases e : x = y
      · subst e
        rcases FP_first back n (L.erase x) x (by rw [List.length_erase_of_mem hx]; omega) (hs.sublist List.erase_sublist) p h2 (by omega) with k | k
        · exact .inl (by rw [k])
        · exact .inr (.inr ⟨rfl, k⟩)
      · right; left
        obtain ⟨i, hi, hix⟩ := (List.find?_eq_some_iff_getElem.1 hf).2
        obtain ⟨j, hj, hjy⟩ := List.getElem_of_mem hy
        have hij : i < j := by
          by_cases c : j < i
          · have := hix.2 j c
            rw [hjy, decide_eq_true hyq] at this
            exact absurd this (by simp)
          · have : i ≠ j := by
              intro e2; subst e2
              exact e (hix.1.symm.trans hjy)
            omega
        have := List.pairwise_iff_getElem.1 hs i j hi hj hij
        rw [hix.1, hjy] at this
        exact this
    · rename_i hf
      exact absurd (decide_eq_true hyq) (List.find?_eq_none.1 hf y hy)
def btN (s j : Nat) : Bool := decide ((shN s j &&& 1) = 1)
def dNs (s : Nat) : List Nat := (List.range 10).filter (btN s)
def dlS (s : Nat) : List Int := (dNs s).map fun (n : Nat) => (n : Int)
theorem dNs_fact : ∀ s : Fin 1024, ∀ j : Fin 10, btN s.val j.val = true → (s.val ^^^ p2 j.val) < s.val ∧ dNs (s.val ^^^ p2 j.val) = (dNs s.val).erase j.val := by decide +kernel
theorem dNs_nil : ∀ s : Fin 1024, dNs s.val = [] → s.val = 0 := by decide +kernel
theorem btN_bit (s j : Nat) : btN s j = s.testBit j := by
  unfold btN shN p2
  rw [Nat.testBit_eq_decide_div_mod_eq, Nat.and_one_is_mod]
theorem mem_dlS {s : Nat} {x : Int} : x ∈ dlS s ↔ ∃ j : Nat, j < 10 ∧ btN s j = true ∧ x = (j : Int) := by
  unfold dlS dNs
  simp only [List.mem_map, List.mem_filter, List.mem_range]
  constructor
  · rintro ⟨j, ⟨h1, h2⟩, rfl⟩; exact ⟨j, h1, h2, rfl⟩
  · rintro ⟨j, h1, h2, rfl⟩; exact ⟨j, ⟨h1, h2⟩, rfl⟩
theorem dlS_asc (s : Nat) : (dlS s).Pairwise (· < ·) := by
  unfold dlS dNs
  rw [List.pairwise_map]
  exact (List.pairwise_lt_range.filter _).imp (fun h => by omega)
theorem dlS_nd (s : Nat) : (dlS s).Nodup := (dlS_asc s).imp (fun h => by omega)
theorem dlS_len (s : Nat) : (dlS s).length ≤ 10 := by
  unfold dlS dNs
  rw [List.length_map]
  exact Nat.le_trans (List.length_filter_le _ _) (by simp)
theorem erase_mapI (l : List Nat) (j : Nat) : (l.erase j).map (fun (n : Nat) => (n : Int)) = (l.map fun (n : Nat) => (n : Int)).erase (j : Int) := by
  induction l with
  | nil => rfl
  | cons a l ih =>
    by_cases h : a = j
    · subst h; simp
    · rw [List.erase_cons_tail (by simpa using h), List.map_cons, List.map_cons, List.erase_cons_tail (by simp; omega), ih]
theorem dlS_xor {s j : Nat} (hs : s < 1024) (hj : j < 10) (hb : btN s j = true) : s ^^^ p2 j < s ∧ dlS (s ^^^ p2 j) = (dlS s).erase (j : Int) := by
  have h := dNs_fact ⟨s, hs⟩ ⟨j, hj⟩ hb
  refine ⟨h.1, ?_⟩
  show (dNs (s ^^^ p2 j)).map _ = ((dNs s).map _).erase _
  rw [← erase_mapI]
  exact congrArg (List.map fun (n : Nat) => (n : Int)) h.2
theorem dlS_0 : dlS 0 = [] := by decide +kernel
theorem dlS_nil {s : Nat} (hs : s < 1024) (h : dlS s = []) : s = 0 := dNs_nil ⟨s, hs⟩ (List.map_eq_nil_iff.1 h)
theorem dlS_dig {s : Nat} {x : Int} (h : x ∈ dlS s) : 0 ≤ x ∧ x ≤ 9 := by
  obtain ⟨j, hj, _, rfl⟩ := mem_dlS.1 h; omega
def orS (l : List Int) : Nat → Nat
  | 0 => 0
  | k + 1 => orS l k ||| p2 (l.getD k 0).toNat
theorem orS_lt {l : List Int} (h : ∀ j, j < l.length → 0 ≤ l.getD j 0 ∧ l.getD j 0 ≤ 9) : ∀ k, k ≤ l.length → orS l k < 1024
  | 0, _ => by unfold orS; omega
  | k + 1, hk => by
    have h1 := orS_lt h k (by omega)
    have h2 := h k (by omega)
    unfold orS
    exact @Nat.or_lt_two_pow _ _ 10 h1 (Nat.pow_lt_pow_right (by omega) (by omega))
theorem orS_bit (l : List Int) (j : Nat) : ∀ k, (orS l k).testBit j = true ↔ ∃ i, i < k ∧ (l.getD i 0).toNat = j
  | 0 => by simp [orS]
  | k + 1 => by
    unfold orS
    rw [Nat.testBit_or, Bool.or_eq_true, orS_bit l j k]
    unfold p2
    rw [Nat.testBit_two_pow]
    simp only [decide_eq_true_eq]
    constructor
    · rintro (⟨i, h1, h2⟩ | h)
      · exact ⟨i, by omega, h2⟩
      · exact ⟨k, by omega, h⟩
    · rintro ⟨i, h1, h2⟩
      by_cases e : i = k
      · subst e; exact .inr h2
      · exact .inl ⟨i, by omega, h2⟩
theorem hasK_ex (l : List Int) (n : Int) : ∀ {k i : Nat}, i < k → l.getD i 0 = n → hasK l n k = true
  | 0, _, h, _ => by omega
  | k + 1, i, h, e => by
    unfold hasK
    by_cases c : i = k
    · subst c; rw [decide_eq_true e, Bool.or_true]
    · have := hasK_ex l n (k := k) (i := i) (by omega) e
      simp [this]
theorem ord_nd {l : List Int} (h : ordK l l.length = true) : l.Nodup := by
  rw [List.nodup_iff_pairwise_ne, List.pairwise_iff_getElem]
  intro i j hi hj hij e
  have h2 := (ordK_at h hj).2
  have h3 : hasK l (l.getD j 0) j = true := by
    exact hasK_ex l _ hij (by rw [List.getD_eq_getElem?_getD, List.getD_eq_getElem?_getD, List.getElem?_eq_getElem hi, List.getElem?_eq_getElem hj]; simpa using e)
  rw [h3] at h2; exact absurd h2 (by simp)
theorem orS_perm {l : List Int} (h : ordK l l.length = true) : (dlS (orS l l.length)).Perm l := by
  have hd : ∀ j, j < l.length → 0 ≤ l.getD j 0 ∧ l.getD j 0 ≤ 9 := fun j hj => (ordK_at h hj).1
  rw [List.perm_ext_iff_of_nodup (dlS_nd _) (ord_nd h)]
  intro x
  rw [mem_dlS]
  constructor
  · rintro ⟨j, hj, hb, rfl⟩
    rw [btN_bit, orS_bit] at hb
    obtain ⟨i, hi, he⟩ := hb
    have := hd i hi
    rw [List.getD_eq_getElem?_getD, List.getElem?_eq_getElem hi] at he this
    simp only [Option.getD_some] at he this
    have e : ((j : Nat) : Int) = l[i] := by omega
    rw [e]; exact List.getElem_mem hi
  · intro hx
    obtain ⟨i, hi, rfl⟩ := List.getElem_of_mem hx
    have := hd i hi
    rw [List.getD_eq_getElem?_getD, List.getElem?_eq_getElem hi] at this
    simp only [Option.getD_some] at this
    refine ⟨l[i].toNat, by omega, ?_, by omega⟩
    rw [btN_bit, orS_bit]
    exact ⟨i, hi, by rw [List.getD_eq_getElem?_getD, List.getElem?_eq_getElem hi]; rfl⟩
def Pw (back : Int) (s : Nat) (x : Int) : List Int := x :: FP back ((dlS s).erase x).length ((dlS s).erase x) x
def Cw (back : Int) (s : Nat) (x : Int) : Int := rv back ((dlS s).erase x) x
theorem Cw_bd (back : Int) (s : Nat) (x : Int) : 0 ≤ Cw back s x ∧ Cw back s x ≤ 77 := by
  have h := rv_nn back _ ((dlS s).erase x) x rfl
  have h2 := dlS_len s
  have h3 : ((dlS s).erase x).length ≤ (dlS s).length := List.length_erase_le
  unfold Cw; omega
theorem Pw_perm (back : Int) {s : Nat} {x : Int} (hx : x ∈ dlS s) : (Pw back s x).Perm (dlS s) := ((FP_ok back _ ((dlS s).erase x) x rfl).1.cons x).trans (List.perm_cons_erase hx).symm
theorem Pw_cost (back : Int) (s : Nat) (x : Int) : pE back x (FP back ((dlS s).erase x).length ((dlS s).erase x) x) = Cw back s x := (FP_ok back _ ((dlS s).erase x) x rfl).2
theorem pE_no (a : Int) (p : List Int) : pE (-1) a p = pS a p := by unfold pE bsE; simp
theorem ls_path (x : Int) (r : List Int) : lsC false (x :: r) = pE (-1) x r := by
  rw [pE_no]
  show cstK (x :: r) ((x :: r).length - 1) = _
  exact cst_path x r
theorem ls_ring {x : Int} (hx : 0 ≤ x) (r : List Int) : lsC true (x :: r) = pE x x r := by
  show cstK (x :: r) (r.length + 1) = _
  rw [cst_ring]; unfold pE bsE
  rw [if_pos hx]
def LoB (s k : Nat) (B : List Int) (c : Int) : Prop := (c = -1 ∧ B = [] ∧ ∀ x ∈ dlS s, (k : Int) ≤ x) ∨ ∃ x ∈ dlS s, x < k ∧ c = Cw (-1) s x ∧ B = Pw (-1) s x ∧ ∀ y ∈ dlS s, y < k → Cw (-1) s x ≤ Cw (-1) s y ∧ (Cw (-1) s x = Cw (-1) s y → x ≤ y)
theorem LoB_0 (s : Nat) : LoB s 0 [] (-1) := .inl ⟨rfl, rfl, fun x hx => (dlS_dig hx).1⟩
theorem LoB_c {s k : Nat} {B : List Int} {c : Int} (h : LoB s k B c) : -1 ≤ c ∧ c ≤ 77 ∧ B.length ≤ 10 := by
  rcases h with ⟨rfl, rfl, _⟩ | ⟨x, hx, _, rfl, rfl, _⟩
  · exact ⟨by omega, by omega, by simp⟩
  · have h1 := Cw_bd (-1) s x
    have h2 := (Pw_perm (-1) hx).length_eq
    have h3 := dlS_len s
    exact ⟨by omega, by omega, by omega⟩
theorem LoB_no {s k : Nat} {B : List Int} {c : Int} (h : LoB s k B c) (hb : ¬ (k : Int) ∈ dlS s) : LoB s (k + 1) B c := by
  have hne : ∀ y ∈ dlS s, y ≠ k := fun y hy e => hb (by rw [← e]; exact hy)
  rcases h with ⟨h1, h2, h3⟩ | ⟨x, hx, hk, h1, h2, h3⟩
  · refine .inl ⟨h1, h2, fun x hx => ?_⟩
    have := h3 x hx
    have := hne x hx
    omega
  · refine .inr ⟨x, hx, by omega, h1, h2, fun y hy hyk => h3 y hy ?_⟩
    have := hne y hy
    omega
theorem LoB_new {s k : Nat} {B : List Int} {c : Int} (h : LoB s k B c) (hb : (k : Int) ∈ dlS s) (hc : c < 0 ∨ Cw (-1) s k < c) : LoB s (k + 1) (Pw (-1) s k) (Cw (-1) s k) := by
  refine .inr ⟨k, hb, by omega, rfl, rfl, fun y hy hyk => ?_⟩
  by_cases e : y = k
  · subst e; exact ⟨Int.le_refl _, fun _ => Int.le_refl _⟩
  · rcases h with ⟨h1, h2, h3⟩ | ⟨x, hx, hk, h1, h2, h3⟩
    · have := h3 y hy; omega
    · have h4 := h3 y hy (by omega)
      have h5 := Cw_bd (-1) s x
      omega
theorem LoB_old {s k : Nat} {B : List Int} {c : Int} (h : LoB s k B c) (hb : (k : Int) ∈ dlS s) (hc : ¬ (c < 0 ∨ Cw (-1) s k < c)) : LoB s (k + 1) B c := by
  rcases h with ⟨h1, h2, h3⟩ | ⟨x, hx, hk, h1, h2, h3⟩
  · omega
  · refine .inr ⟨x, hx, by omega, h1, h2, fun y hy hyk => ?_⟩
    by_cases e : y = k
    · subst e; omega
    · exact h3 y hy (by omega)
theorem LoB_best {s : Nat} {l B : List Int} {c : Int} (h : LoB s 10 B c) (hp : (dlS s).Perm l) : BstAll (lsC false) (srt l) B ∧ (if 0 < c then c else 0) = lsC false B := by
  have hs := hp.trans (srt_perm l).symm
  rcases h with ⟨rfl, rfl, h3⟩ | ⟨x, hx, hk, rfl, rfl, h3⟩
  · have e : dlS s = [] := by
      cases hd : dlS s with
      | nil => rfl
      | cons a r =>
        have h1 := h3 a (by rw [hd]; simp)
        have h2 := dlS_dig (s := s) (x := a) (by rw [hd]; simp)
        omega
    rw [e] at hs
    have e2 := List.nil_perm.1 hs
    rw [e2]
    refine ⟨⟨List.Perm.refl _, fun b hb => ?_⟩, rfl⟩
    rw [List.perm_nil.1 hb]; exact .inr ⟨rfl, .inl rfl⟩
  · have hc : lsC false (Pw (-1) s x) = Cw (-1) s x := by
      unfold Pw; rw [ls_path, Pw_cost]
    have hcb := Cw_bd (-1) s x
    refine ⟨⟨(Pw_perm (-1) hx).trans hs, fun b hb => ?_⟩, by rw [hc]; split <;> omega⟩
    have hb2 : b.Perm (dlS s) := hb.trans hs.symm
    match b, hb2 with
    | [], hb2 => rw [List.nil_perm.1 hb2] at hx; simp at hx
    | y :: q, hb2 =>
      have hy : y ∈ dlS s := hb2.mem_iff.1 (by simp)
      have hq : q.Perm ((dlS s).erase y) := by have := hb2.erase y; simpa using this
      have hle := rv_le (-1) q ((dlS s).erase y) y hq
      have h4 := h3 y hy (by have := dlS_dig hy; omega)
      have hl : Cw (-1) s y ≤ lsC false (y :: q) := by rw [ls_path]; exact hle
      unfold Bet
      rw [hc]
      by_cases e : Cw (-1) s x = lsC false (y :: q)
      · right
        refine ⟨e, ?_⟩
        have h5 := h4.2 (by omega)
        by_cases e2 : x = y
        · subst e2
          rcases FP_first (-1) _ ((dlS s).erase x) x rfl ((dlS_asc s).sublist List.erase_sublist) q hq (by rw [← ls_path]; exact e.symm) with k | k
          · left; unfold Pw; rw [k]
          · right; exact .inr ⟨rfl, k⟩
        · right; exact .inl (by omega)
      · left; omega
theorem ring_best {s : Nat} {l : List Int} {m : Int} (hm : m ∈ dlS s) (hmin : ∀ y ∈ dlS s, m ≤ y) (hp : (dlS s).Perm l) : BstAll (lsC true) (srt l) (Pw m s m) ∧ Cw m s m = lsC true (Pw m s m) := by
  have hs := hp.trans (srt_perm l).symm
  have hm0 := (dlS_dig hm).1
  have hc : lsC true (Pw m s m) = Cw m s m := by
    unfold Pw; rw [ls_ring hm0, Pw_cost]
  refine ⟨⟨(Pw_perm m hm).trans hs, fun b hb => ?_⟩, hc.symm⟩
  have hb2 : b.Perm (dlS s) := hb.trans hs.symm
  unfold Bet
  rw [hc]
  match b, hb2 with
  | [], hb2 => rw [List.nil_perm.1 hb2] at hm; simp at hm
  | y :: q, hb2 =>
    have hy : y ∈ dlS s := hb2.mem_iff.1 (by simp)
    have hy0 := (dlS_dig hy).1
    by_cases e2 : m = y
    · subst e2
      have hq : q.Perm ((dlS s).erase m) := by have := hb2.erase m; simpa using this
      have hle := rv_le m q ((dlS s).erase m) m hq
      rw [ls_ring hy0]
      by_cases e : Cw m s m = pE m m q
      · right
        refine ⟨e, ?_⟩
        rcases FP_first m _ ((dlS s).erase m) m rfl ((dlS_asc s).sublist List.erase_sublist) q hq e.symm with k | k
        · left; unfold Pw; rw [k]
        · right; exact .inr ⟨rfl, k⟩
      · left; unfold Cw at e ⊢; omega
    · have hmy := hmin y hy
      have hmq : m ∈ q := by
        have := hb2.symm.mem_iff.1 hm
        rcases List.mem_cons.1 this with k | k
        · exact absurd k e2
        · exact k
      obtain ⟨q1, q2, rfl⟩ := List.append_of_mem hmq
      have hperm : (q2 ++ y :: q1).Perm ((dlS s).erase m) := by
        have h1 : (m :: (q2 ++ y :: q1)).Perm (y :: (q1 ++ m :: q2)) := by
          have a1 : (m :: q2 ++ (y :: q1)).Perm ((y :: q1) ++ (m :: q2)) := List.perm_append_comm
          exact a1
        have := (h1.trans hb2).erase m
        simpa using this
      have hle := rv_le m (q2 ++ y :: q1) ((dlS s).erase m) m hperm
      have hco : pE m m (q2 ++ y :: q1) = lsC true (y :: (q1 ++ m :: q2)) := by
        rw [ls_ring hy0]
        unfold pE bsE
        rw [if_pos hm0, if_pos hy0, pS_app, pS_app, pL_app, pL_app]
        simp only [pS, pL]
        omega
      rw [← hco]
      by_cases e : Cw m s m = pE m m (q2 ++ y :: q1)
      · exact .inr ⟨e, .inr (.inl (by omega))⟩
      · left; unfold Cw at e ⊢; omega
def mnK (back : Int) (s : Nat) (a : Int) : Nat → Int
  | 0 => if s = 0 then bsE back a else -1
  | k + 1 => if btN s k = true then (if mnK back s a k < 0 ∨ dgt a.toNat k + rv back (dlS (s ^^^ p2 k)) k < mnK back s a k then dgt a.toNat k + rv back (dlS (s ^^^ p2 k)) k else mnK back s a k) else mnK back s a k
theorem mnK_bd (back : Int) (s : Nat) (a : Int) : ∀ k, -1 ≤ mnK back s a k ∧ mnK back s a k ≤ 84
  | 0 => by
    have := bsE_nn back a
    unfold mnK; split <;> omega
  | k + 1 => by
    have h1 := mnK_bd back s a k
    have h2 := dgt_le a.toNat k
    have h3 := rv_nn back _ (dlS (s ^^^ p2 k)) k rfl
    have h4 := dlS_len (s ^^^ p2 k)
    unfold mnK
    split
    · split <;> omega
    · exact h1
theorem mnK_fold {back : Int} {s : Nat} {a : Int} (hs : s < 1024) (h0 : s ≠ 0) : ∀ k, k ≤ 10 → mnK back s a k = (((List.range k).filter (btN s)).map fun j : Nat => dgt a.toNat ((j : Nat) : Int).toNat + rv back ((dlS s).erase (j : Int)) (j : Int)).foldl (fun b c => if b < 0 ∨ c < b then c else b) (-1)
  | 0, _ => by unfold mnK; rw [if_neg h0]; rfl
  | k + 1, hk => by
    rw [mnK, mnK_fold hs h0 k (by omega), List.range_succ, List.filter_append, List.map_append, List.foldl_append]
    by_cases hb : btN s k = true
    · rw [if_pos hb, List.filter_cons_of_pos hb, (dlS_xor hs (by omega) hb).2]; rfl
    · rw [if_neg hb, List.filter_cons_of_neg hb]; rfl
theorem mnK_rv (back : Int) {s : Nat} (a : Int) (hs : s < 1024) : mnK back s a 10 = rv back (dlS s) a := by
  by_cases h0 : s = 0
  · subst h0
    have hb : ∀ k, btN 0 k = false := fun k => by rw [btN_bit]; exact Nat.zero_testBit k
    have : ∀ k, mnK back 0 a k = bsE back a := fun k => by
      induction k with
      | zero => unfold mnK; rw [if_pos rfl]
      | succ k ih => unfold mnK; rw [if_neg (by rw [hb k]; simp), ih]
    rw [this, dlS_0]; rfl
  · rw [mnK_fold hs h0 10 (by omega), rv_step a (fun e => h0 (dlS_nil hs e))]
    unfold mnF
    have e : (dlS s).map (fun x => dgt a.toNat x.toNat + rv back ((dlS s).erase x) x) = ((List.range 10).filter (btN s)).map fun j : Nat => dgt a.toNat ((j : Nat) : Int).toNat + rv back ((dlS s).erase (j : Int)) (j : Int) := by
      show List.map _ (List.map _ (dNs s)) = _
      rw [List.map_map]; rfl
    rw [e]
def TbK (back : Int) (tb : List Int) (n : Nat) : Prop := tb.length = 10240 ∧ ∀ k, k < n → tb.getD k 0 = rv back (dlS (k / 10)) ((k % 10 : Nat) : Int)
theorem TbK_at {back : Int} {tb : List Int} {n s j : Nat} (h : TbK back tb n) (hj : j < 10) (hn : s * 10 + j < n) (hs : n ≤ 10240) : (tb.map (PV.int .i64))[s * 10 + j * 1]? = some (.int .i64 (rv back (dlS s) (j : Int))) := by
  have h1 := h.2 (s * 10 + j) hn
  rw [show (s * 10 + j) / 10 = s by omega, show (s * 10 + j) % 10 = j by omega] at h1
  have h2 := get_map1 (PV.int .i64) 0 tb (k := s * 10 + j) (by rw [h.1]; omega)
  rw [Nat.mul_one] at h2
  rw [Nat.mul_one, h2, h1]
theorem TbK_put {back : Int} {tb : List Int} {s a p : Nat} {v : Int} (h : TbK back tb (s * 10 + a)) (ha : a < 10) (hs : s < 1024) (hp : p = s * 10 + a) (hv : v = rv back (dlS s) (a : Int)) : ∃ tb2 : List Int, putAt (tb.map (PV.int .i64)) p [PV.int .i64 v] = tb2.map (PV.int .i64) ∧ TbK back tb2 (s * 10 + (a + 1)) := by
  subst hp; subst hv
  refine ⟨tb.set (s * 10 + a) (rv back (dlS s) a), ?_, ?_, fun k hk => ?_⟩
  · have := put_map1 (PV.int .i64) tb (k := s * 10 + a) (v := rv back (dlS s) a) (by rw [h.1]; omega)
    rw [Nat.mul_one] at this
    exact this
  · rw [List.length_set]; exact h.1
  · by_cases e : k = s * 10 + a
    · subst e
      rw [List.getD_eq_getElem?_getD, List.getElem?_set_self (by rw [h.1]; omega), show (s * 10 + a) / 10 = s by omega, show (s * 10 + a) % 10 = a by omega]; rfl
    · rw [List.getD_eq_getElem?_getD, List.getElem?_set_ne (by omega), ← List.getD_eq_getElem?_getD]
      exact h.2 k (by omega)
theorem FP_hit {back : Int} {n : Nat} {L : List Int} {a x : Int} (hs : L.Pairwise (· < ·)) (hx : x ∈ L) (hq : dgt a.toNat x.toNat + rv back (L.erase x) x = rv back L a) (hlt : ∀ y ∈ L, y < x → ¬ dgt a.toNat y.toNat + rv back (L.erase y) y = rv back L a) : FP back (n + 1) L a = x :: FP back n (L.erase x) x := by
  have hf : L.find? (fun x => decide (dgt a.toNat x.toNat + rv back (L.erase x) x = rv back L a)) = some x := by
    obtain ⟨i, hi, hix⟩ := List.getElem_of_mem hx
    rw [List.find?_eq_some_iff_getElem]
    refine ⟨decide_eq_true hq, i, hi, hix, fun j hj => ?_⟩
    have hlt2 := List.pairwise_iff_getElem.1 hs j i (by omega) hi hj
    rw [hix] at hlt2
    have := hlt _ (List.getElem_mem (show j < L.length by omega)) hlt2
    simp [this]
  rw [FP, hf]
def WyK (back : Int) (s0 s : Nat) (st a : Int) (O : List Int) : Prop := O ++ FP back (dlS s).length (dlS s) a = st :: FP back (dlS s0).length (dlS s0) st
theorem WyK_0 (back : Int) (s0 : Nat) (st : Int) : WyK back s0 s0 st st [st] := rfl
theorem WyK_step {back : Int} {s0 s j : Nat} {st a : Int} {O : List Int} (h : WyK back s0 s st a O) (hs : s < 1024) (hj : j < 10) (hb : btN s j = true) (hq : dgt a.toNat j + rv back (dlS (s ^^^ p2 j)) j = rv back (dlS s) a) (hlt : ∀ i, i < j → btN s i = true → ¬ dgt a.toNat i + rv back (dlS (s ^^^ p2 i)) i = rv back (dlS s) a) : WyK back s0 (s ^^^ p2 j) st j (O ++ [(j : Int)]) := by
  have hx : (j : Int) ∈ dlS s := mem_dlS.2 ⟨j, hj, hb, rfl⟩
  obtain ⟨n, hn⟩ : ∃ n, (dlS s).length = n + 1 := ⟨(dlS s).length - 1, by have := List.length_pos_of_mem hx; omega⟩
  unfold WyK at h ⊢
  have hd := (dlS_xor hs hj hb).2
  have hf := FP_hit (n := n) (dlS_asc s) hx (by rw [← hd]; exact hq) (fun y hy hyx => by
    obtain ⟨i, hi, hbi, rfl⟩ := mem_dlS.1 hy
    rw [← (dlS_xor hs hi hbi).2]
    exact hlt i (by omega) hbi)
  rw [hn, hf] at h
  rw [hd, List.length_erase_of_mem hx, hn, List.append_assoc]
  exact h
theorem WyK_len {back : Int} {s0 s : Nat} {st a : Int} {O : List Int} (h : WyK back s0 s st a O) : O.length ≤ 11 := by
  unfold WyK at h
  have h1 := congrArg List.length h
  have h2 := (FP_ok back _ (dlS s0) st rfl).1.length_eq
  have h3 := dlS_len s0
  simp only [List.length_append, List.length_cons] at h1
  omega
theorem WyK_no {back : Int} {s : Nat} {a : Int} (hs : s < 1024) (h0 : s ≠ 0) : ∃ i, i < 10 ∧ btN s i = true ∧ dgt a.toNat i + rv back (dlS (s ^^^ p2 i)) i = rv back (dlS s) a := by
  obtain ⟨x, hx, he⟩ := rv_at (back := back) (a := a) (L := dlS s) (fun e => h0 (dlS_nil hs e))
  obtain ⟨i, hi, hb, rfl⟩ := mem_dlS.1 hx
  exact ⟨i, hi, hb, by rw [(dlS_xor hs hi hb).2]; exact he⟩
theorem WyK_end {back : Int} {s0 : Nat} {st a : Int} {O : List Int} (h : WyK back s0 0 st a O) : O = st :: FP back (dlS s0).length (dlS s0) st := by
  unfold WyK at h
  rw [dlS_0] at h
  simpa [FP] using h
theorem Pw_of {back : Int} {s j : Nat} (hs : s < 1024) (hj : j < 10) (hb : btN s j = true) : Pw back s j = (j : Int) :: FP back (dlS (s ^^^ p2 j)).length (dlS (s ^^^ p2 j)) j ∧ Cw back s j = rv back (dlS (s ^^^ p2 j)) j := by
  unfold Pw Cw
  rw [(dlS_xor hs hj hb).2]; exact ⟨rfl, rfl⟩
theorem btN_iff {s j : Nat} : ((((shN s j &&& 1 : Nat)) : Int) = 1) ↔ btN s j = true := by
  unfold btN
  rw [decide_eq_true_eq]; omega
theorem ten0 : ∀ m, m < 10 → ([PV.int .i64 0, PV.int .i64 0, PV.int .i64 0, PV.int .i64 0, PV.int .i64 0, PV.int .i64 0, PV.int .i64 0, PV.int .i64 0, PV.int .i64 0, PV.int .i64 0] : List PV).getD m (.bool false) = PV.int .i64 0
  | 0, _ => rfl | 1, _ => rfl | 2, _ => rfl | 3, _ => rfl | 4, _ => rfl | 5, _ => rfl | 6, _ => rfl | 7, _ => rfl | 8, _ => rfl | 9, _ => rfl
theorem zers10 (n : Nat) : zeros [PV.int .i64 0, PV.int .i64 0, PV.int .i64 0, PV.int .i64 0, PV.int .i64 0, PV.int .i64 0, PV.int .i64 0, PV.int .i64 0, PV.int .i64 0, PV.int .i64 0] n = (List.replicate (n * 10) (0 : Int)).map (PV.int .i64) := by
  have e : zeros [PV.int .i64 0, PV.int .i64 0, PV.int .i64 0, PV.int .i64 0, PV.int .i64 0, PV.int .i64 0, PV.int .i64 0, PV.int .i64 0, PV.int .i64 0, PV.int .i64 0] n = (List.range (n * 10)).map fun _ => PV.int .i64 0 := by
    unfold zeros
    apply List.map_congr_left
    intro j _
    exact ten0 _ (Nat.mod_lt _ (by decide))
  rw [e, List.map_const', List.length_range, List.map_replicate]
theorem tb_0 : ∃ tb : List Int, zeros [PV.int .i64 0, PV.int .i64 0, PV.int .i64 0, PV.int .i64 0, PV.int .i64 0, PV.int .i64 0, PV.int .i64 0, PV.int .i64 0, PV.int .i64 0, PV.int .i64 0] 1024 = tb.map (PV.int .i64) ∧ tb.length = 10240 := ⟨_, zers10 1024, List.length_replicate⟩
theorem TbK_ld {back : Int} {tb : List Int} {s : Nat} {a : Int} (h : TbK back tb 10240) (ha : 0 ≤ a ∧ a ≤ 9) (hs : s < 1024) : List.drop (a.toNat * 1) (List.drop (s * 10) (tb.map (PV.int .i64))) = PV.int .i64 (rv back (dlS s) a) :: (tb.map (PV.int .i64)).drop (s * 10 + a.toNat + 1) := by
  have h1 := h.2 (s * 10 + a.toNat) (by omega)
  rw [show (s * 10 + a.toNat) / 10 = s by omega, show (s * 10 + a.toNat) % 10 = a.toNat by omega, Int.toNat_of_nonneg ha.1] at h1
  have h2 := drop_map1 (PV.int .i64) 0 tb (k := s * 10 + a.toNat) (by rw [h.1]; omega)
  rw [Nat.mul_one] at h2
  rw [List.drop_drop, Nat.mul_one, h2, h1]
theorem shN_le9 (a k : Nat) : shN a k ≤ a := Nat.div_le_self _ _
theorem dgt_pos {a b : Nat} (ha : a < 10) (hb : b < 10) (h : a ≠ b) : 1 ≤ dgt a b := by
  have k : ∀ a b : Fin 10, a ≠ b → 1 ≤ dgt a.val b.val := by decide +kernel
  exact k ⟨a, ha⟩ ⟨b, hb⟩ (fun e => h (congrArg Fin.val e))
theorem lnk1_ok {l : List Int} (h : ordK l l.length = true) (r : Bool) : 2 ≤ l.length → ∀ b : List Int, b.Perm l → ∀ i, i < lnk b r → 1 ≤ dgt (b.getD i 0).toNat (b.getD ((i + 1) % b.length) 0).toNat := by
  intro h2 b hb i hi
  have hd : ∀ j, j < l.length → 0 ≤ l.getD j 0 ∧ l.getD j 0 ≤ 9 := fun j hj => (ordK_at h hj).1
  have hl := hb.length_eq
  have hle := lnk_le b r
  have hi1 : i < b.length := by omega
  have hi2 : (i + 1) % b.length < b.length := Nat.mod_lt _ (by omega)
  have hne : i ≠ (i + 1) % b.length := by
    by_cases e : i + 1 = b.length
    · rw [e, Nat.mod_self]; omega
    · rw [Nat.mod_eq_of_lt (by omega)]; omega
  have d1 := perm_dg hd hb hi1
  have d2 := perm_dg hd hb hi2
  have hnd : b.Nodup := hb.nodup_iff.2 (ord_nd h)
  refine dgt_pos (by omega) (by omega) fun e => hne ?_
  have e3 : b.getD i 0 = b.getD ((i + 1) % b.length) 0 := by omega
  rw [List.getD_eq_getElem?_getD, List.getD_eq_getElem?_getD, List.getElem?_eq_getElem hi1, List.getElem?_eq_getElem hi2] at e3
  simp only [Option.getD_some] at e3
  exact (List.getElem_inj hnd).1 e3
noncomputable def loB (l : List Int) (r : Bool) : List Int := open Classical in if h : ∃ b, BstAll (lsC r) (srt l) b then Classical.choose h else []
theorem loB_of {l b : List Int} {r : Bool} (h : BstAll (lsC r) (srt l) b) : loB l r = b := by
  unfold loB
  rw [dif_pos ⟨b, h⟩]
  exact bst_one (Classical.choose_spec (⟨b, h⟩ : ∃ b, BstAll (lsC r) (srt l) b)) h
noncomputable def loD (l : List Int) (r : Bool) : List Int := if ordK l l.length = true then loB l r else []
noncomputable def loV (l : List Int) (r : Bool) : Int := if ordK l l.length = true then lsC r (loB l r) else 0
theorem loD_len (l : List Int) (r : Bool) : (loD l r).length ≤ 10 := by
  unfold loD
  split
  · rename_i h
    have h1 := ord_len h
    have h2 := srt_len l
    unfold loB
    split
    · rename_i k
      have := (Classical.choose_spec k).1.length_eq
      omega
    · simp
  · simp
theorem ring_min {s : Nat} {j : Nat} (h : ∀ i, i < j → ¬ btN s i = true) : ∀ y ∈ dlS s, (j : Int) ≤ y := by
  intro y hy
  obtain ⟨i, hi, hb, rfl⟩ := mem_dlS.1 hy
  by_cases c : i < j
  · exact absurd hb (h i c)
  · omega
theorem ring_none {s : Nat} {l : List Int} (h : ∀ i, i < 10 → ¬ btN s i = true) (hp : (dlS s).Perm l) : BstAll (lsC true) (srt l) [] := by
  have e : dlS s = [] := by
    cases hd : dlS s with
    | nil => rfl
    | cons a r =>
      obtain ⟨i, hi, hb, _⟩ := mem_dlS.1 (show a ∈ dlS s by rw [hd]; simp)
      exact absurd hb (h i hi)
  have hs := hp.trans (srt_perm l).symm
  rw [e] at hs
  rw [List.nil_perm.1 hs]
  refine ⟨List.Perm.refl _, fun b hb => ?_⟩
  rw [List.perm_nil.1 hb]; exact .inr ⟨rfl, .inl rfl⟩
theorem LoB_noB {s k : Nat} {B : List Int} {c : Int} (h : LoB s k B c) (hb : ¬ btN s k = true) : LoB s (k + 1) B c := by
  refine LoB_no h fun z => ?_
  obtain ⟨i, hi, hbi, e⟩ := mem_dlS.1 z
  have e2 : k = i := by omega
  subst e2
  exact hb hbi
theorem tb_ex (back : Int) : ∃ tb : List Int, TbK back tb 10240 := by
  refine ⟨(List.range 10240).map fun k => rv back (dlS (k / 10)) ((k % 10 : Nat) : Int), by simp, fun k hk => ?_⟩
  rw [List.getD_eq_getElem?_getD, List.getElem?_map, List.getElem?_range hk]; rfl
noncomputable def tbF (back : Int) : List Int := Classical.choose (tb_ex back)
theorem tbF_ok (back : Int) : TbK back (tbF back) 10240 := Classical.choose_spec (tb_ex back)
theorem tbF_of {back : Int} {tb : List Int} (h : TbK back tb 10240) : tb = tbF back := by
  have h2 := tbF_ok back
  apply List.ext_getElem (by rw [h.1, h2.1])
  intro i h3 h4
  have e1 := h.2 i (by rw [h.1] at h3; exact h3)
  have e2 := h2.2 i (by rw [h.1] at h3; exact h3)
  rw [List.getD_eq_getElem?_getD, List.getElem?_eq_getElem h3] at e1
  rw [List.getD_eq_getElem?_getD, List.getElem?_eq_getElem h4] at e2
  simp only [Option.getD_some] at e1 e2
  rw [e1, e2]
theorem xbF {back : Int} {s : Nat} {n : Int} (hs : s < 1024) (h0 : 0 ≤ n ∧ n < 10) (hb : btN s n.toNat = true) : s ^^^ p2 n.toNat < s ∧ s ^^^ ((p2 n.toNat : Nat) : Int).toNat < s ∧ (0 ≤ rv back (dlS (s ^^^ p2 n.toNat)) n ∧ rv back (dlS (s ^^^ p2 n.toNat)) n ≤ 77) ∧ 0 ≤ rv back (dlS (s ^^^ p2 n.toNat)) ((n.toNat : Nat) : Int) ∧ rv back (dlS (s ^^^ p2 n.toNat)) ((n.toNat : Nat) : Int) ≤ 77 := by
  have h1 := (dlS_xor hs (by omega) hb).1
  have h2 := rv_nn back _ (dlS (s ^^^ p2 n.toNat)) n rfl
  have h3 := rv_nn back _ (dlS (s ^^^ p2 n.toNat)) ((n.toNat : Nat) : Int) rfl
  have h4 := dlS_len (s ^^^ p2 n.toNat)
  exact ⟨h1, h1, by omega, by omega⟩
set_option maxRecDepth 8000 in
set_option maxHeartbeats 4000000 in
theorem spec_l4Set (l : List Int) (hl : l.length ≤ 10) (hd : ∀ j, j < l.length → 0 ≤ l.getD j 0 ∧ l.getD j 0 ≤ 9) : PCalls Tryd.prog 30 [.sl l.length (l.map (.int .i64))] (· = [.val (.int .i64 (((orS l l.length : Nat) : Int)))]) := by
  refine pcalls_of_code (n := 19) az Tryd.func30 (by kernel_rfl) rfl rfl (Nat.le_of_ble_eq_true rfl) (by intro t u h; simp [Tryd.f30] at h) ?_
  refine code_seq (fun K1 hK1 => ?_)
  refine code_region ?_
  refine list_cons rfl (op_q (q_assign rfl (by decide)) ?_)
  refine list_nil ?_
  refine hK1 _ ?_; clear hK1 K1
  refine code_seq (fun K2 hK2 => ?_)
  refine code_region ?_
  refine list_cons rfl (op_q (q_assign rfl (by decide)) ?_)
  refine list_nil ?_
  refine hK2 _ ?_; clear hK2 K2
  refine code_seq (fun K3 hK3 => ?_)
  refine code_seq (fun K4 hK4 => ?_)
  refine code_region ?_
  refine list_cons rfl (op_q (q_assign rfl (by decide)) ?_)
  refine list_nil ?_
  refine hK4 _ ?_; clear hK4 K4
  refine code_block ?_
  refine code_loop (X := Int × Int × Int) (fun x => [(0, .par 0 (.sl l.length (l.map (.int .i64)))), (2, .val (.int .i64 x.1)), (3, .val (.int .i64 x.2.1)), (4, .val (.int .i64 x.2.2))]) (fun x => 0 ≤ x.2.2 ∧ x.2.2 ≤ l.length ∧ x.2.1 = ((orS l x.2.2.toNat : Nat) : Int)) (fun x => (l.length - x.2.2).toNat) (_, _, _) (imp_covers ⟨rfl, rfl, rfl, rfl, trivial⟩) ?_ ?_
  · (try dsimp only)
    exact ⟨by omega, by omega, rfl⟩
  · intro x hI
    obtain ⟨t2, set, i⟩ := x
    replace hI : 0 ≤ i ∧ i ≤ l.length ∧ set = ((orS l i.toNat : Nat) : Int) := hI
    show codeT _ _ _ [(0, .par 0 (.sl l.length (l.map (.int .i64)))), (2, .val (.int .i64 t2)), (3, .val (.int .i64 set)), (4, .val (.int .i64 i))] _
    obtain ⟨i1, i2, rfl⟩ := hI
    have hdi := fun h : i < l.length => hd i.toNat (by omega)
    have hor := orS_lt hd i.toNat (by omega)
    refine code_seq (fun K5 hK5 => ?_)
    refine code_seq (fun K6 hK6 => ?_)
    refine code_region ?_
    refine list_cons rfl (op_q (q_move rfl (by decide)) ?_)
    refine list_cons rfl (op_q (q_move rfl (by decide)) ?_)
    refine list_cons rfl (op_q (q_len_sl Tryd.underlying24 rfl rfl (by decide)) ?_)
    refine list_cons rfl (op_q (q_lt rfl rfl (by decide)) ?_)
    refine list_nil ?_
    refine hK6 _ ?_; clear hK6 K6
    refine code_cond_d rfl (fun h1 => ?_) (fun h1 => ?_)
    · skip
      (try have hp2 := p2_le (k := (l.getD i.toNat 0).toNat) (by omega))
      refine code_skip ?_
      refine hK5 _ ?_; clear hK5 K5
      refine code_seq (fun K7 hK7 => ?_)
      refine code_block ?_
      refine code_region ?_
      refine list_cons rfl (op_q (q_move rfl (by decide)) ?_)
      refine list_cons rfl (op_q (q_move rfl (by decide)) ?_)
      refine list_cons rfl (op_q (q_move rfl (by decide)) ?_)
      refine list_cons rfl (op_q (q_indexAddr_rd sl_24 rfl (.inl ⟨_, rfl, rfl⟩) rfl (by omega) (by omega) (by decide)) ?_)
      refine list_cons rfl (op_q (q_load_rd one_3 rfl (.inl ⟨_, (by first | rfl | exact congrArg (SV.rpar _) (drop_map1 _ 0 _ (by first | omega | (simp; omega)))), rfl⟩) (by decide)) ?_)
      refine list_cons rfl (op_q (by first | exact q_shl1 rfl rfl (by decide) (by omega) (by omega) | exact q_shlI rfl rfl (by decide) (by omega) (by omega) (by omega) | exact q_shl rfl rfl (by omega) (by decide)) ?_)
      refine list_cons rfl (op_q (by first | exact q_orI rfl rfl (by decide) (by omega) (by omega) (by omega) (by omega) | exact q_ib rfl rfl rfl (by decide)) ?_)
      refine list_cons rfl (op_q (q_assign rfl (by decide)) ?_)
      refine list_nil ?_
      refine blk_n ?_
      refine hK7 _ ?_; clear hK7 K7
      refine codeT.imp (σ' := [(0, _), (2, _), (3, _), (4, _)]) ?_ (imp_covers ⟨rfl, rfl, rfl, rfl, trivial⟩)
      refine code_region ?_
      refine list_cons rfl (op_q (q_move rfl (by decide)) ?_)
      refine list_cons rfl (op_q (by first | exact q_addI rfl rfl (by decide) (by omega) (by omega) | exact q_ib rfl rfl rfl (by decide)) ?_)
      refine list_cons rfl (op_q (q_assign rfl (by decide)) ?_)
      refine list_nil ?_
      refine then_n ⟨(_, _, _), imp_covers ⟨rfl, rfl, rfl, rfl, trivial⟩, ?_, ?_⟩
      · (try dsimp only)
        refine ⟨by omega, by omega, ?_⟩
        rw [show (i + 1).toNat = i.toNat + 1 by omega]
        first | rfl
      · (try dsimp only); omega
    (try have hp2 := p2_le (k := (l.getD i.toNat 0).toNat) (by omega))
    refine code_exit ?_
    refine then_x ?_; clear hK5 K5
    refine then_x ?_
    refine blk_hit ?_
    refine hK3 _ ?_; clear hK3 K3
    refine code_seq (fun K8 hK8 => ?_)
    refine code_region ?_
    refine list_cons rfl (op_q (q_move rfl (by decide)) ?_)
    refine list_cons rfl (op_q (q_assign rfl (by decide)) ?_)
    refine list_nil ?_
    refine hK8 _ ?_; clear hK8 K8
    refine code_ret ?_
    refine ends_ret (cs := []) rfl rfl rfl rfl trivial ?_
    rw [show i.toNat = l.length by omega]
set_option maxRecDepth 8000 in
set_option maxHeartbeats 4000000 in
theorem spec_l4Rest (back : Int) (hb : back ≤ 9) : PCalls Tryd.prog 31 [.int .i64 back] (fun rs => ∃ tb : List Int, TbK back tb 10240 ∧ rs = [.own 0 32 10 1024 (tb.map (.int .i64))]) := by
  refine pcalls_of_code (n := 62) az Tryd.func31 (by kernel_rfl) rfl rfl (Nat.le_of_ble_eq_true rfl) (by intro t u h; simp [Tryd.f31] at h) ?_
  obtain ⟨tb0, hz0, hl0⟩ := tb_0
  refine code_seq (fun K1 hK1 => ?_)
  refine code_region ?_
  refine list_cons rfl (op_q (q_assign rfl (by decide)) ?_)
  refine list_nil ?_
  refine hK1 _ ?_; clear hK1 K1
  refine code_seq (fun K2 hK2 => ?_)
  refine code_region ?_
  refine list_cons rfl (op_make (m := 1024) sl_51 rfl rfl (by omega) (by decide) (by decide) rfl ?_)
  refine list_cons rfl (op_q (q_assign rfl (by decide)) ?_)
  refine list_nil ?_
  refine hK2 _ ?_; clear hK2 K2
  refine codeT.imp (σ' := [(0, _), (2, _), (3, .own 9 32 10 1024 (tb0.map (.int .i64)))]) ?_ (imp_covers ⟨rfl, rfl, (congrArg (fun z => some (SV.own 9 32 10 1024 z)) hz0), trivial⟩)
  refine code_seq (fun K3 hK3 => ?_)
  refine code_seq (fun K4 hK4 => ?_)
  refine code_region ?_
  refine list_cons rfl (op_q (q_assign rfl (by decide)) ?_)
  refine list_nil ?_
  refine hK4 _ ?_; clear hK4 K4
  refine code_block ?_
  refine code_loop (X := PV × Nat × List PV × Int) (fun x => [(0, .val (.int .i64 back)), (2, .val x.1), (3, .own 9 32 10 x.2.1 x.2.2.1), (4, .val (.int .i64 x.2.2.2))]) (fun x => 0 ≤ x.2.2.2 ∧ x.2.2.2 ≤ 1024 ∧ x.2.1 = 1024 ∧ ∃ tb : List Int, x.2.2.1 = tb.map (.int .i64) ∧ TbK back tb (x.2.2.2.toNat * 10)) (fun x => (1024 - x.2.2.2).toNat) (_, _, _, _) (imp_covers ⟨rfl, rfl, rfl, rfl, trivial⟩) ?_ ?_
  · (try dsimp only)
    exact ⟨by omega, by omega, rfl, tb0, rfl, hl0, fun k hk => absurd hk (Nat.not_lt_zero _)⟩
  · intro x hI
    obtain ⟨t2_p, rest_n, rest_c, set⟩ := x
    replace hI : 0 ≤ set ∧ set ≤ 1024 ∧ rest_n = 1024 ∧ ∃ tb : List Int, rest_c = tb.map (.int .i64) ∧ TbK back tb (set.toNat * 10) := hI
    show codeT _ _ _ [(0, .val (.int .i64 back)), (2, .val t2_p), (3, .own 9 32 10 rest_n rest_c), (4, .val (.int .i64 set))] _
    obtain ⟨i1, i2, rfl, tb, rfl, hT⟩ := hI
    refine code_seq (fun K5 hK5 => ?_)
    refine code_seq (fun K6 hK6 => ?_)
    refine code_region ?_
    refine list_cons rfl (op_q (q_move rfl (by decide)) ?_)
    refine list_cons rfl (op_q (q_lt rfl rfl (by decide)) ?_)
    refine list_nil ?_
    refine hK6 _ ?_; clear hK6 K6
    refine code_cond_d rfl (fun h1 => ?_) (fun h1 => ?_)
    · skip
      (try simp only [Decidable.not_not] at h1); (try have hdg := dgt_le at_.toNat next.toNat); (try have hbt : btN set.toNat next.toNat = true := btN_iff.1 h1); (try have hbf : ¬ btN set.toNat next.toNat = true := fun z => h1 (btN_iff.2 z)); (try have hp2 := p2_le (k := next.toNat) (by omega)); (try (have hxb := xbF (back := back) (s := set.toNat) (by omega) (by omega) hbt; obtain ⟨hxr, hxr2, hrb, hrb3⟩ := hxb))
      refine code_skip ?_
      refine hK5 _ ?_; clear hK5 K5
      refine code_seq (fun K7 hK7 => ?_)
      refine code_block ?_
      refine code_seq (fun K8 hK8 => ?_)
      refine code_region ?_
      refine list_cons rfl (op_q (q_assign rfl (by decide)) ?_)
      refine list_nil ?_
      refine hK8 _ ?_; clear hK8 K8
      refine code_block ?_
      refine code_loop (X := PV × Nat × List PV × Int) (fun x => [(0, .val (.int .i64 back)), (2, .val x.1), (3, .own 9 32 10 x.2.1 x.2.2.1), (4, .val (.int .i64 (set))), (5, .val (.int .i64 x.2.2.2))]) (fun x => 0 ≤ x.2.2.2 ∧ x.2.2.2 ≤ 10 ∧ x.2.1 = 1024 ∧ ∃ tb : List Int, x.2.2.1 = tb.map (.int .i64) ∧ TbK back tb (set.toNat * 10 + x.2.2.2.toNat)) (fun x => (10 - x.2.2.2).toNat) (_, _, _, _) (imp_covers ⟨rfl, rfl, rfl, rfl, rfl, trivial⟩) ?_ ?_
      · (try dsimp only)
        exact ⟨by omega, by omega, rfl, tb, rfl, by rw [show set.toNat * 10 + (0 : Int).toNat = set.toNat * 10 by omega]; exact hT⟩
      · intro x hI
        obtain ⟨t2_p, rest_n, rest_c, at_⟩ := x
        replace hI : 0 ≤ at_ ∧ at_ ≤ 10 ∧ rest_n = 1024 ∧ ∃ tb : List Int, rest_c = tb.map (.int .i64) ∧ TbK back tb (set.toNat * 10 + at_.toNat) := hI
        show codeT _ _ _ [(0, .val (.int .i64 back)), (2, .val t2_p), (3, .own 9 32 10 rest_n rest_c), (4, .val (.int .i64 (set))), (5, .val (.int .i64 at_))] _
        clear hT
        obtain ⟨j1, j2, rfl, tb, rfl, hT⟩ := hI
        have hTl := hT.1
        have hat : ((at_.toNat : Nat) : Int) = at_ := by omega
        refine code_seq (fun K9 hK9 => ?_)
        refine code_seq (fun K10 hK10 => ?_)
        refine code_region ?_
        refine list_cons rfl (op_q (q_move rfl (by decide)) ?_)
        refine list_cons rfl (op_q (q_lt rfl rfl (by decide)) ?_)
        refine list_nil ?_
        refine hK10 _ ?_; clear hK10 K10
        refine code_cond_d rfl (fun h2 => ?_) (fun h2 => ?_)
        · skip
          (try simp only [Decidable.not_not] at h2); (try have hdg := dgt_le at_.toNat next.toNat); (try have hbt : btN set.toNat next.toNat = true := btN_iff.1 h2); (try have hbf : ¬ btN set.toNat next.toNat = true := fun z => h2 (btN_iff.2 z)); (try have hp2 := p2_le (k := next.toNat) (by omega)); (try (have hxb := xbF (back := back) (s := set.toNat) (by omega) (by omega) hbt; obtain ⟨hxr, hxr2, hrb, hrb3⟩ := hxb))
          refine code_skip ?_
          refine hK9 _ ?_; clear hK9 K9
          refine code_seq (fun K11 hK11 => ?_)
          refine code_block ?_
          refine code_seq (fun K12 hK12 => ?_)
          refine code_region ?_
          refine list_cons rfl (op_q (q_assign rfl (by decide)) ?_)
          refine list_nil ?_
          refine hK12 _ ?_; clear hK12 K12
          refine code_seq (fun K13 hK13 => ?_)
          refine code_seq (fun K14 hK14 => ?_)
          refine code_region ?_
          refine list_cons rfl (op_q (q_move rfl (by decide)) ?_)
          refine list_cons rfl (op_q (q_eq rfl rfl (by decide)) ?_)
          refine list_nil ?_
          refine hK14 _ ?_; clear hK14 K14
          refine code_cond_d rfl (fun h3 => ?_) (fun h3 => ?_)
          · skip
            (try simp only [Decidable.not_not] at h3); (try have hdg := dgt_le at_.toNat next.toNat); (try have hbt : btN set.toNat next.toNat = true := btN_iff.1 h3); (try have hbf : ¬ btN set.toNat next.toNat = true := fun z => h3 (btN_iff.2 z)); (try have hp2 := p2_le (k := next.toNat) (by omega)); (try (have hxb := xbF (back := back) (s := set.toNat) (by omega) (by omega) hbt; obtain ⟨hxr, hxr2, hrb, hrb3⟩ := hxb))
            refine code_seq (fun K15 hK15 => ?_)
            refine code_region ?_
            refine list_cons rfl (op_q (q_assign rfl (by decide)) ?_)
            refine list_nil ?_
            refine hK15 _ ?_; clear hK15 K15
            refine code_seq (fun K16 hK16 => ?_)
            refine code_region ?_
            refine list_cons rfl (op_q (q_move rfl (by decide)) ?_)
            refine list_cons rfl (op_q (q_ge rfl rfl (by decide)) ?_)
            refine list_nil ?_
            refine hK16 _ ?_; clear hK16 K16
            refine code_cond_d rfl (fun h4 => ?_) (fun h4 => ?_)
            · skip
              (try simp only [Decidable.not_not] at h4); (try have hdg := dgt_le at_.toNat next.toNat); (try have hbt : btN set.toNat next.toNat = true := btN_iff.1 h4); (try have hbf : ¬ btN set.toNat next.toNat = true := fun z => h4 (btN_iff.2 z)); (try have hp2 := p2_le (k := next.toNat) (by omega)); (try (have hxb := xbF (back := back) (s := set.toNat) (by omega) (by omega) hbt; obtain ⟨hxr, hxr2, hrb, hrb3⟩ := hxb))
              refine code_region ?_
              refine list_cons rfl (op_q (q_move rfl (by decide)) ?_)
              refine list_cons rfl (op_q (q_move rfl (by decide)) ?_)
              refine list_cons rfl (op_call _ (spec_l4Digits _ _ (by omega) (by omega)) rfl rfl (by decide) (by decide) (by decide) rfl ?_)
              rintro _ rfl; (try have hdg := dgt_le at_.toNat next.toNat)
              refine list_cons rfl (op_q (q_assign rfl (by decide)) ?_)
              refine list_nil ?_
              refine hK13 _ ?_; clear hK13 K13
              refine codeT.imp (σ' := [(0, _), (2, _), (3, _), (4, _), (5, _), (6, _)]) ?_ (imp_covers ⟨rfl, rfl, rfl, rfl, rfl, rfl, trivial⟩)
              refine code_seq (fun K17 hK17 => ?_)
              refine code_seq (fun K18 hK18 => ?_)
              refine code_region ?_
              refine list_cons rfl (op_q (q_assign rfl (by decide)) ?_)
              refine list_nil ?_
              refine hK18 _ ?_; clear hK18 K18
              refine code_block ?_
              refine code_loop (X := PV × Int × Int) (fun x => [(0, .val (.int .i64 back)), (2, .val x.1), (3, .own 9 32 10 1024 (tb.map (.int .i64))), (4, .val (.int .i64 (set))), (5, .val (.int .i64 (at_))), (6, .val (.int .i64 x.2.1)), (7, .val (.int .i64 x.2.2))]) (fun x => 0 ≤ x.2.2 ∧ x.2.2 ≤ 10 ∧ x.2.1 = mnK back set.toNat at_ x.2.2.toNat) (fun x => (10 - x.2.2).toNat) (_, _, _) (imp_covers ⟨rfl, rfl, rfl, rfl, rfl, rfl, rfl, trivial⟩) ?_ ?_
              · (try dsimp only)
                refine ⟨by omega, by omega, ?_⟩
                show _ = mnK back set.toNat at_ 0
                unfold mnK bsE
                first
                | (rw [if_pos (by omega), if_pos (by assumption)]; rfl)
                | (rw [if_pos (by omega), if_pos (by assumption)]; done)
                | (rw [if_pos (by omega), if_neg (by assumption)]; done)
                | (rw [if_neg (by omega)]; done)
              · intro x hI
                obtain ⟨t2_p, best, next⟩ := x
                replace hI : 0 ≤ next ∧ next ≤ 10 ∧ best = mnK back set.toNat at_ next.toNat := hI
                show codeT _ _ _ [(0, .val (.int .i64 back)), (2, .val t2_p), (3, .own 9 32 10 1024 (tb.map (.int .i64))), (4, .val (.int .i64 (set))), (5, .val (.int .i64 (at_))), (6, .val (.int .i64 best)), (7, .val (.int .i64 next))] _
                obtain ⟨k1, k2, k3⟩ := hI
                have hmb := mnK_bd back set.toNat at_ next.toNat
                have hsh := shN_le9 set.toNat next.toNat
                have hnx : ((next.toNat : Nat) : Int) = next := by omega
                refine code_seq (fun K19 hK19 => ?_)
                refine code_seq (fun K20 hK20 => ?_)
                refine code_region ?_
                refine list_cons rfl (op_q (q_move rfl (by decide)) ?_)
                refine list_cons rfl (op_q (q_lt rfl rfl (by decide)) ?_)
                refine list_nil ?_
                refine hK20 _ ?_; clear hK20 K20
                refine code_cond_d rfl (fun h5 => ?_) (fun h5 => ?_)
                · skip
                  (try simp only [Decidable.not_not] at h5); (try have hdg := dgt_le at_.toNat next.toNat); (try have hbt : btN set.toNat next.toNat = true := btN_iff.1 h5); (try have hbf : ¬ btN set.toNat next.toNat = true := fun z => h5 (btN_iff.2 z)); (try have hp2 := p2_le (k := next.toNat) (by omega)); (try (have hxb := xbF (back := back) (s := set.toNat) (by omega) (by omega) hbt; obtain ⟨hxr, hxr2, hrb, hrb3⟩ := hxb))
                  refine code_skip ?_
                  refine hK19 _ ?_; clear hK19 K19
                  refine code_seq (fun K21 hK21 => ?_)
                  refine code_block ?_
                  refine code_seq (fun K22 hK22 => ?_)
                  refine code_region ?_
                  refine list_cons rfl (op_q (q_move rfl (by decide)) ?_)
                  refine list_cons rfl (op_q (q_move rfl (by decide)) ?_)
                  refine list_cons rfl (op_q (by first | exact q_shrN rfl rfl (by decide) (by omega) (by omega) (by omega) | exact q_shrI rfl rfl (by decide) (by omega) (by omega) (by omega) | exact q_shr rfl rfl (by omega) (by decide)) ?_)
                  refine list_cons rfl (op_q (by first | exact q_andI rfl rfl (by decide) (by omega) (by omega) (by omega) (by omega) | exact q_ib rfl rfl rfl (by decide)) ?_)
                  refine list_cons rfl (op_q (q_eq rfl rfl (by decide)) ?_)
                  refine list_nil ?_
                  refine hK22 _ ?_; clear hK22 K22
                  refine code_cond_d rfl (fun h6 => ?_) (fun h6 => ?_)
                  · skip
                    (try simp only [Decidable.not_not] at h6); (try have hdg := dgt_le at_.toNat next.toNat); (try have hbt : btN set.toNat next.toNat = true := btN_iff.1 h6); (try have hbf : ¬ btN set.toNat next.toNat = true := fun z => h6 (btN_iff.2 z)); (try have hp2 := p2_le (k := next.toNat) (by omega)); (try (have hxb := xbF (back := back) (s := set.toNat) (by omega) (by omega) hbt; obtain ⟨hxr, hxr2, hrb, hrb3⟩ := hxb))
                    refine code_seq (fun K23 hK23 => ?_)
                    refine code_draw (by kernel_rfl) (by kernel_rfl) ?_
                    refine draw_q rfl (q_move rfl (by decide)) ?_
                    refine draw_q rfl (q_move rfl (by decide)) ?_
                    refine draw_call _ (spec_l4Digits _ _ (by omega) (by omega)) rfl rfl rfl (by decide) ?_
                    refine draw_q rfl (q_move rfl (by decide)) ?_
                    refine draw_q rfl (q_move rfl (by decide)) ?_
                    refine draw_q rfl (q_move rfl (by decide)) ?_
                    refine draw_q rfl (by first | exact q_shl1 rfl rfl (by decide) (by omega) (by omega) | exact q_shlI rfl rfl (by decide) (by omega) (by omega) (by omega) | exact q_shl rfl rfl (by omega) (by decide)) ?_
                    refine draw_q rfl (by first | exact q_xorI rfl rfl (by decide) (by omega) (by omega) (by omega) (by omega) | exact q_ib rfl rfl rfl (by decide)) ?_
                    refine draw_q rfl (q_move rfl (by decide)) ?_
                    refine draw_q rfl (q_indexAddr_own sl_51 rfl rfl (by omega) (by omega) (by decide)) ?_
                    refine draw_q rfl (q_indexAddr_arr arr_32 rfl rfl rfl (by omega) (by omega) (by decide)) ?_
                    refine draw_q rfl (q_load one_3 3 rfl rfl rfl (TbK_at (s := set.toNat ^^^ p2 next.toNat) (j := next.toNat) hT (by omega) (by omega) (by omega)) (by decide)) ?_
                    refine draw_q rfl (by first | exact q_addI rfl rfl (by decide) (by omega) (by omega) | exact q_ib rfl rfl rfl (by decide)) ?_
                    refine draw_q rfl (q_assign rfl (by decide)) ?_
                    refine draw_nil ?_
                    refine hK23 _ ?_; clear hK23 K23
                    refine codeT.imp (σ' := [(0, _), (2, _), (3, _), (4, _), (5, _), (6, _), (7, _), (8, _)]) ?_ (imp_covers ⟨rfl, rfl, rfl, rfl, rfl, rfl, rfl, rfl, trivial⟩)
                    refine code_seq (fun K24 hK24 => ?_)
                    refine code_region ?_
                    refine list_cons rfl (op_q (q_move rfl (by decide)) ?_)
                    refine list_cons rfl (op_q (q_lt rfl rfl (by decide)) ?_)
                    refine list_cons rfl (op_q (q_move rfl (by decide)) ?_)
                    refine list_guard_d rfl rfl rfl rfl (by decide) rfl (by decide) (fun h7 => ?_) (fun h7 => ?_)
                    · simp only [Bool.false_eq_true, if_true, if_false, Decidable.not_not] at h7
                      (try simp only [Decidable.not_not] at h7); (try have hdg := dgt_le at_.toNat next.toNat); (try have hbt : btN set.toNat next.toNat = true := btN_iff.1 h7); (try have hbf : ¬ btN set.toNat next.toNat = true := fun z => h7 (btN_iff.2 z)); (try have hp2 := p2_le (k := next.toNat) (by omega)); (try (have hxb := xbF (back := back) (s := set.toNat) (by omega) (by omega) hbt; obtain ⟨hxr, hxr2, hrb, hrb3⟩ := hxb))
                      refine id (op_q (q_move rfl (by decide)) ?_)
                      refine list_guard_y rfl rfl rfl rfl (by decide) rfl ?_
                      refine id (op_q (q_move rfl (by decide)) ?_)
                      refine list_guard_y rfl rfl rfl rfl (by decide) rfl ?_
                      refine id (op_q (q_lt rfl rfl (by decide)) ?_)
                      refine list_cons rfl (op_q (q_pick rfl rfl (by decide)) ?_)
                      refine list_nil ?_
                      refine hK24 _ ?_; clear hK24 K24
                      refine code_cond_d rfl (fun h8 => ?_) (fun h8 => ?_)
                      · skip
                        (try simp only [Decidable.not_not] at h8); (try have hdg := dgt_le at_.toNat next.toNat); (try have hbt : btN set.toNat next.toNat = true := btN_iff.1 h8); (try have hbf : ¬ btN set.toNat next.toNat = true := fun z => h8 (btN_iff.2 z)); (try have hp2 := p2_le (k := next.toNat) (by omega)); (try (have hxb := xbF (back := back) (s := set.toNat) (by omega) (by omega) hbt; obtain ⟨hxr, hxr2, hrb, hrb3⟩ := hxb))
                        refine code_region ?_
                        refine list_cons rfl (op_q (q_move rfl (by decide)) ?_)
                        refine list_cons rfl (op_q (q_assign rfl (by decide)) ?_)
                        refine list_nil ?_
                        refine blk_n ?_
                        refine hK21 _ ?_; clear hK21 K21
                        refine codeT.imp (σ' := [(0, _), (2, _), (3, _), (4, _), (5, _), (6, _), (7, _), (8, _)]) ?_ (imp_covers ⟨rfl, rfl, rfl, rfl, rfl, rfl, rfl, rfl, trivial⟩)
                        refine code_region ?_
                        refine list_cons rfl (op_q (q_move rfl (by decide)) ?_)
                        refine list_cons rfl (op_q (by first | exact q_addI rfl rfl (by decide) (by omega) (by omega) | exact q_ib rfl rfl rfl (by decide)) ?_)
                        refine list_cons rfl (op_q (q_assign rfl (by decide)) ?_)
                        refine list_nil ?_
                        refine then_n ⟨(_, _, _), imp_covers ⟨rfl, rfl, rfl, rfl, rfl, rfl, rfl, trivial⟩, ?_, ?_⟩
                        · (try dsimp only)
                          refine ⟨by omega, by omega, ?_⟩
                          rw [show (next + 1).toNat = next.toNat + 1 by omega, mnK]
                          first
                          | (rw [if_neg hbf]; exact k3)
                          | (rw [if_pos hbt, if_pos (by rw [← k3]; first | exact .inl (by assumption) | exact .inr (by assumption))]; done)
                          | (rw [if_pos hbt, if_neg (by rw [← k3]; omega)]; exact k3)
                        · (try dsimp only); omega
                      (try simp only [Decidable.not_not] at h8); (try have hdg := dgt_le at_.toNat next.toNat); (try have hbt : btN set.toNat next.toNat = true := btN_iff.1 h8); (try have hbf : ¬ btN set.toNat next.toNat = true := fun z => h8 (btN_iff.2 z)); (try have hp2 := p2_le (k := next.toNat) (by omega)); (try (have hxb := xbF (back := back) (s := set.toNat) (by omega) (by omega) hbt; obtain ⟨hxr, hxr2, hrb, hrb3⟩ := hxb))
                      refine code_skip ?_
                      refine blk_n ?_
                      refine hK21 _ ?_; clear hK21 K21
                      refine codeT.imp (σ' := [(0, _), (2, _), (3, _), (4, _), (5, _), (6, _), (7, _), (8, _)]) ?_ (imp_covers ⟨rfl, rfl, rfl, rfl, rfl, rfl, rfl, rfl, trivial⟩)
                      refine code_region ?_
                      refine list_cons rfl (op_q (q_move rfl (by decide)) ?_)
                      refine list_cons rfl (op_q (by first | exact q_addI rfl rfl (by decide) (by omega) (by omega) | exact q_ib rfl rfl rfl (by decide)) ?_)
                      refine list_cons rfl (op_q (q_assign rfl (by decide)) ?_)
                      refine list_nil ?_
                      refine then_n ⟨(_, _, _), imp_covers ⟨rfl, rfl, rfl, rfl, rfl, rfl, rfl, trivial⟩, ?_, ?_⟩
                      · (try dsimp only)
                        refine ⟨by omega, by omega, ?_⟩
                        rw [show (next + 1).toNat = next.toNat + 1 by omega, mnK]
                        first
                        | (rw [if_neg hbf]; exact k3)
                        | (rw [if_pos hbt, if_pos (by rw [← k3]; first | exact .inl (by assumption) | exact .inr (by assumption))]; done)
                        | (rw [if_pos hbt, if_neg (by rw [← k3]; omega)]; exact k3)
                      · (try dsimp only); omega
                    simp only [Bool.false_eq_true, if_true, if_false, Decidable.not_not] at h7
                    (try simp only [Decidable.not_not] at h7); (try have hdg := dgt_le at_.toNat next.toNat); (try have hbt : btN set.toNat next.toNat = true := btN_iff.1 h7); (try have hbf : ¬ btN set.toNat next.toNat = true := fun z => h7 (btN_iff.2 z)); (try have hp2 := p2_le (k := next.toNat) (by omega)); (try (have hxb := xbF (back := back) (s := set.toNat) (by omega) (by omega) hbt; obtain ⟨hxr, hxr2, hrb, hrb3⟩ := hxb))
                    refine list_guard_n rfl rfl rfl rfl (by decide) rfl ?_
                    refine list_guard_n rfl rfl rfl rfl (by decide) rfl ?_
                    refine list_cons rfl (op_q (q_pick rfl rfl (by decide)) ?_)
                    refine list_nil ?_
                    refine hK24 _ ?_; clear hK24 K24
                    refine code_cond_t rfl ?_
                    refine code_region ?_
                    refine list_cons rfl (op_q (q_move rfl (by decide)) ?_)
                    refine list_cons rfl (op_q (q_assign rfl (by decide)) ?_)
                    refine list_nil ?_
                    refine blk_n ?_
                    refine hK21 _ ?_; clear hK21 K21
                    refine code_region ?_
                    refine list_cons rfl (op_q (q_move rfl (by decide)) ?_)
                    refine list_cons rfl (op_q (by first | exact q_addI rfl rfl (by decide) (by omega) (by omega) | exact q_ib rfl rfl rfl (by decide)) ?_)
                    refine list_cons rfl (op_q (q_assign rfl (by decide)) ?_)
                    refine list_nil ?_
                    refine then_n ⟨(_, _, _), imp_covers ⟨rfl, rfl, rfl, rfl, rfl, rfl, rfl, trivial⟩, ?_, ?_⟩
                    · (try dsimp only)
                      refine ⟨by omega, by omega, ?_⟩
                      rw [show (next + 1).toNat = next.toNat + 1 by omega, mnK]
                      first
                      | (rw [if_neg hbf]; exact k3)
                      | (rw [if_pos hbt, if_pos (by rw [← k3]; first | exact .inl (by assumption) | exact .inr (by assumption))]; done)
                      | (rw [if_pos hbt, if_neg (by rw [← k3]; omega)]; exact k3)
                    · (try dsimp only); omega
                  (try simp only [Decidable.not_not] at h6); (try have hdg := dgt_le at_.toNat next.toNat); (try have hbt : btN set.toNat next.toNat = true := btN_iff.1 h6); (try have hbf : ¬ btN set.toNat next.toNat = true := fun z => h6 (btN_iff.2 z)); (try have hp2 := p2_le (k := next.toNat) (by omega)); (try (have hxb := xbF (back := back) (s := set.toNat) (by omega) (by omega) hbt; obtain ⟨hxr, hxr2, hrb, hrb3⟩ := hxb))
                  refine code_skip ?_
                  refine blk_n ?_
                  refine hK21 _ ?_; clear hK21 K21
                  refine codeT.imp (σ' := [(0, _), (2, _), (3, _), (4, _), (5, _), (6, _), (7, _)]) ?_ (imp_covers ⟨rfl, rfl, rfl, rfl, rfl, rfl, rfl, trivial⟩)
                  refine code_region ?_
                  refine list_cons rfl (op_q (q_move rfl (by decide)) ?_)
                  refine list_cons rfl (op_q (by first | exact q_addI rfl rfl (by decide) (by omega) (by omega) | exact q_ib rfl rfl rfl (by decide)) ?_)
                  refine list_cons rfl (op_q (q_assign rfl (by decide)) ?_)
                  refine list_nil ?_
                  refine then_n ⟨(_, _, _), imp_covers ⟨rfl, rfl, rfl, rfl, rfl, rfl, rfl, trivial⟩, ?_, ?_⟩
                  · (try dsimp only)
                    refine ⟨by omega, by omega, ?_⟩
                    rw [show (next + 1).toNat = next.toNat + 1 by omega, mnK]
                    first
                    | (rw [if_neg hbf]; exact k3)
                    | (rw [if_pos hbt, if_pos (by rw [← k3]; first | exact .inl (by assumption) | exact .inr (by assumption))]; done)
                    | (rw [if_pos hbt, if_neg (by rw [← k3]; omega)]; exact k3)
                  · (try dsimp only); omega
                (try simp only [Decidable.not_not] at h5); (try have hdg := dgt_le at_.toNat next.toNat); (try have hbt : btN set.toNat next.toNat = true := btN_iff.1 h5); (try have hbf : ¬ btN set.toNat next.toNat = true := fun z => h5 (btN_iff.2 z)); (try have hp2 := p2_le (k := next.toNat) (by omega)); (try (have hxb := xbF (back := back) (s := set.toNat) (by omega) (by omega) hbt; obtain ⟨hxr, hxr2, hrb, hrb3⟩ := hxb))
                refine code_exit ?_
                refine then_x ?_; clear hK19 K19
                refine then_x ?_
                refine blk_hit ?_
                refine hK17 _ ?_; clear hK17 K17
                refine code_region ?_
                refine list_cons rfl (op_q (q_move rfl (by decide)) ?_)
                refine list_cons rfl (op_q (q_move rfl (by decide)) ?_)
                refine list_cons rfl (op_q (q_move rfl (by decide)) ?_)
                refine list_cons rfl (op_q (q_move rfl (by decide)) ?_)
                refine list_cons rfl (op_q (q_indexAddr_own sl_51 rfl rfl (by omega) (by omega) (by decide)) ?_)
                refine list_cons rfl (op_q (q_indexAddr_arr arr_32 rfl rfl rfl (by omega) (by omega) (by decide)) ?_)
                refine list_cons rfl (op_store (one_3).2 3 [3, 55] (by intro t ht; simp only [List.mem_cons, List.not_mem_nil, or_false] at ht; rcases ht with rfl | rfl <;> rfl) (.inl rfl) rfl rfl rfl rfl rfl rfl (by first | decide | omega | exact Nat.le_refl _ | (simp; done) | (simp; omega)) (by decide) rfl ?_)
                refine list_nil ?_
                refine blk_n ?_
                refine hK11 _ ?_; clear hK11 K11
                refine codeT.imp (σ' := [(0, _), (2, _), (3, _), (4, _), (5, _), (6, _), (7, _)]) ?_ (imp_covers ⟨rfl, rfl, rfl, rfl, rfl, rfl, rfl, trivial⟩)
                refine code_region ?_
                refine list_cons rfl (op_q (q_move rfl (by decide)) ?_)
                refine list_cons rfl (op_q (by first | exact q_addI rfl rfl (by decide) (by omega) (by omega) | exact q_ib rfl rfl rfl (by decide)) ?_)
                refine list_cons rfl (op_q (q_assign rfl (by decide)) ?_)
                refine list_nil ?_
                refine then_n ⟨(_, _, _, _), imp_covers ⟨rfl, rfl, rfl, rfl, rfl, trivial⟩, ?_, ?_⟩
                · (try dsimp only)
                  have hv : best = rv back (dlS set.toNat) ((at_.toNat : Nat) : Int) := by
                    rw [hat, ← mnK_rv back at_ (by omega), k3, show next.toNat = 10 by omega]
                  obtain ⟨tb2, e2, hT2⟩ := TbK_put (p := set.toNat * 10 + at_.toNat * 1) (v := best) hT (by omega) (by omega) (by omega) hv
                  exact ⟨by omega, by omega, rfl, tb2, e2, by rw [show (at_ + 1).toNat = at_.toNat + 1 by omega]; exact hT2⟩
                · (try dsimp only); omega
            (try simp only [Decidable.not_not] at h4); (try have hdg := dgt_le at_.toNat next.toNat); (try have hbt : btN set.toNat next.toNat = true := btN_iff.1 h4); (try have hbf : ¬ btN set.toNat next.toNat = true := fun z => h4 (btN_iff.2 z)); (try have hp2 := p2_le (k := next.toNat) (by omega)); (try (have hxb := xbF (back := back) (s := set.toNat) (by omega) (by omega) hbt; obtain ⟨hxr, hxr2, hrb, hrb3⟩ := hxb))
            refine code_skip ?_
            refine hK13 _ ?_; clear hK13 K13
            refine code_seq (fun K25 hK25 => ?_)
            refine code_seq (fun K26 hK26 => ?_)
            refine code_region ?_
            refine list_cons rfl (op_q (q_assign rfl (by decide)) ?_)
            refine list_nil ?_
            refine hK26 _ ?_; clear hK26 K26
            refine code_block ?_
            refine code_loop (X := PV × Int × Int) (fun x => [(0, .val (.int .i64 back)), (2, .val x.1), (3, .own 9 32 10 1024 (tb.map (.int .i64))), (4, .val (.int .i64 (set))), (5, .val (.int .i64 (at_))), (6, .val (.int .i64 x.2.1)), (7, .val (.int .i64 x.2.2))]) (fun x => 0 ≤ x.2.2 ∧ x.2.2 ≤ 10 ∧ x.2.1 = mnK back set.toNat at_ x.2.2.toNat) (fun x => (10 - x.2.2).toNat) (_, _, _) (imp_covers ⟨rfl, rfl, rfl, rfl, rfl, rfl, rfl, trivial⟩) ?_ ?_
            · (try dsimp only)
              refine ⟨by omega, by omega, ?_⟩
              show _ = mnK back set.toNat at_ 0
              unfold mnK bsE
              first
              | (rw [if_pos (by omega), if_pos (by assumption)]; rfl)
              | (rw [if_pos (by omega), if_pos (by assumption)]; done)
              | (rw [if_pos (by omega), if_neg (by assumption)]; done)
              | (rw [if_neg (by omega)]; done)
            · intro x hI
              obtain ⟨t2_p, best, next⟩ := x
              replace hI : 0 ≤ next ∧ next ≤ 10 ∧ best = mnK back set.toNat at_ next.toNat := hI
              show codeT _ _ _ [(0, .val (.int .i64 back)), (2, .val t2_p), (3, .own 9 32 10 1024 (tb.map (.int .i64))), (4, .val (.int .i64 (set))), (5, .val (.int .i64 (at_))), (6, .val (.int .i64 best)), (7, .val (.int .i64 next))] _
              obtain ⟨k1, k2, k3⟩ := hI
              have hmb := mnK_bd back set.toNat at_ next.toNat
              have hsh := shN_le9 set.toNat next.toNat
              have hnx : ((next.toNat : Nat) : Int) = next := by omega
              refine code_seq (fun K27 hK27 => ?_)
              refine code_seq (fun K28 hK28 => ?_)
              refine code_region ?_
              refine list_cons rfl (op_q (q_move rfl (by decide)) ?_)
              refine list_cons rfl (op_q (q_lt rfl rfl (by decide)) ?_)
              refine list_nil ?_
              refine hK28 _ ?_; clear hK28 K28
              refine code_cond_d rfl (fun h9 => ?_) (fun h9 => ?_)
              · skip
                (try simp only [Decidable.not_not] at h9); (try have hdg := dgt_le at_.toNat next.toNat); (try have hbt : btN set.toNat next.toNat = true := btN_iff.1 h9); (try have hbf : ¬ btN set.toNat next.toNat = true := fun z => h9 (btN_iff.2 z)); (try have hp2 := p2_le (k := next.toNat) (by omega)); (try (have hxb := xbF (back := back) (s := set.toNat) (by omega) (by omega) hbt; obtain ⟨hxr, hxr2, hrb, hrb3⟩ := hxb))
                refine code_skip ?_
                refine hK27 _ ?_; clear hK27 K27
                refine code_seq (fun K29 hK29 => ?_)
                refine code_block ?_
                refine code_seq (fun K30 hK30 => ?_)
                refine code_region ?_
                refine list_cons rfl (op_q (q_move rfl (by decide)) ?_)
                refine list_cons rfl (op_q (q_move rfl (by decide)) ?_)
                refine list_cons rfl (op_q (by first | exact q_shrN rfl rfl (by decide) (by omega) (by omega) (by omega) | exact q_shrI rfl rfl (by decide) (by omega) (by omega) (by omega) | exact q_shr rfl rfl (by omega) (by decide)) ?_)
                refine list_cons rfl (op_q (by first | exact q_andI rfl rfl (by decide) (by omega) (by omega) (by omega) (by omega) | exact q_ib rfl rfl rfl (by decide)) ?_)
                refine list_cons rfl (op_q (q_eq rfl rfl (by decide)) ?_)
                refine list_nil ?_
                refine hK30 _ ?_; clear hK30 K30
                refine code_cond_d rfl (fun h10 => ?_) (fun h10 => ?_)
                · skip
                  (try simp only [Decidable.not_not] at h10); (try have hdg := dgt_le at_.toNat next.toNat); (try have hbt : btN set.toNat next.toNat = true := btN_iff.1 h10); (try have hbf : ¬ btN set.toNat next.toNat = true := fun z => h10 (btN_iff.2 z)); (try have hp2 := p2_le (k := next.toNat) (by omega)); (try (have hxb := xbF (back := back) (s := set.toNat) (by omega) (by omega) hbt; obtain ⟨hxr, hxr2, hrb, hrb3⟩ := hxb))
                  refine code_seq (fun K31 hK31 => ?_)
                  refine code_draw (by kernel_rfl) (by kernel_rfl) ?_
                  refine draw_q rfl (q_move rfl (by decide)) ?_
                  refine draw_q rfl (q_move rfl (by decide)) ?_
                  refine draw_call _ (spec_l4Digits _ _ (by omega) (by omega)) rfl rfl rfl (by decide) ?_
                  refine draw_q rfl (q_move rfl (by decide)) ?_
                  refine draw_q rfl (q_move rfl (by decide)) ?_
                  refine draw_q rfl (q_move rfl (by decide)) ?_
                  refine draw_q rfl (by first | exact q_shl1 rfl rfl (by decide) (by omega) (by omega) | exact q_shlI rfl rfl (by decide) (by omega) (by omega) (by omega) | exact q_shl rfl rfl (by omega) (by decide)) ?_
                  refine draw_q rfl (by first | exact q_xorI rfl rfl (by decide) (by omega) (by omega) (by omega) (by omega) | exact q_ib rfl rfl rfl (by decide)) ?_
                  refine draw_q rfl (q_move rfl (by decide)) ?_
                  refine draw_q rfl (q_indexAddr_own sl_51 rfl rfl (by omega) (by omega) (by decide)) ?_
                  refine draw_q rfl (q_indexAddr_arr arr_32 rfl rfl rfl (by omega) (by omega) (by decide)) ?_
                  refine draw_q rfl (q_load one_3 3 rfl rfl rfl (TbK_at (s := set.toNat ^^^ p2 next.toNat) (j := next.toNat) hT (by omega) (by omega) (by omega)) (by decide)) ?_
                  refine draw_q rfl (by first | exact q_addI rfl rfl (by decide) (by omega) (by omega) | exact q_ib rfl rfl rfl (by decide)) ?_
                  refine draw_q rfl (q_assign rfl (by decide)) ?_
                  refine draw_nil ?_
                  refine hK31 _ ?_; clear hK31 K31
                  refine codeT.imp (σ' := [(0, _), (2, _), (3, _), (4, _), (5, _), (6, _), (7, _), (8, _)]) ?_ (imp_covers ⟨rfl, rfl, rfl, rfl, rfl, rfl, rfl, rfl, trivial⟩)
                  refine code_seq (fun K32 hK32 => ?_)
                  refine code_region ?_
                  refine list_cons rfl (op_q (q_move rfl (by decide)) ?_)
                  refine list_cons rfl (op_q (q_lt rfl rfl (by decide)) ?_)
                  refine list_cons rfl (op_q (q_move rfl (by decide)) ?_)
                  refine list_guard_d rfl rfl rfl rfl (by decide) rfl (by decide) (fun h11 => ?_) (fun h11 => ?_)
                  · simp only [Bool.false_eq_true, if_true, if_false, Decidable.not_not] at h11
                    (try simp only [Decidable.not_not] at h11); (try have hdg := dgt_le at_.toNat next.toNat); (try have hbt : btN set.toNat next.toNat = true := btN_iff.1 h11); (try have hbf : ¬ btN set.toNat next.toNat = true := fun z => h11 (btN_iff.2 z)); (try have hp2 := p2_le (k := next.toNat) (by omega)); (try (have hxb := xbF (back := back) (s := set.toNat) (by omega) (by omega) hbt; obtain ⟨hxr, hxr2, hrb, hrb3⟩ := hxb))
                    refine id (op_q (q_move rfl (by decide)) ?_)
                    refine list_guard_y rfl rfl rfl rfl (by decide) rfl ?_
                    refine id (op_q (q_move rfl (by decide)) ?_)
                    refine list_guard_y rfl rfl rfl rfl (by decide) rfl ?_
                    refine id (op_q (q_lt rfl rfl (by decide)) ?_)
                    refine list_cons rfl (op_q (q_pick rfl rfl (by decide)) ?_)
                    refine list_nil ?_
                    refine hK32 _ ?_; clear hK32 K32
                    refine code_cond_d rfl (fun h12 => ?_) (fun h12 => ?_)
                    · skip
                      (try simp only [Decidable.not_not] at h12); (try have hdg := dgt_le at_.toNat next.toNat); (try have hbt : btN set.toNat next.toNat = true := btN_iff.1 h12); (try have hbf : ¬ btN set.toNat next.toNat = true := fun z => h12 (btN_iff.2 z)); (try have hp2 := p2_le (k := next.toNat) (by omega)); (try (have hxb := xbF (back := back) (s := set.toNat) (by omega) (by omega) hbt; obtain ⟨hxr, hxr2, hrb, hrb3⟩ := hxb))
                      refine code_region ?_
                      refine list_cons rfl (op_q (q_move rfl (by decide)) ?_)
                      refine list_cons rfl (op_q (q_assign rfl (by decide)) ?_)
                      refine list_nil ?_
                      refine blk_n ?_
                      refine hK29 _ ?_; clear hK29 K29
                      refine codeT.imp (σ' := [(0, _), (2, _), (3, _), (4, _), (5, _), (6, _), (7, _), (8, _)]) ?_ (imp_covers ⟨rfl, rfl, rfl, rfl, rfl, rfl, rfl, rfl, trivial⟩)
                      refine code_region ?_
                      refine list_cons rfl (op_q (q_move rfl (by decide)) ?_)
                      refine list_cons rfl (op_q (by first | exact q_addI rfl rfl (by decide) (by omega) (by omega) | exact q_ib rfl rfl rfl (by decide)) ?_)
                      refine list_cons rfl (op_q (q_assign rfl (by decide)) ?_)
                      refine list_nil ?_
                      refine then_n ⟨(_, _, _), imp_covers ⟨rfl, rfl, rfl, rfl, rfl, rfl, rfl, trivial⟩, ?_, ?_⟩
                      · (try dsimp only)
                        refine ⟨by omega, by omega, ?_⟩
                        rw [show (next + 1).toNat = next.toNat + 1 by omega, mnK]
                        first
                        | (rw [if_neg hbf]; exact k3)
                        | (rw [if_pos hbt, if_pos (by rw [← k3]; first | exact .inl (by assumption) | exact .inr (by assumption))]; done)
                        | (rw [if_pos hbt, if_neg (by rw [← k3]; omega)]; exact k3)
                      · (try dsimp only); omega
                    (try simp only [Decidable.not_not] at h12); (try have hdg := dgt_le at_.toNat next.toNat); (try have hbt : btN set.toNat next.toNat = true := btN_iff.1 h12); (try have hbf : ¬ btN set.toNat next.toNat = true := fun z => h12 (btN_iff.2 z)); (try have hp2 := p2_le (k := next.toNat) (by omega)); (try (have hxb := xbF (back := back) (s := set.toNat) (by omega) (by omega) hbt; obtain ⟨hxr, hxr2, hrb, hrb3⟩ := hxb))
                    refine code_skip ?_
                    refine blk_n ?_
                    refine hK29 _ ?_; clear hK29 K29
                    refine codeT.imp (σ' := [(0, _), (2, _), (3, _), (4, _), (5, _), (6, _), (7, _), (8, _)]) ?_ (imp_covers ⟨rfl, rfl, rfl, rfl, rfl, rfl, rfl, rfl, trivial⟩)
                    refine code_region ?_
                    refine list_cons rfl (op_q (q_move rfl (by decide)) ?_)
                    refine list_cons rfl (op_q (by first | exact q_addI rfl rfl (by decide) (by omega) (by omega) | exact q_ib rfl rfl rfl (by decide)) ?_)
                    refine list_cons rfl (op_q (q_assign rfl (by decide)) ?_)
                    refine list_nil ?_
                    refine then_n ⟨(_, _, _), imp_covers ⟨rfl, rfl, rfl, rfl, rfl, rfl, rfl, trivial⟩, ?_, ?_⟩
                    · (try dsimp only)
                      refine ⟨by omega, by omega, ?_⟩
                      rw [show (next + 1).toNat = next.toNat + 1 by omega, mnK]
                      first
                      | (rw [if_neg hbf]; exact k3)
                      | (rw [if_pos hbt, if_pos (by rw [← k3]; first | exact .inl (by assumption) | exact .inr (by assumption))]; done)
                      | (rw [if_pos hbt, if_neg (by rw [← k3]; omega)]; exact k3)
                    · (try dsimp only); omega
                  simp only [Bool.false_eq_true, if_true, if_false, Decidable.not_not] at h11
                  (try simp only [Decidable.not_not] at h11); (try have hdg := dgt_le at_.toNat next.toNat); (try have hbt : btN set.toNat next.toNat = true := btN_iff.1 h11); (try have hbf : ¬ btN set.toNat next.toNat = true := fun z => h11 (btN_iff.2 z)); (try have hp2 := p2_le (k := next.toNat) (by omega)); (try (have hxb := xbF (back := back) (s := set.toNat) (by omega) (by omega) hbt; obtain ⟨hxr, hxr2, hrb, hrb3⟩ := hxb))
                  refine list_guard_n rfl rfl rfl rfl (by decide) rfl ?_
                  refine list_guard_n rfl rfl rfl rfl (by decide) rfl ?_
                  refine list_cons rfl (op_q (q_pick rfl rfl (by decide)) ?_)
                  refine list_nil ?_
                  refine hK32 _ ?_; clear hK32 K32
                  refine code_cond_t rfl ?_
                  refine code_region ?_
                  refine list_cons rfl (op_q (q_move rfl (by decide)) ?_)
                  refine list_cons rfl (op_q (q_assign rfl (by decide)) ?_)
                  refine list_nil ?_
                  refine blk_n ?_
                  refine hK29 _ ?_; clear hK29 K29
                  refine code_region ?_
                  refine list_cons rfl (op_q (q_move rfl (by decide)) ?_)
                  refine list_cons rfl (op_q (by first | exact q_addI rfl rfl (by decide) (by omega) (by omega) | exact q_ib rfl rfl rfl (by decide)) ?_)
                  refine list_cons rfl (op_q (q_assign rfl (by decide)) ?_)
                  refine list_nil ?_
                  refine then_n ⟨(_, _, _), imp_covers ⟨rfl, rfl, rfl, rfl, rfl, rfl, rfl, trivial⟩, ?_, ?_⟩
                  · (try dsimp only)
                    refine ⟨by omega, by omega, ?_⟩
                    rw [show (next + 1).toNat = next.toNat + 1 by omega, mnK]
                    first
                    | (rw [if_neg hbf]; exact k3)
                    | (rw [if_pos hbt, if_pos (by rw [← k3]; first | exact .inl (by assumption) | exact .inr (by assumption))]; done)
                    | (rw [if_pos hbt, if_neg (by rw [← k3]; omega)]; exact k3)
                  · (try dsimp only); omega
                (try simp only [Decidable.not_not] at h10); (try have hdg := dgt_le at_.toNat next.toNat); (try have hbt : btN set.toNat next.toNat = true := btN_iff.1 h10); (try have hbf : ¬ btN set.toNat next.toNat = true := fun z => h10 (btN_iff.2 z)); (try have hp2 := p2_le (k := next.toNat) (by omega)); (try (have hxb := xbF (back := back) (s := set.toNat) (by omega) (by omega) hbt; obtain ⟨hxr, hxr2, hrb, hrb3⟩ := hxb))
                refine code_skip ?_
                refine blk_n ?_
                refine hK29 _ ?_; clear hK29 K29
                refine codeT.imp (σ' := [(0, _), (2, _), (3, _), (4, _), (5, _), (6, _), (7, _)]) ?_ (imp_covers ⟨rfl, rfl, rfl, rfl, rfl, rfl, rfl, trivial⟩)
                refine code_region ?_
                refine list_cons rfl (op_q (q_move rfl (by decide)) ?_)
                refine list_cons rfl (op_q (by first | exact q_addI rfl rfl (by decide) (by omega) (by omega) | exact q_ib rfl rfl rfl (by decide)) ?_)
                refine list_cons rfl (op_q (q_assign rfl (by decide)) ?_)
                refine list_nil ?_
                refine then_n ⟨(_, _, _), imp_covers ⟨rfl, rfl, rfl, rfl, rfl, rfl, rfl, trivial⟩, ?_, ?_⟩
                · (try dsimp only)
                  refine ⟨by omega, by omega, ?_⟩
                  rw [show (next + 1).toNat = next.toNat + 1 by omega, mnK]
                  first
                  | (rw [if_neg hbf]; exact k3)
                  | (rw [if_pos hbt, if_pos (by rw [← k3]; first | exact .inl (by assumption) | exact .inr (by assumption))]; done)
                  | (rw [if_pos hbt, if_neg (by rw [← k3]; omega)]; exact k3)
                · (try dsimp only); omega
              (try simp only [Decidable.not_not] at h9); (try have hdg := dgt_le at_.toNat next.toNat); (try have hbt : btN set.toNat next.toNat = true := btN_iff.1 h9); (try have hbf : ¬ btN set.toNat next.toNat = true := fun z => h9 (btN_iff.2 z)); (try have hp2 := p2_le (k := next.toNat) (by omega)); (try (have hxb := xbF (back := back) (s := set.toNat) (by omega) (by omega) hbt; obtain ⟨hxr, hxr2, hrb, hrb3⟩ := hxb))
              refine code_exit ?_
              refine then_x ?_; clear hK27 K27
              refine then_x ?_
              refine blk_hit ?_
              refine hK25 _ ?_; clear hK25 K25
              refine code_region ?_
              refine list_cons rfl (op_q (q_move rfl (by decide)) ?_)
              refine list_cons rfl (op_q (q_move rfl (by decide)) ?_)
              refine list_cons rfl (op_q (q_move rfl (by decide)) ?_)
              refine list_cons rfl (op_q (q_move rfl (by decide)) ?_)
              refine list_cons rfl (op_q (q_indexAddr_own sl_51 rfl rfl (by omega) (by omega) (by decide)) ?_)
              refine list_cons rfl (op_q (q_indexAddr_arr arr_32 rfl rfl rfl (by omega) (by omega) (by decide)) ?_)
              refine list_cons rfl (op_store (one_3).2 3 [3, 55] (by intro t ht; simp only [List.mem_cons, List.not_mem_nil, or_false] at ht; rcases ht with rfl | rfl <;> rfl) (.inl rfl) rfl rfl rfl rfl rfl rfl (by first | decide | omega | exact Nat.le_refl _ | (simp; done) | (simp; omega)) (by decide) rfl ?_)
              refine list_nil ?_
              refine blk_n ?_
              refine hK11 _ ?_; clear hK11 K11
              refine codeT.imp (σ' := [(0, _), (2, _), (3, _), (4, _), (5, _), (6, _), (7, _)]) ?_ (imp_covers ⟨rfl, rfl, rfl, rfl, rfl, rfl, rfl, trivial⟩)
              refine code_region ?_
              refine list_cons rfl (op_q (q_move rfl (by decide)) ?_)
              refine list_cons rfl (op_q (by first | exact q_addI rfl rfl (by decide) (by omega) (by omega) | exact q_ib rfl rfl rfl (by decide)) ?_)
              refine list_cons rfl (op_q (q_assign rfl (by decide)) ?_)
              refine list_nil ?_
              refine then_n ⟨(_, _, _, _), imp_covers ⟨rfl, rfl, rfl, rfl, rfl, trivial⟩, ?_, ?_⟩
              · (try dsimp only)
                have hv : best = rv back (dlS set.toNat) ((at_.toNat : Nat) : Int) := by
                  rw [hat, ← mnK_rv back at_ (by omega), k3, show next.toNat = 10 by omega]
                obtain ⟨tb2, e2, hT2⟩ := TbK_put (p := set.toNat * 10 + at_.toNat * 1) (v := best) hT (by omega) (by omega) (by omega) hv
                exact ⟨by omega, by omega, rfl, tb2, e2, by rw [show (at_ + 1).toNat = at_.toNat + 1 by omega]; exact hT2⟩
              · (try dsimp only); omega
          (try simp only [Decidable.not_not] at h3); (try have hdg := dgt_le at_.toNat next.toNat); (try have hbt : btN set.toNat next.toNat = true := btN_iff.1 h3); (try have hbf : ¬ btN set.toNat next.toNat = true := fun z => h3 (btN_iff.2 z)); (try have hp2 := p2_le (k := next.toNat) (by omega)); (try (have hxb := xbF (back := back) (s := set.toNat) (by omega) (by omega) hbt; obtain ⟨hxr, hxr2, hrb, hrb3⟩ := hxb))
          refine code_skip ?_
          refine hK13 _ ?_; clear hK13 K13
          refine code_seq (fun K33 hK33 => ?_)
          refine code_seq (fun K34 hK34 => ?_)
          refine code_region ?_
          refine list_cons rfl (op_q (q_assign rfl (by decide)) ?_)
          refine list_nil ?_
          refine hK34 _ ?_; clear hK34 K34
          refine code_block ?_
          refine code_loop (X := PV × Int × Int) (fun x => [(0, .val (.int .i64 back)), (2, .val x.1), (3, .own 9 32 10 1024 (tb.map (.int .i64))), (4, .val (.int .i64 (set))), (5, .val (.int .i64 (at_))), (6, .val (.int .i64 x.2.1)), (7, .val (.int .i64 x.2.2))]) (fun x => 0 ≤ x.2.2 ∧ x.2.2 ≤ 10 ∧ x.2.1 = mnK back set.toNat at_ x.2.2.toNat) (fun x => (10 - x.2.2).toNat) (_, _, _) (imp_covers ⟨rfl, rfl, rfl, rfl, rfl, rfl, rfl, trivial⟩) ?_ ?_
          · (try dsimp only)
            refine ⟨by omega, by omega, ?_⟩
            show _ = mnK back set.toNat at_ 0
            unfold mnK bsE
            first
            | (rw [if_pos (by omega), if_pos (by assumption)]; rfl)
            | (rw [if_pos (by omega), if_pos (by assumption)]; done)
            | (rw [if_pos (by omega), if_neg (by assumption)]; done)
            | (rw [if_neg (by omega)]; done)
          · intro x hI
            obtain ⟨t2_p, best, next⟩ := x
            replace hI : 0 ≤ next ∧ next ≤ 10 ∧ best = mnK back set.toNat at_ next.toNat := hI
            show codeT _ _ _ [(0, .val (.int .i64 back)), (2, .val t2_p), (3, .own 9 32 10 1024 (tb.map (.int .i64))), (4, .val (.int .i64 (set))), (5, .val (.int .i64 (at_))), (6, .val (.int .i64 best)), (7, .val (.int .i64 next))] _
            obtain ⟨k1, k2, k3⟩ := hI
            have hmb := mnK_bd back set.toNat at_ next.toNat
            have hsh := shN_le9 set.toNat next.toNat
            have hnx : ((next.toNat : Nat) : Int) = next := by omega
            refine code_seq (fun K35 hK35 => ?_)
            refine code_seq (fun K36 hK36 => ?_)
            refine code_region ?_
            refine list_cons rfl (op_q (q_move rfl (by decide)) ?_)
            refine list_cons rfl (op_q (q_lt rfl rfl (by decide)) ?_)
            refine list_nil ?_
            refine hK36 _ ?_; clear hK36 K36
            refine code_cond_d rfl (fun h13 => ?_) (fun h13 => ?_)
            · skip
              (try simp only [Decidable.not_not] at h13); (try have hdg := dgt_le at_.toNat next.toNat); (try have hbt : btN set.toNat next.toNat = true := btN_iff.1 h13); (try have hbf : ¬ btN set.toNat next.toNat = true := fun z => h13 (btN_iff.2 z)); (try have hp2 := p2_le (k := next.toNat) (by omega)); (try (have hxb := xbF (back := back) (s := set.toNat) (by omega) (by omega) hbt; obtain ⟨hxr, hxr2, hrb, hrb3⟩ := hxb))
              refine code_skip ?_
              refine hK35 _ ?_; clear hK35 K35
              refine code_seq (fun K37 hK37 => ?_)
              refine code_block ?_
              refine code_seq (fun K38 hK38 => ?_)
              refine code_region ?_
              refine list_cons rfl (op_q (q_move rfl (by decide)) ?_)
              refine list_cons rfl (op_q (q_move rfl (by decide)) ?_)
              refine list_cons rfl (op_q (by first | exact q_shrN rfl rfl (by decide) (by omega) (by omega) (by omega) | exact q_shrI rfl rfl (by decide) (by omega) (by omega) (by omega) | exact q_shr rfl rfl (by omega) (by decide)) ?_)
              refine list_cons rfl (op_q (by first | exact q_andI rfl rfl (by decide) (by omega) (by omega) (by omega) (by omega) | exact q_ib rfl rfl rfl (by decide)) ?_)
              refine list_cons rfl (op_q (q_eq rfl rfl (by decide)) ?_)
              refine list_nil ?_
              refine hK38 _ ?_; clear hK38 K38
              refine code_cond_d rfl (fun h14 => ?_) (fun h14 => ?_)
              · skip
                (try simp only [Decidable.not_not] at h14); (try have hdg := dgt_le at_.toNat next.toNat); (try have hbt : btN set.toNat next.toNat = true := btN_iff.1 h14); (try have hbf : ¬ btN set.toNat next.toNat = true := fun z => h14 (btN_iff.2 z)); (try have hp2 := p2_le (k := next.toNat) (by omega)); (try (have hxb := xbF (back := back) (s := set.toNat) (by omega) (by omega) hbt; obtain ⟨hxr, hxr2, hrb, hrb3⟩ := hxb))
                refine code_seq (fun K39 hK39 => ?_)
                refine code_draw (by kernel_rfl) (by kernel_rfl) ?_
                refine draw_q rfl (q_move rfl (by decide)) ?_
                refine draw_q rfl (q_move rfl (by decide)) ?_
                refine draw_call _ (spec_l4Digits _ _ (by omega) (by omega)) rfl rfl rfl (by decide) ?_
                refine draw_q rfl (q_move rfl (by decide)) ?_
                refine draw_q rfl (q_move rfl (by decide)) ?_
                refine draw_q rfl (q_move rfl (by decide)) ?_
                refine draw_q rfl (by first | exact q_shl1 rfl rfl (by decide) (by omega) (by omega) | exact q_shlI rfl rfl (by decide) (by omega) (by omega) (by omega) | exact q_shl rfl rfl (by omega) (by decide)) ?_
                refine draw_q rfl (by first | exact q_xorI rfl rfl (by decide) (by omega) (by omega) (by omega) (by omega) | exact q_ib rfl rfl rfl (by decide)) ?_
                refine draw_q rfl (q_move rfl (by decide)) ?_
                refine draw_q rfl (q_indexAddr_own sl_51 rfl rfl (by omega) (by omega) (by decide)) ?_
                refine draw_q rfl (q_indexAddr_arr arr_32 rfl rfl rfl (by omega) (by omega) (by decide)) ?_
                refine draw_q rfl (q_load one_3 3 rfl rfl rfl (TbK_at (s := set.toNat ^^^ p2 next.toNat) (j := next.toNat) hT (by omega) (by omega) (by omega)) (by decide)) ?_
                refine draw_q rfl (by first | exact q_addI rfl rfl (by decide) (by omega) (by omega) | exact q_ib rfl rfl rfl (by decide)) ?_
                refine draw_q rfl (q_assign rfl (by decide)) ?_
                refine draw_nil ?_
                refine hK39 _ ?_; clear hK39 K39
                refine codeT.imp (σ' := [(0, _), (2, _), (3, _), (4, _), (5, _), (6, _), (7, _), (8, _)]) ?_ (imp_covers ⟨rfl, rfl, rfl, rfl, rfl, rfl, rfl, rfl, trivial⟩)
                refine code_seq (fun K40 hK40 => ?_)
                refine code_region ?_
                refine list_cons rfl (op_q (q_move rfl (by decide)) ?_)
                refine list_cons rfl (op_q (q_lt rfl rfl (by decide)) ?_)
                refine list_cons rfl (op_q (q_move rfl (by decide)) ?_)
                refine list_guard_d rfl rfl rfl rfl (by decide) rfl (by decide) (fun h15 => ?_) (fun h15 => ?_)
                · simp only [Bool.false_eq_true, if_true, if_false, Decidable.not_not] at h15
                  (try simp only [Decidable.not_not] at h15); (try have hdg := dgt_le at_.toNat next.toNat); (try have hbt : btN set.toNat next.toNat = true := btN_iff.1 h15); (try have hbf : ¬ btN set.toNat next.toNat = true := fun z => h15 (btN_iff.2 z)); (try have hp2 := p2_le (k := next.toNat) (by omega)); (try (have hxb := xbF (back := back) (s := set.toNat) (by omega) (by omega) hbt; obtain ⟨hxr, hxr2, hrb, hrb3⟩ := hxb))
                  refine id (op_q (q_move rfl (by decide)) ?_)
                  refine list_guard_y rfl rfl rfl rfl (by decide) rfl ?_
                  refine id (op_q (q_move rfl (by decide)) ?_)
                  refine list_guard_y rfl rfl rfl rfl (by decide) rfl ?_
                  refine id (op_q (q_lt rfl rfl (by decide)) ?_)
                  refine list_cons rfl (op_q (q_pick rfl rfl (by decide)) ?_)
                  refine list_nil ?_
                  refine hK40 _ ?_; clear hK40 K40
                  refine code_cond_d rfl (fun h16 => ?_) (fun h16 => ?_)
                  · skip
                    (try simp only [Decidable.not_not] at h16); (try have hdg := dgt_le at_.toNat next.toNat); (try have hbt : btN set.toNat next.toNat = true := btN_iff.1 h16); (try have hbf : ¬ btN set.toNat next.toNat = true := fun z => h16 (btN_iff.2 z)); (try have hp2 := p2_le (k := next.toNat) (by omega)); (try (have hxb := xbF (back := back) (s := set.toNat) (by omega) (by omega) hbt; obtain ⟨hxr, hxr2, hrb, hrb3⟩ := hxb))
                    refine code_region ?_
                    refine list_cons rfl (op_q (q_move rfl (by decide)) ?_)
                    refine list_cons rfl (op_q (q_assign rfl (by decide)) ?_)
                    refine list_nil ?_
                    refine blk_n ?_
                    refine hK37 _ ?_; clear hK37 K37
                    refine codeT.imp (σ' := [(0, _), (2, _), (3, _), (4, _), (5, _), (6, _), (7, _), (8, _)]) ?_ (imp_covers ⟨rfl, rfl, rfl, rfl, rfl, rfl, rfl, rfl, trivial⟩)
                    refine code_region ?_
                    refine list_cons rfl (op_q (q_move rfl (by decide)) ?_)
                    refine list_cons rfl (op_q (by first | exact q_addI rfl rfl (by decide) (by omega) (by omega) | exact q_ib rfl rfl rfl (by decide)) ?_)
                    refine list_cons rfl (op_q (q_assign rfl (by decide)) ?_)
                    refine list_nil ?_
                    refine then_n ⟨(_, _, _), imp_covers ⟨rfl, rfl, rfl, rfl, rfl, rfl, rfl, trivial⟩, ?_, ?_⟩
                    · (try dsimp only)
                      refine ⟨by omega, by omega, ?_⟩
                      rw [show (next + 1).toNat = next.toNat + 1 by omega, mnK]
                      first
                      | (rw [if_neg hbf]; exact k3)
                      | (rw [if_pos hbt, if_pos (by rw [← k3]; first | exact .inl (by assumption) | exact .inr (by assumption))]; done)
                      | (rw [if_pos hbt, if_neg (by rw [← k3]; omega)]; exact k3)
                    · (try dsimp only); omega
                  (try simp only [Decidable.not_not] at h16); (try have hdg := dgt_le at_.toNat next.toNat); (try have hbt : btN set.toNat next.toNat = true := btN_iff.1 h16); (try have hbf : ¬ btN set.toNat next.toNat = true := fun z => h16 (btN_iff.2 z)); (try have hp2 := p2_le (k := next.toNat) (by omega)); (try (have hxb := xbF (back := back) (s := set.toNat) (by omega) (by omega) hbt; obtain ⟨hxr, hxr2, hrb, hrb3⟩ := hxb))
                  refine code_skip ?_
                  refine blk_n ?_
                  refine hK37 _ ?_; clear hK37 K37
                  refine codeT.imp (σ' := [(0, _), (2, _), (3, _), (4, _), (5, _), (6, _), (7, _), (8, _)]) ?_ (imp_covers ⟨rfl, rfl, rfl, rfl, rfl, rfl, rfl, rfl, trivial⟩)
                  refine code_region ?_
                  refine list_cons rfl (op_q (q_move rfl (by decide)) ?_)
                  refine list_cons rfl (op_q (by first | exact q_addI rfl rfl (by decide) (by omega) (by omega) | exact q_ib rfl rfl rfl (by decide)) ?_)
                  refine list_cons rfl (op_q (q_assign rfl (by decide)) ?_)
                  refine list_nil ?_
                  refine then_n ⟨(_, _, _), imp_covers ⟨rfl, rfl, rfl, rfl, rfl, rfl, rfl, trivial⟩, ?_, ?_⟩
                  · (try dsimp only)
                    refine ⟨by omega, by omega, ?_⟩
                    rw [show (next + 1).toNat = next.toNat + 1 by omega, mnK]
                    first
                    | (rw [if_neg hbf]; exact k3)
                    | (rw [if_pos hbt, if_pos (by rw [← k3]; first | exact .inl (by assumption) | exact .inr (by assumption))]; done)
                    | (rw [if_pos hbt, if_neg (by rw [← k3]; omega)]; exact k3)
                  · (try dsimp only); omega
                simp only [Bool.false_eq_true, if_true, if_false, Decidable.not_not] at h15
                (try simp only [Decidable.not_not] at h15); (try have hdg := dgt_le at_.toNat next.toNat); (try have hbt : btN set.toNat next.toNat = true := btN_iff.1 h15); (try have hbf : ¬ btN set.toNat next.toNat = true := fun z => h15 (btN_iff.2 z)); (try have hp2 := p2_le (k := next.toNat) (by omega)); (try (have hxb := xbF (back := back) (s := set.toNat) (by omega) (by omega) hbt; obtain ⟨hxr, hxr2, hrb, hrb3⟩ := hxb))
                refine list_guard_n rfl rfl rfl rfl (by decide) rfl ?_
                refine list_guard_n rfl rfl rfl rfl (by decide) rfl ?_
                refine list_cons rfl (op_q (q_pick rfl rfl (by decide)) ?_)
                refine list_nil ?_
                refine hK40 _ ?_; clear hK40 K40
                refine code_cond_t rfl ?_
                refine code_region ?_
                refine list_cons rfl (op_q (q_move rfl (by decide)) ?_)
                refine list_cons rfl (op_q (q_assign rfl (by decide)) ?_)
                refine list_nil ?_
                refine blk_n ?_
                refine hK37 _ ?_; clear hK37 K37
                refine code_region ?_
                refine list_cons rfl (op_q (q_move rfl (by decide)) ?_)
                refine list_cons rfl (op_q (by first | exact q_addI rfl rfl (by decide) (by omega) (by omega) | exact q_ib rfl rfl rfl (by decide)) ?_)
                refine list_cons rfl (op_q (q_assign rfl (by decide)) ?_)
                refine list_nil ?_
                refine then_n ⟨(_, _, _), imp_covers ⟨rfl, rfl, rfl, rfl, rfl, rfl, rfl, trivial⟩, ?_, ?_⟩
                · (try dsimp only)
                  refine ⟨by omega, by omega, ?_⟩
                  rw [show (next + 1).toNat = next.toNat + 1 by omega, mnK]
                  first
                  | (rw [if_neg hbf]; exact k3)
                  | (rw [if_pos hbt, if_pos (by rw [← k3]; first | exact .inl (by assumption) | exact .inr (by assumption))]; done)
                  | (rw [if_pos hbt, if_neg (by rw [← k3]; omega)]; exact k3)
                · (try dsimp only); omega
              (try simp only [Decidable.not_not] at h14); (try have hdg := dgt_le at_.toNat next.toNat); (try have hbt : btN set.toNat next.toNat = true := btN_iff.1 h14); (try have hbf : ¬ btN set.toNat next.toNat = true := fun z => h14 (btN_iff.2 z)); (try have hp2 := p2_le (k := next.toNat) (by omega)); (try (have hxb := xbF (back := back) (s := set.toNat) (by omega) (by omega) hbt; obtain ⟨hxr, hxr2, hrb, hrb3⟩ := hxb))
              refine code_skip ?_
              refine blk_n ?_
              refine hK37 _ ?_; clear hK37 K37
              refine codeT.imp (σ' := [(0, _), (2, _), (3, _), (4, _), (5, _), (6, _), (7, _)]) ?_ (imp_covers ⟨rfl, rfl, rfl, rfl, rfl, rfl, rfl, trivial⟩)
              refine code_region ?_
              refine list_cons rfl (op_q (q_move rfl (by decide)) ?_)
              refine list_cons rfl (op_q (by first | exact q_addI rfl rfl (by decide) (by omega) (by omega) | exact q_ib rfl rfl rfl (by decide)) ?_)
              refine list_cons rfl (op_q (q_assign rfl (by decide)) ?_)
              refine list_nil ?_
              refine then_n ⟨(_, _, _), imp_covers ⟨rfl, rfl, rfl, rfl, rfl, rfl, rfl, trivial⟩, ?_, ?_⟩
              · (try dsimp only)
                refine ⟨by omega, by omega, ?_⟩
                rw [show (next + 1).toNat = next.toNat + 1 by omega, mnK]
                first
                | (rw [if_neg hbf]; exact k3)
                | (rw [if_pos hbt, if_pos (by rw [← k3]; first | exact .inl (by assumption) | exact .inr (by assumption))]; done)
                | (rw [if_pos hbt, if_neg (by rw [← k3]; omega)]; exact k3)
              · (try dsimp only); omega
            (try simp only [Decidable.not_not] at h13); (try have hdg := dgt_le at_.toNat next.toNat); (try have hbt : btN set.toNat next.toNat = true := btN_iff.1 h13); (try have hbf : ¬ btN set.toNat next.toNat = true := fun z => h13 (btN_iff.2 z)); (try have hp2 := p2_le (k := next.toNat) (by omega)); (try (have hxb := xbF (back := back) (s := set.toNat) (by omega) (by omega) hbt; obtain ⟨hxr, hxr2, hrb, hrb3⟩ := hxb))
            refine code_exit ?_
            refine then_x ?_; clear hK35 K35
            refine then_x ?_
            refine blk_hit ?_
            refine hK33 _ ?_; clear hK33 K33
            refine code_region ?_
            refine list_cons rfl (op_q (q_move rfl (by decide)) ?_)
            refine list_cons rfl (op_q (q_move rfl (by decide)) ?_)
            refine list_cons rfl (op_q (q_move rfl (by decide)) ?_)
            refine list_cons rfl (op_q (q_move rfl (by decide)) ?_)
            refine list_cons rfl (op_q (q_indexAddr_own sl_51 rfl rfl (by omega) (by omega) (by decide)) ?_)
            refine list_cons rfl (op_q (q_indexAddr_arr arr_32 rfl rfl rfl (by omega) (by omega) (by decide)) ?_)
            refine list_cons rfl (op_store (one_3).2 3 [3, 55] (by intro t ht; simp only [List.mem_cons, List.not_mem_nil, or_false] at ht; rcases ht with rfl | rfl <;> rfl) (.inl rfl) rfl rfl rfl rfl rfl rfl (by first | decide | omega | exact Nat.le_refl _ | (simp; done) | (simp; omega)) (by decide) rfl ?_)
            refine list_nil ?_
            refine blk_n ?_
            refine hK11 _ ?_; clear hK11 K11
            refine codeT.imp (σ' := [(0, _), (2, _), (3, _), (4, _), (5, _), (6, _), (7, _)]) ?_ (imp_covers ⟨rfl, rfl, rfl, rfl, rfl, rfl, rfl, trivial⟩)
            refine code_region ?_
            refine list_cons rfl (op_q (q_move rfl (by decide)) ?_)
            refine list_cons rfl (op_q (by first | exact q_addI rfl rfl (by decide) (by omega) (by omega) | exact q_ib rfl rfl rfl (by decide)) ?_)
            refine list_cons rfl (op_q (q_assign rfl (by decide)) ?_)
            refine list_nil ?_
            refine then_n ⟨(_, _, _, _), imp_covers ⟨rfl, rfl, rfl, rfl, rfl, trivial⟩, ?_, ?_⟩
            · (try dsimp only)
              have hv : best = rv back (dlS set.toNat) ((at_.toNat : Nat) : Int) := by
                rw [hat, ← mnK_rv back at_ (by omega), k3, show next.toNat = 10 by omega]
              obtain ⟨tb2, e2, hT2⟩ := TbK_put (p := set.toNat * 10 + at_.toNat * 1) (v := best) hT (by omega) (by omega) (by omega) hv
              exact ⟨by omega, by omega, rfl, tb2, e2, by rw [show (at_ + 1).toNat = at_.toNat + 1 by omega]; exact hT2⟩
            · (try dsimp only); omega
        (try simp only [Decidable.not_not] at h2); (try have hdg := dgt_le at_.toNat next.toNat); (try have hbt : btN set.toNat next.toNat = true := btN_iff.1 h2); (try have hbf : ¬ btN set.toNat next.toNat = true := fun z => h2 (btN_iff.2 z)); (try have hp2 := p2_le (k := next.toNat) (by omega)); (try (have hxb := xbF (back := back) (s := set.toNat) (by omega) (by omega) hbt; obtain ⟨hxr, hxr2, hrb, hrb3⟩ := hxb))
        refine code_exit ?_
        refine then_x ?_; clear hK9 K9
        refine then_x ?_
        refine blk_hit ?_
        refine blk_n ?_
        refine hK7 _ ?_; clear hK7 K7
        refine code_region ?_
        refine list_cons rfl (op_q (q_move rfl (by decide)) ?_)
        refine list_cons rfl (op_q (by first | exact q_addI rfl rfl (by decide) (by omega) (by omega) | exact q_ib rfl rfl rfl (by decide)) ?_)
        refine list_cons rfl (op_q (q_assign rfl (by decide)) ?_)
        refine list_nil ?_
        refine then_n ⟨(_, _, _, _), imp_covers ⟨rfl, rfl, rfl, rfl, trivial⟩, ?_, ?_⟩
        · (try dsimp only)
          exact ⟨by omega, by omega, rfl, tb, rfl, by rw [show (set + 1).toNat * 10 = set.toNat * 10 + at_.toNat by omega]; exact hT⟩
        · (try dsimp only); omega
    (try simp only [Decidable.not_not] at h1); (try have hdg := dgt_le at_.toNat next.toNat); (try have hbt : btN set.toNat next.toNat = true := btN_iff.1 h1); (try have hbf : ¬ btN set.toNat next.toNat = true := fun z => h1 (btN_iff.2 z)); (try have hp2 := p2_le (k := next.toNat) (by omega)); (try (have hxb := xbF (back := back) (s := set.toNat) (by omega) (by omega) hbt; obtain ⟨hxr, hxr2, hrb, hrb3⟩ := hxb))
    refine code_exit ?_
    refine then_x ?_; clear hK5 K5
    refine then_x ?_
    refine blk_hit ?_
    refine hK3 _ ?_; clear hK3 K3
    refine code_seq (fun K41 hK41 => ?_)
    refine code_region ?_
    refine list_cons rfl (op_q (q_move rfl (by decide)) ?_)
    refine list_cons rfl (op_q (q_assign rfl (by decide)) ?_)
    refine list_nil ?_
    refine hK41 _ ?_; clear hK41 K41
    refine code_ret ?_
    refine ends_ret (cs := []) rfl rfl rfl rfl trivial ?_
    exact ⟨tb, by rw [show set.toNat * 10 = 10240 by omega] at hT; exact hT, rfl⟩
set_option maxRecDepth 8000 in
set_option maxHeartbeats 4000000 in
theorem spec_l4First (st s : Int) (back : Int) (tb : List Int) (h0 : 0 ≤ st ∧ st ≤ 9) (hs : 0 ≤ s ∧ s < 1024) (hT : TbK back tb 10240) : PCalls Tryd.prog 32 [.int .i64 st, .int .i64 s, .sl 1024 (tb.map (.int .i64))] (· = [.own 0 3 1 (st :: FP back (dlS s.toNat).length (dlS s.toNat) st).length ((st :: FP back (dlS s.toNat).length (dlS s.toNat) st).map (.int .i64)), .val (.int .i64 (rv back (dlS s.toNat) st))]) := by
  refine pcalls_of_code (n := 65) az Tryd.func32 (by kernel_rfl) rfl rfl (Nat.le_of_ble_eq_true rfl) (by intro t u h; simp [Tryd.f32] at h) ?_
  have hTl := hT.1
  refine code_seq (fun K1 hK1 => ?_)
  refine code_region ?_
  refine list_cons rfl (op_q (q_assign rfl (by decide)) ?_)
  refine list_cons rfl (op_q (q_assign rfl (by decide)) ?_)
  refine list_nil ?_
  refine hK1 _ ?_; clear hK1 K1
  refine code_seq (fun K2 hK2 => ?_)
  refine any_start fun ob1_0 => ?_
  refine any_op (rd := [0]) ob1_0 rfl rfl rfl (anyT_quiet [(0, _)] ⟨rfl, trivial⟩ rfl (q_move rfl (by decide))) (fun ob1_1 => ?_)
  refine any_op (rd := [12]) ob1_1 rfl rfl rfl (fun σ hag hfr => by have e12 : σ.at 12 = some _ := (hag 12 (by decide)).trans rfl; exact op_buildSlice sl_24 (parts := [(0, .tmp 12)]) (evp_cons (by first | rfl | assumption) rfl rfl evp_nil) rfl rfl (by decide) (by decide) (by decide) (fr1000 hfr (by decide)) rfl) (fun ob1_2 => ?_)
  refine any_op (rd := [0]) ob1_2 rfl rfl rfl (anyT_quiet [(0, _)] ⟨rfl, trivial⟩ rfl (q_move rfl (by decide))) (fun ob1_3 => ?_)
  refine any_op (rd := [2]) ob1_3 rfl rfl rfl (anyT_quiet [(2, _)] ⟨rfl, trivial⟩ rfl (q_move rfl (by decide))) (fun ob1_4 => ?_)
  refine any_op (rd := [1]) ob1_4 rfl rfl rfl (anyT_quiet [(1, _)] ⟨rfl, trivial⟩ rfl (q_move rfl (by decide))) (fun ob1_5 => ?_)
  refine any_op (rd := [0]) ob1_5 rfl rfl rfl (anyT_quiet [(0, _)] ⟨rfl, trivial⟩ rfl (q_move rfl (by decide))) (fun ob1_6 => ?_)
  refine any_op (rd := [15, 16]) ob1_6 rfl rfl rfl (anyT_quiet [(15, _), (16, _)] ⟨rfl, rfl, trivial⟩ rfl (q_indexAddr_rd sl_51 rfl (.inl ⟨_, rfl, rfl⟩) rfl (by omega) (by omega) (by decide))) (fun ob1_7 => ?_)
  refine any_op (rd := [17, 18]) ob1_7 rfl rfl rfl (anyT_quiet [(17, _), (18, _)] ⟨rfl, rfl, trivial⟩ rfl (q_indexAddr_arr arr_32 rfl rfl rfl (by omega) (by omega) (by decide))) (fun ob1_8 => ?_)
  refine any_op (rd := [19]) ob1_8 rfl rfl rfl (anyT_quiet [(19, _)] ⟨rfl, trivial⟩ rfl (q_load_rd one_3 rfl (.inl ⟨_, (by first | rfl | exact congrArg (SV.rpar _) (TbK_ld (s := s.toNat) (a := st) hT (by omega) (by omega)) | exact congrArg (SV.rpar _) (TbK_ld (s := set.toNat ^^^ p2 next.toNat) (a := next) hT (by omega) (by omega)) | exact congrArg (SV.rpar _) (TbK_ld (s := set.toNat) (a := at_) hT (by omega) (by omega))), rfl⟩) (by decide))) (fun ob1_9 => ?_)
  refine any_op (rd := [13]) ob1_9 rfl rfl rfl (anyT_quiet [(13, _)] ⟨rfl, trivial⟩ rfl (q_assign rfl (by decide))) (fun ob1_10 => ?_)
  refine any_op (rd := [14]) ob1_10 rfl rfl rfl (anyT_quiet [(14, _)] ⟨rfl, trivial⟩ rfl (q_assign rfl (by decide))) (fun ob1_11 => ?_)
  refine any_end [[], [0], [], [], [], [], [3, 4], [3, 4, 5, 6], [3, 4, 5, 6, 7], [0, 1], [0, 1, 2, 9], [0, 1, 2, 3, 4, 5, 6, 7, 8, 9, 10]] ob1_11 (by kernel_rfl) (Nat.le_of_ble_eq_true rfl) (by decide) (by decide) (by kernel_rfl) (by kernel_rfl) (by kernel_rfl) (by kernel_rfl) (by kernel_rfl) ?_
  clear ob1_0 ob1_1 ob1_2 ob1_3 ob1_4 ob1_5 ob1_6 ob1_7 ob1_8 ob1_9 ob1_10 ob1_11
  refine listT.imp (σ' := [(0, _), (1, _), (2, _), (6, _), (7, _), (8, _), (9, _), (12, _), (13, _), (14, _), (15, _), (16, _), (17, _), (18, _), (19, _), (20, _)]) ?_ (imp_covers ⟨rfl, rfl, rfl, rfl, rfl, rfl, rfl, rfl, rfl, rfl, rfl, rfl, rfl, rfl, rfl, rfl, trivial⟩)
  refine list_cons rfl (op_q (q_assign rfl (by decide)) ?_)
  refine list_nil ?_
  refine hK2 _ ?_; clear hK2 K2
  refine codeT.imp (σ' := [(0, _), (1, _), (2, _), (6, _), (7, _), (8, _), (9, _), (10, _)]) ?_ (imp_covers ⟨rfl, rfl, rfl, rfl, rfl, rfl, rfl, rfl, trivial⟩)
  refine code_seq (fun K3 hK3 => ?_)
  refine code_block ?_
  refine code_loop (X := Int × PV × Int × Nat × List PV × Int × Int) (fun x => [(0, .val (.int .i64 st)), (1, .val (.int .i64 x.1)), (2, .par 2 (.sl 1024 (tb.map (.int .i64)))), (6, .val x.2.1), (7, .val (.int .i64 x.2.2.1)), (8, .own 13 3 1 x.2.2.2.1 x.2.2.2.2.1), (9, .val (.int .i64 x.2.2.2.2.2.1)), (10, .val (.int .i64 x.2.2.2.2.2.2))]) (fun x => (0 ≤ x.1 ∧ x.1 < 1024) ∧ (0 ≤ x.2.2.2.2.2.1 ∧ x.2.2.2.2.2.1 ≤ 9) ∧ x.2.2.2.2.2.2 = rv back (dlS s.toNat) st ∧ ∃ O : List Int, x.2.2.2.1 = O.length ∧ x.2.2.2.2.1 = O.map (.int .i64) ∧ WyK back s.toNat x.1.toNat st x.2.2.2.2.2.1 O) (fun x => x.1.toNat) (_, _, _, _, _, _, _) (imp_covers ⟨rfl, rfl, rfl, rfl, rfl, rfl, rfl, rfl, trivial⟩) ?_ ?_
  · (try dsimp only)
    exact ⟨by omega, by omega, rfl, [st], rfl, rfl, WyK_0 back s.toNat st⟩
  · intro x hI
    obtain ⟨set, t6_p, t7, out_n, out_c, at_, cost⟩ := x
    replace hI : (0 ≤ set ∧ set < 1024) ∧ (0 ≤ at_ ∧ at_ ≤ 9) ∧ cost = rv back (dlS s.toNat) st ∧ ∃ O : List Int, out_n = O.length ∧ out_c = O.map (.int .i64) ∧ WyK back s.toNat set.toNat st at_ O := hI
    show codeT _ _ _ [(0, .val (.int .i64 st)), (1, .val (.int .i64 set)), (2, .par 2 (.sl 1024 (tb.map (.int .i64)))), (6, .val t6_p), (7, .val (.int .i64 t7)), (8, .own 13 3 1 out_n out_c), (9, .val (.int .i64 at_)), (10, .val (.int .i64 cost))] _
    obtain ⟨i1, i2, rfl, O, rfl, rfl, hW⟩ := hI
    have hWl := WyK_len hW
    refine code_seq (fun K4 hK4 => ?_)
    refine code_seq (fun K5 hK5 => ?_)
    refine code_region ?_
    refine list_cons rfl (op_q (q_move rfl (by decide)) ?_)
    refine list_cons rfl (op_q (q_ne rfl rfl (by decide)) ?_)
    refine list_nil ?_
    refine hK5 _ ?_; clear hK5 K5
    refine code_cond_d rfl (fun h1 => ?_) (fun h1 => ?_)
    · skip
      (try simp only [Decidable.not_not] at h1); (try have hdg := dgt_le at_.toNat next.toNat); (try have hbt : btN set.toNat next.toNat = true := btN_iff.1 h1); (try have hbf : ¬ btN set.toNat next.toNat = true := fun z => h1 (btN_iff.2 z)); (try have hp2 := p2_le (k := next.toNat) (by omega)); (try (have hxb := xbF (back := back) (s := set.toNat) (by omega) (by omega) hbt; obtain ⟨hxr, hxr2, hrb, hrb3⟩ := hxb)); (try (have hrb2 := rv_nn back _ (dlS set.toNat) at_ rfl; have hdl2 := dlS_len set.toNat))
      refine code_skip ?_
      refine hK4 _ ?_; clear hK4 K4
      refine code_block ?_
      refine code_seq (fun K6 hK6 => ?_)
      refine code_region ?_
      refine list_cons rfl (op_q (q_assign rfl (by decide)) ?_)
      refine list_nil ?_
      refine hK6 _ ?_; clear hK6 K6
      refine code_block ?_
      refine code_loop (X := PV × Int × Int) (fun x => [(0, .val (.int .i64 st)), (1, .val (.int .i64 (set))), (2, .par 2 (.sl 1024 (tb.map (.int .i64)))), (6, .val x.1), (7, .val (.int .i64 x.2.1)), (8, .own 13 3 1 O.length (O.map (.int .i64))), (9, .val (.int .i64 (at_))), (10, .val (.int .i64 (rv back (dlS s.toNat) st))), (11, .val (.int .i64 x.2.2))]) (fun x => 0 ≤ x.2.2 ∧ x.2.2 ≤ 10 ∧ ∀ i, i < x.2.2.toNat → btN set.toNat i = true → ¬ dgt at_.toNat i + rv back (dlS (set.toNat ^^^ p2 i)) i = rv back (dlS set.toNat) at_) (fun x => (10 - x.2.2).toNat) (_, _, _) (imp_covers ⟨rfl, rfl, rfl, rfl, rfl, rfl, rfl, rfl, rfl, trivial⟩) ?_ ?_
      · (try dsimp only)
        exact ⟨by omega, by omega, fun i hi => absurd hi (Nat.not_lt_zero _)⟩
      · intro x hI
        obtain ⟨t6_p, t7, next⟩ := x
        replace hI : 0 ≤ next ∧ next ≤ 10 ∧ ∀ i, i < next.toNat → btN set.toNat i = true → ¬ dgt at_.toNat i + rv back (dlS (set.toNat ^^^ p2 i)) i = rv back (dlS set.toNat) at_ := hI
        show codeT _ _ _ [(0, .val (.int .i64 st)), (1, .val (.int .i64 (set))), (2, .par 2 (.sl 1024 (tb.map (.int .i64)))), (6, .val t6_p), (7, .val (.int .i64 t7)), (8, .own 13 3 1 O.length (O.map (.int .i64))), (9, .val (.int .i64 (at_))), (10, .val (.int .i64 (rv back (dlS s.toNat) st))), (11, .val (.int .i64 next))] _
        obtain ⟨j1, j2, j3⟩ := hI
        have hsh := shN_le9 set.toNat next.toNat
        have hnx : ((next.toNat : Nat) : Int) = next := by omega
        refine code_seq (fun K7 hK7 => ?_)
        refine code_seq (fun K8 hK8 => ?_)
        refine code_region ?_
        refine list_cons rfl (op_q (q_move rfl (by decide)) ?_)
        refine list_cons rfl (op_q (q_lt rfl rfl (by decide)) ?_)
        refine list_nil ?_
        refine hK8 _ ?_; clear hK8 K8
        refine code_cond_d rfl (fun h2 => ?_) (fun h2 => ?_)
        · skip
          (try simp only [Decidable.not_not] at h2); (try have hdg := dgt_le at_.toNat next.toNat); (try have hbt : btN set.toNat next.toNat = true := btN_iff.1 h2); (try have hbf : ¬ btN set.toNat next.toNat = true := fun z => h2 (btN_iff.2 z)); (try have hp2 := p2_le (k := next.toNat) (by omega)); (try (have hxb := xbF (back := back) (s := set.toNat) (by omega) (by omega) hbt; obtain ⟨hxr, hxr2, hrb, hrb3⟩ := hxb)); (try (have hrb2 := rv_nn back _ (dlS set.toNat) at_ rfl; have hdl2 := dlS_len set.toNat))
          refine code_skip ?_
          refine hK7 _ ?_; clear hK7 K7
          refine code_seq (fun K9 hK9 => ?_)
          refine code_block ?_
          refine code_seq (fun K10 hK10 => ?_)
          refine code_draw (by kernel_rfl) (by kernel_rfl) ?_
          refine draw_q rfl (q_move rfl (by decide)) ?_
          refine draw_q rfl (q_move rfl (by decide)) ?_
          refine draw_q rfl (by first | exact q_shrN rfl rfl (by decide) (by omega) (by omega) (by omega) | exact q_shrI rfl rfl (by decide) (by omega) (by omega) (by omega) | exact q_shr rfl rfl (by omega) (by decide)) ?_
          refine draw_q rfl (by first | exact q_andI rfl rfl (by decide) (by omega) (by omega) (by omega) (by omega) | exact q_ib rfl rfl rfl (by decide)) ?_
          refine draw_q rfl (q_eq rfl rfl (by decide)) ?_
          refine draw_q rfl (q_move rfl (by decide)) ?_
          refine draw_guard_d rfl rfl rfl rfl (by decide) rfl (by decide) (fun h3 => q_move rfl (by decide)) (fun h3 => ?_) (fun h3 => ?_)
          · simp only [Bool.false_eq_true, if_true, if_false, Decidable.not_not] at h3
            (try simp only [Decidable.not_not] at h3); (try have hdg := dgt_le at_.toNat next.toNat); (try have hbt : btN set.toNat next.toNat = true := btN_iff.1 h3); (try have hbf : ¬ btN set.toNat next.toNat = true := fun z => h3 (btN_iff.2 z)); (try have hp2 := p2_le (k := next.toNat) (by omega)); (try (have hxb := xbF (back := back) (s := set.toNat) (by omega) (by omega) hbt; obtain ⟨hxr, hxr2, hrb, hrb3⟩ := hxb)); (try (have hrb2 := rv_nn back _ (dlS set.toNat) at_ rfl; have hdl2 := dlS_len set.toNat))
            refine draw_guard_y rfl rfl rfl rfl (by decide) rfl (q_move rfl (by decide)) ?_
            refine draw_callW _ (spec_l4Digits _ _ (by omega) (by omega)) rfl rfl rfl (by decide) (wanted_of rfl rfl rfl (by decide)) ?_
            refine draw_guard_y rfl rfl rfl rfl (by decide) rfl (q_move rfl (by decide)) ?_
            refine draw_guard_y rfl rfl rfl rfl (by decide) rfl (q_move rfl (by decide)) ?_
            refine draw_guard_y rfl rfl rfl rfl (by decide) rfl (q_move rfl (by decide)) ?_
            refine draw_guard_y rfl rfl rfl rfl (by decide) rfl (by first | exact q_shl1 rfl rfl (by decide) (by omega) (by omega) | exact q_shlI rfl rfl (by decide) (by omega) (by omega) (by omega) | exact q_shl rfl rfl (by omega) (by decide)) ?_
            refine draw_guard_y rfl rfl rfl rfl (by decide) rfl (by first | exact q_xorI rfl rfl (by decide) (by omega) (by omega) (by omega) (by omega) | exact q_ib rfl rfl rfl (by decide)) ?_
            refine draw_guard_y rfl rfl rfl rfl (by decide) rfl (q_move rfl (by decide)) ?_
            refine draw_guard_y rfl rfl rfl rfl (by decide) rfl (q_indexAddr_rd sl_51 rfl (.inl ⟨_, rfl, rfl⟩) rfl (by omega) (by omega) (by decide)) ?_
            refine draw_guard_y rfl rfl rfl rfl (by decide) rfl (q_indexAddr_arr arr_32 rfl rfl rfl (by omega) (by omega) (by decide)) ?_
            refine draw_guard_y rfl rfl rfl rfl (by decide) rfl (q_load_rd one_3 rfl (.inl ⟨_, (by first | rfl | exact congrArg (SV.rpar _) (TbK_ld (s := s.toNat) (a := st) hT (by omega) (by omega)) | exact congrArg (SV.rpar _) (TbK_ld (s := set.toNat ^^^ p2 next.toNat) (a := next) hT (by omega) (by omega)) | exact congrArg (SV.rpar _) (TbK_ld (s := set.toNat) (a := at_) hT (by omega) (by omega))), rfl⟩) (by decide)) ?_
            refine draw_guard_y rfl rfl rfl rfl (by decide) rfl (by first | exact q_addI rfl rfl (by decide) (by omega) (by omega) | exact q_ib rfl rfl rfl (by decide)) ?_
            refine draw_guard_y rfl rfl rfl rfl (by decide) rfl (q_move rfl (by decide)) ?_
            refine draw_guard_y rfl rfl rfl rfl (by decide) rfl (q_move rfl (by decide)) ?_
            refine draw_guard_y rfl rfl rfl rfl (by decide) rfl (q_move rfl (by decide)) ?_
            refine draw_guard_y rfl rfl rfl rfl (by decide) rfl (q_indexAddr_rd sl_51 rfl (.inl ⟨_, rfl, rfl⟩) rfl (by omega) (by omega) (by decide)) ?_
            refine draw_guard_y rfl rfl rfl rfl (by decide) rfl (q_indexAddr_arr arr_32 rfl rfl rfl (by omega) (by omega) (by decide)) ?_
            refine draw_guard_y rfl rfl rfl rfl (by decide) rfl (q_load_rd one_3 rfl (.inl ⟨_, (by first | rfl | exact congrArg (SV.rpar _) (TbK_ld (s := s.toNat) (a := st) hT (by omega) (by omega)) | exact congrArg (SV.rpar _) (TbK_ld (s := set.toNat ^^^ p2 next.toNat) (a := next) hT (by omega) (by omega)) | exact congrArg (SV.rpar _) (TbK_ld (s := set.toNat) (a := at_) hT (by omega) (by omega))), rfl⟩) (by decide)) ?_
            refine draw_guard_y rfl rfl rfl rfl (by decide) rfl (q_eq rfl rfl (by decide)) ?_
            refine draw_q rfl (q_pick rfl rfl (by decide)) ?_
            refine draw_nil ?_
            refine hK10 _ ?_; clear hK10 K10
            refine codeT.imp (σ' := [(0, _), (1, _), (2, _), (6, _), (7, _), (8, _), (9, _), (10, _), (11, _), (53, _)]) ?_ (imp_covers ⟨rfl, rfl, rfl, rfl, rfl, rfl, rfl, rfl, rfl, rfl, trivial⟩)
            refine code_cond_d rfl (fun h4 => ?_) (fun h4 => ?_)
            · skip
              (try simp only [Decidable.not_not] at h4); (try have hdg := dgt_le at_.toNat next.toNat); (try have hbt : btN set.toNat next.toNat = true := btN_iff.1 h4); (try have hbf : ¬ btN set.toNat next.toNat = true := fun z => h4 (btN_iff.2 z)); (try have hp2 := p2_le (k := next.toNat) (by omega)); (try (have hxb := xbF (back := back) (s := set.toNat) (by omega) (by omega) hbt; obtain ⟨hxr, hxr2, hrb, hrb3⟩ := hxb)); (try (have hrb2 := rv_nn back _ (dlS set.toNat) at_ rfl; have hdl2 := dlS_len set.toNat))
              refine code_seq (fun K11 hK11 => ?_)
              refine code_region ?_
              refine list_cons rfl (op_q (q_move rfl (by decide)) ?_)
              refine list_cons rfl (op_q (q_move rfl (by decide)) ?_)
              refine list_cons rfl (op_buildSlice sl_24 (parts := [(0, .tmp 55)]) rfl rfl rfl (by decide) (by decide) (by decide) rfl ?_)
              refine list_cons rfl (op_append_gen sl_24 (l := 13) (.inl rfl) rfl rfl (l2 := none) (.inl ⟨rfl, (by first | rfl | exact flat_map _ (fun _ => rfl) _)⟩) (by first | rfl | simp | omega) (by omega) (by decide) (by decide) (by decide) ?_)
              refine list_cons rfl (op_q (q_assign rfl (by decide)) ?_)
              refine list_nil ?_
              refine hK11 _ ?_; clear hK11 K11
              refine codeT.imp (σ' := [(0, _), (1, _), (2, _), (6, _), (7, _), (8, _), (9, _), (10, _), (11, _)]) ?_ (imp_covers ⟨rfl, rfl, rfl, rfl, rfl, rfl, rfl, rfl, rfl, trivial⟩)
              refine code_seq (fun K12 hK12 => ?_)
              refine code_region ?_
              refine list_cons rfl (op_q (q_move rfl (by decide)) ?_)
              refine list_cons rfl (op_q (q_move rfl (by decide)) ?_)
              refine list_cons rfl (op_q (by first | exact q_shl1 rfl rfl (by decide) (by omega) (by omega) | exact q_shlI rfl rfl (by decide) (by omega) (by omega) (by omega) | exact q_shl rfl rfl (by omega) (by decide)) ?_)
              refine list_cons rfl (op_q (by first | exact q_xorI rfl rfl (by decide) (by omega) (by omega) (by omega) (by omega) | exact q_ib rfl rfl rfl (by decide)) ?_)
              refine list_cons rfl (op_q (q_assign rfl (by decide)) ?_)
              refine list_nil ?_
              refine hK12 _ ?_; clear hK12 K12
              refine code_seq (fun K13 hK13 => ?_)
              refine code_region ?_
              refine list_cons rfl (op_q (q_move rfl (by decide)) ?_)
              refine list_cons rfl (op_q (q_assign rfl (by decide)) ?_)
              refine list_nil ?_
              refine hK13 _ ?_; clear hK13 K13
              refine code_exit ?_
              refine blk_miss (by decide) ?_
              refine then_x ?_; clear hK9 K9
              refine then_x ?_
              refine blk_hit ?_
              refine blk_n ?_
              refine then_n ⟨(_, _, _, _, _, _, _), imp_covers ⟨rfl, rfl, rfl, rfl, rfl, rfl, rfl, rfl, trivial⟩, ?_, ?_⟩
              · (try dsimp only)
                first
                | (obtain ⟨i, hi, hb, he⟩ := WyK_no (back := back) (a := at_) (s := set.toNat) (by omega) (by omega)
                   exact absurd he (j3 i (by omega) hb))
                | (have hst := WyK_step hW (by omega) (by omega) hbt (by rw [hnx]; assumption) j3
                   rw [hnx] at hst
                   refine ⟨show (0 : Int) ≤ ((set.toNat ^^^ p2 next.toNat : Nat) : Int) ∧ ((set.toNat ^^^ p2 next.toNat : Nat) : Int) < 1024 from by omega, by omega, rfl, O ++ [next], by simp, by simp; rfl, hst⟩)
              · first | (show (((set.toNat ^^^ p2 next.toNat : Nat) : Int)).toNat < set.toNat; omega) | (exfalso; obtain ⟨i, hi, hb, he⟩ := WyK_no (back := back) (a := at_) (s := set.toNat) (by omega) (by omega); exact absurd he (j3 i (by omega) hb))
            (try simp only [Decidable.not_not] at h4); (try have hdg := dgt_le at_.toNat next.toNat); (try have hbt : btN set.toNat next.toNat = true := btN_iff.1 h4); (try have hbf : ¬ btN set.toNat next.toNat = true := fun z => h4 (btN_iff.2 z)); (try have hp2 := p2_le (k := next.toNat) (by omega)); (try (have hxb := xbF (back := back) (s := set.toNat) (by omega) (by omega) hbt; obtain ⟨hxr, hxr2, hrb, hrb3⟩ := hxb)); (try (have hrb2 := rv_nn back _ (dlS set.toNat) at_ rfl; have hdl2 := dlS_len set.toNat))
            refine code_skip ?_
            refine blk_n ?_
            refine hK9 _ ?_; clear hK9 K9
            refine code_region ?_
            refine list_cons rfl (op_q (q_move rfl (by decide)) ?_)
            refine list_cons rfl (op_q (by first | exact q_addI rfl rfl (by decide) (by omega) (by omega) | exact q_ib rfl rfl rfl (by decide)) ?_)
            refine list_cons rfl (op_q (q_assign rfl (by decide)) ?_)
            refine list_nil ?_
            refine then_n ⟨(_, _, _), imp_covers ⟨rfl, rfl, rfl, rfl, rfl, rfl, rfl, rfl, rfl, trivial⟩, ?_, ?_⟩
            · (try dsimp only)
              refine ⟨by omega, by omega, fun i hi hb => ?_⟩
              by_cases e : i = next.toNat
              · subst e
                rw [hnx]
                first | exact absurd hb hbf | assumption
              · exact j3 i (by omega) hb
            · (try dsimp only); omega
          simp only [Bool.false_eq_true, if_true, if_false, Decidable.not_not] at h3
          (try simp only [Decidable.not_not] at h3); (try have hdg := dgt_le at_.toNat next.toNat); (try have hbt : btN set.toNat next.toNat = true := btN_iff.1 h3); (try have hbf : ¬ btN set.toNat next.toNat = true := fun z => h3 (btN_iff.2 z)); (try have hp2 := p2_le (k := next.toNat) (by omega)); (try (have hxb := xbF (back := back) (s := set.toNat) (by omega) (by omega) hbt; obtain ⟨hxr, hxr2, hrb, hrb3⟩ := hxb)); (try (have hrb2 := rv_nn back _ (dlS set.toNat) at_ rfl; have hdl2 := dlS_len set.toNat))
          refine draw_guard_nT rfl rfl rfl rfl (by decide) (by decide) ?_
          refine draw_guard_nT rfl rfl rfl rfl (by decide) (by decide) ?_
          refine draw_guard_nT rfl rfl rfl rfl (by decide) (by decide) ?_
          refine draw_guard_nT rfl rfl rfl rfl (by decide) (by decide) ?_
          refine draw_guard_nT rfl rfl rfl rfl (by decide) (by decide) ?_
          refine draw_guard_nT rfl rfl rfl rfl (by decide) (by decide) ?_
          refine draw_guard_nT rfl rfl rfl rfl (by decide) (by decide) ?_
          refine draw_guard_nT rfl rfl rfl rfl (by decide) (by decide) ?_
          refine draw_guard_nT rfl rfl rfl rfl (by decide) (by decide) ?_
          refine draw_guard_nT rfl rfl rfl rfl (by decide) (by decide) ?_
          refine draw_guard_nT rfl rfl rfl rfl (by decide) (by decide) ?_
          refine draw_guard_nT rfl rfl rfl rfl (by decide) (by decide) ?_
          refine draw_guard_nT rfl rfl rfl rfl (by decide) (by decide) ?_
          refine draw_guard_nT rfl rfl rfl rfl (by decide) (by decide) ?_
          refine draw_guard_nT rfl rfl rfl rfl (by decide) (by decide) ?_
          refine draw_guard_nT rfl rfl rfl rfl (by decide) (by decide) ?_
          refine draw_guard_nT rfl rfl rfl rfl (by decide) (by decide) ?_
          refine draw_guard_nT rfl rfl rfl rfl (by decide) (by decide) ?_
          refine draw_guard_nT rfl rfl rfl rfl (by decide) (by decide) ?_
          refine draw_q rfl (q_pick rfl rfl (by decide)) ?_
          refine draw_nil ?_
          refine hK10 _ ?_; clear hK10 K10
          refine codeT.imp (σ' := [(0, _), (1, _), (2, _), (6, _), (7, _), (8, _), (9, _), (10, _), (11, _), (53, _)]) ?_ (imp_covers ⟨rfl, rfl, rfl, rfl, rfl, rfl, rfl, rfl, rfl, rfl, trivial⟩)
          refine code_cond_f rfl ?_
          refine code_skip ?_
          refine blk_n ?_
          refine hK9 _ ?_; clear hK9 K9
          refine code_region ?_
          refine list_cons rfl (op_q (q_move rfl (by decide)) ?_)
          refine list_cons rfl (op_q (by first | exact q_addI rfl rfl (by decide) (by omega) (by omega) | exact q_ib rfl rfl rfl (by decide)) ?_)
          refine list_cons rfl (op_q (q_assign rfl (by decide)) ?_)
          refine list_nil ?_
          refine then_n ⟨(_, _, _), imp_covers ⟨rfl, rfl, rfl, rfl, rfl, rfl, rfl, rfl, rfl, trivial⟩, ?_, ?_⟩
          · (try dsimp only)
            refine ⟨by omega, by omega, fun i hi hb => ?_⟩
            by_cases e : i = next.toNat
            · subst e
              rw [hnx]
              first | exact absurd hb hbf | assumption
            · exact j3 i (by omega) hb
          · (try dsimp only); omega
        (try simp only [Decidable.not_not] at h2); (try have hdg := dgt_le at_.toNat next.toNat); (try have hbt : btN set.toNat next.toNat = true := btN_iff.1 h2); (try have hbf : ¬ btN set.toNat next.toNat = true := fun z => h2 (btN_iff.2 z)); (try have hp2 := p2_le (k := next.toNat) (by omega)); (try (have hxb := xbF (back := back) (s := set.toNat) (by omega) (by omega) hbt; obtain ⟨hxr, hxr2, hrb, hrb3⟩ := hxb)); (try (have hrb2 := rv_nn back _ (dlS set.toNat) at_ rfl; have hdl2 := dlS_len set.toNat))
        refine code_exit ?_
        refine then_x ?_; clear hK7 K7
        refine then_x ?_
        refine blk_hit ?_
        refine blk_n ?_
        refine then_n ⟨(_, _, _, _, _, _, _), imp_covers ⟨rfl, rfl, rfl, rfl, rfl, rfl, rfl, rfl, trivial⟩, ?_, ?_⟩
        · (try dsimp only)
          first
          | (obtain ⟨i, hi, hb, he⟩ := WyK_no (back := back) (a := at_) (s := set.toNat) (by omega) (by omega)
             exact absurd he (j3 i (by omega) hb))
          | (have hst := WyK_step hW (by omega) (by omega) hbt (by rw [hnx]; assumption) j3
             rw [hnx] at hst
             refine ⟨show (0 : Int) ≤ ((set.toNat ^^^ p2 next.toNat : Nat) : Int) ∧ ((set.toNat ^^^ p2 next.toNat : Nat) : Int) < 1024 from by omega, by omega, rfl, O ++ [next], by simp, by simp; rfl, hst⟩)
        · first | (show (((set.toNat ^^^ p2 next.toNat : Nat) : Int)).toNat < set.toNat; omega) | (exfalso; obtain ⟨i, hi, hb, he⟩ := WyK_no (back := back) (a := at_) (s := set.toNat) (by omega) (by omega); exact absurd he (j3 i (by omega) hb))
    (try simp only [Decidable.not_not] at h1); (try have hdg := dgt_le at_.toNat next.toNat); (try have hbt : btN set.toNat next.toNat = true := btN_iff.1 h1); (try have hbf : ¬ btN set.toNat next.toNat = true := fun z => h1 (btN_iff.2 z)); (try have hp2 := p2_le (k := next.toNat) (by omega)); (try (have hxb := xbF (back := back) (s := set.toNat) (by omega) (by omega) hbt; obtain ⟨hxr, hxr2, hrb, hrb3⟩ := hxb)); (try (have hrb2 := rv_nn back _ (dlS set.toNat) at_ rfl; have hdl2 := dlS_len set.toNat))
    refine code_exit ?_
    refine then_x ?_; clear hK4 K4
    refine then_x ?_
    refine blk_hit ?_
    refine hK3 _ ?_; clear hK3 K3
    refine code_seq (fun K14 hK14 => ?_)
    refine code_region ?_
    refine list_cons rfl (op_q (q_move rfl (by decide)) ?_)
    refine list_cons rfl (op_q (q_move rfl (by decide)) ?_)
    refine list_cons rfl (op_q (q_assign rfl (by decide)) ?_)
    refine list_cons rfl (op_q (q_assign rfl (by decide)) ?_)
    refine list_nil ?_
    refine hK14 _ ?_; clear hK14 K14
    refine code_ret ?_
    refine ends_ret (cs := []) rfl rfl rfl rfl trivial ?_
    first | (have e : set = 0 := (by omega); subst e; rw [WyK_end hW]; done)
theorem spec_l4FirstP (back : Int) (s j : Nat) (tb : List Int) (hs : s < 1024) (hj : j < 10) (hb : btN s j = true) (hT : TbK back tb 10240) : PCalls Tryd.prog 32 [.int .i64 (j : Int), .int .i64 ((s ^^^ p2 j : Nat) : Int), .sl 1024 (tb.map (.int .i64))] (· = [.own 0 3 1 (Pw back s j).length ((Pw back s j).map (.int .i64)), .val (.int .i64 (Cw back s j))]) := by
  have h := spec_l4First (j : Int) ((s ^^^ p2 j : Nat) : Int) back tb (by omega) (by have := (dlS_xor hs hj hb).1; omega) hT
  have e := Pw_of (back := back) hs hj hb
  rw [Int.toNat_natCast, ← e.1, ← e.2] at h
  exact h
theorem spec_l4FirstE (back : Int) (s j : Nat) (a b : Int) (tb : List Int) (ha : a = (j : Int)) (hb2 : b = ((s ^^^ p2 j : Nat) : Int)) (hs : s < 1024) (hj : j < 10) (hb : btN s j = true) (hT : TbK back tb 10240) : PCalls Tryd.prog 32 [.int .i64 a, .int .i64 b, .sl 1024 (tb.map (.int .i64))] (· = [.own 0 3 1 (Pw back s j).length ((Pw back s j).map (.int .i64)), .val (.int .i64 (Cw back s j))]) := by
  subst ha; subst hb2; exact spec_l4FirstP back s j tb hs hj hb hT
theorem spec_l4RestF (back : Int) (hb : back ≤ 9) : PCalls Tryd.prog 31 [.int .i64 back] (· = [.own 0 32 10 1024 ((tbF back).map (.int .i64))]) := by
  refine (spec_l4Rest back hb).mono ?_
  rintro _ ⟨tb, h, rfl⟩
  rw [tbF_of h]
set_option maxRecDepth 8000 in
set_option maxHeartbeats 4000000 in
theorem spec_LeastOrder (l : List Int) (hl : l.length ≤ 1048576) : PCalls Tryd.prog 9 [.sl l.length (l.map (.int .i64))] (fun rs => ∃ b : List Int, (ordK l l.length = true → BstAll (lsC false) (srt l) b) ∧ rs = [.own 0 3 1 (if ordK l l.length = true then b else []).length ((if ordK l l.length = true then b else []).map (.int .i64)), .val (.int .i64 (if ordK l l.length = true then lsC false b else 0)), .val (.bool (decide (ordK l l.length = true)))]) := by
  refine pcalls_of_code (n := 51) az Tryd.func9 (by kernel_rfl) rfl rfl (Nat.le_of_ble_eq_true rfl) (by intro t u h; simp [Tryd.f9] at h) ?_
  refine code_seq (fun K1 hK1 => ?_)
  refine code_region ?_
  refine list_cons rfl (op_q (q_assign rfl (by decide)) ?_)
  refine list_cons rfl (op_q (q_assign rfl (by decide)) ?_)
  refine list_cons rfl (op_q (q_assign rfl (by decide)) ?_)
  refine list_nil ?_
  refine hK1 _ ?_; clear hK1 K1
  refine code_seq (fun K2 hK2 => ?_)
  refine code_seq (fun K3 hK3 => ?_)
  refine code_region ?_
  refine list_cons rfl (op_q (q_move rfl (by decide)) ?_)
  refine list_cons rfl (op_call _ (spec_l4Order _ (by omega)) rfl rfl (by decide) (by decide) (by decide) rfl ?_)
  rintro _ rfl
  refine list_cons rfl (op_q (by first | exact q_notd rfl (by decide) | exact q_not rfl (by decide)) ?_)
  refine list_nil ?_
  refine hK3 _ ?_; clear hK3 K3
  refine codeT.imp (σ' := [(0, _), (2, _), (3, _), (4, _), (14, _)]) ?_ (imp_covers ⟨rfl, rfl, rfl, rfl, rfl, trivial⟩)
  refine code_cond_d rfl (fun h1 => ?_) (fun h1 => ?_)
  · skip
    (try simp only [Decidable.not_not] at h1); (try (have hO : ordK l l.length = true := h1; have hOl := ord_len hO; have hOd := fun (j : Nat) (hj : j < l.length) => (ordK_at hO hj).1; have hos := orS_lt hOd l.length (Nat.le_refl _); have hop := orS_perm hO)); (try have hp2 := p2_le (k := start.toNat) (by omega)); (try have hbt : btN (orS l l.length) start.toNat = true := btN_iff.1 h1); (try have hbf : ¬ btN (orS l l.length) start.toNat = true := fun z => h1 (btN_iff.2 z)); (try have hxr := dlS_xor (s := orS l l.length) (by omega) (by omega) hbt); (try have hxr2 : ((orS l l.length : Nat) : Int).toNat ^^^ ((p2 start.toNat : Nat) : Int).toNat < orS l l.length := hxr.1)
    refine code_seq (fun K4 hK4 => ?_)
    refine code_region ?_
    refine list_cons rfl (op_buildSlice sl_24 (parts := []) rfl rfl rfl (by decide) (by decide) (by decide) rfl ?_)
    refine list_cons rfl (op_q (q_assign rfl (by decide)) ?_)
    refine list_cons rfl (op_q (q_assign rfl (by decide)) ?_)
    refine list_cons rfl (op_q (q_assign rfl (by decide)) ?_)
    refine list_nil ?_
    refine hK4 _ ?_; clear hK4 K4
    refine code_ret ?_
    refine then_r ?_; clear hK2 K2
    refine ends_ret (cs := []) rfl rfl rfl rfl trivial ?_
    first
      | (have hn : ¬ ordK l l.length = true := by assumption
         refine ⟨[], fun z => absurd z hn, ?_⟩
         simp only [if_neg hn, decide_eq_false hn]; first | done | rfl)
      | (have e10 : start.toNat = 10 := by omega
         rw [e10] at hB
         have hL := LoB_best hB hop
         refine ⟨B, fun _ => hL.1, ?_⟩
         simp only [if_pos hO, decide_eq_true hO, hL.2]; first | done | rfl)
  (try simp only [Decidable.not_not] at h1); (try (have hO : ordK l l.length = true := h1; have hOl := ord_len hO; have hOd := fun (j : Nat) (hj : j < l.length) => (ordK_at hO hj).1; have hos := orS_lt hOd l.length (Nat.le_refl _); have hop := orS_perm hO)); (try have hp2 := p2_le (k := start.toNat) (by omega)); (try have hbt : btN (orS l l.length) start.toNat = true := btN_iff.1 h1); (try have hbf : ¬ btN (orS l l.length) start.toNat = true := fun z => h1 (btN_iff.2 z)); (try have hxr := dlS_xor (s := orS l l.length) (by omega) (by omega) hbt); (try have hxr2 : ((orS l l.length : Nat) : Int).toNat ^^^ ((p2 start.toNat : Nat) : Int).toNat < orS l l.length := hxr.1)
  refine code_skip ?_
  refine hK2 _ ?_; clear hK2 K2
  refine code_seq (fun K5 hK5 => ?_)
  refine code_region ?_
  refine list_cons rfl (op_buildSlice sl_24 (parts := []) rfl rfl rfl (by decide) (by decide) (by decide) rfl ?_)
  refine list_cons rfl (op_q (q_move rfl (by decide)) ?_)
  refine list_cons rfl (op_call _ (spec_l4Set l (by omega) hOd) rfl rfl (by decide) (by decide) (by decide) rfl ?_)
  rintro _ rfl
  refine list_cons rfl (op_call _ (spec_l4RestF (-1) (by omega)) rfl rfl (by decide) (by decide) (by decide) rfl ?_)
  rintro _ rfl
  refine list_cons rfl (op_q (q_assign rfl (by decide)) ?_)
  refine list_cons rfl (op_q (q_assign rfl (by decide)) ?_)
  refine list_cons rfl (op_q (q_assign rfl (by decide)) ?_)
  refine list_cons rfl (op_q (q_assign rfl (by decide)) ?_)
  refine list_nil ?_
  refine hK5 _ ?_; clear hK5 K5
  refine codeT.imp (σ' := [(0, _), (2, _), (3, _), (4, _), (5, _), (6, _), (7, _), (8, _)]) ?_ (imp_covers ⟨rfl, rfl, rfl, rfl, rfl, rfl, rfl, rfl, trivial⟩)
  refine code_seq (fun K6 hK6 => ?_)
  refine code_seq (fun K7 hK7 => ?_)
  refine code_region ?_
  refine list_cons rfl (op_q (q_assign rfl (by decide)) ?_)
  refine list_nil ?_
  refine hK7 _ ?_; clear hK7 K7
  refine code_block ?_
  refine code_loop (X := PV × Int × Bool × Nat × List PV × Int × Int) (fun x => [(0, .par 0 (.sl l.length (l.map (.int .i64)))), (2, .val x.1), (3, .val (.int .i64 x.2.1)), (4, .val (.bool x.2.2.1)), (5, .own 16 3 1 x.2.2.2.1 x.2.2.2.2.1), (6, .val (.int .i64 x.2.2.2.2.2.1)), (7, .val (.int .i64 (((orS l l.length : Nat) : Int)))), (8, .own 19 32 10 1024 ((tbF (-1)).map (.int .i64))), (9, .val (.int .i64 x.2.2.2.2.2.2))]) (fun x => 0 ≤ x.2.2.2.2.2.2 ∧ x.2.2.2.2.2.2 ≤ 10 ∧ ∃ B : List Int, x.2.2.2.1 = B.length ∧ x.2.2.2.2.1 = B.map (.int .i64) ∧ LoB (orS l l.length) x.2.2.2.2.2.2.toNat B x.2.2.2.2.2.1) (fun x => (10 - x.2.2.2.2.2.2).toNat) (_, _, _, _, _, _, _) (imp_covers ⟨rfl, rfl, rfl, rfl, rfl, rfl, rfl, rfl, rfl, trivial⟩) ?_ ?_
  · (try dsimp only)
    exact ⟨by omega, by omega, [], rfl, rfl, LoB_0 _⟩
  · intro x hI
    obtain ⟨t2_p, t3, t4, best_n, best_c, least, start⟩ := x
    replace hI : 0 ≤ start ∧ start ≤ 10 ∧ ∃ B : List Int, best_n = B.length ∧ best_c = B.map (.int .i64) ∧ LoB (orS l l.length) start.toNat B least := hI
    show codeT _ _ _ [(0, .par 0 (.sl l.length (l.map (.int .i64)))), (2, .val t2_p), (3, .val (.int .i64 t3)), (4, .val (.bool t4)), (5, .own 16 3 1 best_n best_c), (6, .val (.int .i64 least)), (7, .val (.int .i64 (((orS l l.length : Nat) : Int)))), (8, .own 19 32 10 1024 ((tbF (-1)).map (.int .i64))), (9, .val (.int .i64 start))] _
    obtain ⟨i1, i2, B, rfl, rfl, hB⟩ := hI
    have hBc := LoB_c hB
    have hsh := shN_le9 ((orS l l.length : Nat) : Int).toNat start.toNat
    have hsx : ((start.toNat : Nat) : Int) = start := by omega
    refine code_seq (fun K8 hK8 => ?_)
    refine code_seq (fun K9 hK9 => ?_)
    refine code_region ?_
    refine list_cons rfl (op_q (q_move rfl (by decide)) ?_)
    refine list_cons rfl (op_q (q_lt rfl rfl (by decide)) ?_)
    refine list_nil ?_
    refine hK9 _ ?_; clear hK9 K9
    refine code_cond_d rfl (fun h2 => ?_) (fun h2 => ?_)
    · skip
      (try simp only [Decidable.not_not] at h2); (try (have hO : ordK l l.length = true := h2; have hOl := ord_len hO; have hOd := fun (j : Nat) (hj : j < l.length) => (ordK_at hO hj).1; have hos := orS_lt hOd l.length (Nat.le_refl _); have hop := orS_perm hO)); (try have hp2 := p2_le (k := start.toNat) (by omega)); (try have hbt : btN (orS l l.length) start.toNat = true := btN_iff.1 h2); (try have hbf : ¬ btN (orS l l.length) start.toNat = true := fun z => h2 (btN_iff.2 z)); (try have hxr := dlS_xor (s := orS l l.length) (by omega) (by omega) hbt); (try have hxr2 : ((orS l l.length : Nat) : Int).toNat ^^^ ((p2 start.toNat : Nat) : Int).toNat < orS l l.length := hxr.1)
      refine code_skip ?_
      refine hK8 _ ?_; clear hK8 K8
      refine code_seq (fun K10 hK10 => ?_)
      refine code_block ?_
      refine code_seq (fun K11 hK11 => ?_)
      refine code_region ?_
      refine list_cons rfl (op_q (q_move rfl (by decide)) ?_)
      refine list_cons rfl (op_q (q_move rfl (by decide)) ?_)
      refine list_cons rfl (op_q (by first | exact q_shrN rfl rfl (by decide) (by omega) (by omega) (by omega) | exact q_shrI rfl rfl (by decide) (by omega) (by omega) (by omega) | exact q_shr rfl rfl (by omega) (by decide)) ?_)
      refine list_cons rfl (op_q (by first | exact q_andI rfl rfl (by decide) (by omega) (by omega) (by omega) (by omega) | exact q_ib rfl rfl rfl (by decide)) ?_)
      refine list_cons rfl (op_q (q_eq rfl rfl (by decide)) ?_)
      refine list_nil ?_
      refine hK11 _ ?_; clear hK11 K11
      refine code_cond_d rfl (fun h3 => ?_) (fun h3 => ?_)
      · skip
        (try simp only [Decidable.not_not] at h3); (try (have hO : ordK l l.length = true := h3; have hOl := ord_len hO; have hOd := fun (j : Nat) (hj : j < l.length) => (ordK_at hO hj).1; have hos := orS_lt hOd l.length (Nat.le_refl _); have hop := orS_perm hO)); (try have hp2 := p2_le (k := start.toNat) (by omega)); (try have hbt : btN (orS l l.length) start.toNat = true := btN_iff.1 h3); (try have hbf : ¬ btN (orS l l.length) start.toNat = true := fun z => h3 (btN_iff.2 z)); (try have hxr := dlS_xor (s := orS l l.length) (by omega) (by omega) hbt); (try have hxr2 : ((orS l l.length : Nat) : Int).toNat ^^^ ((p2 start.toNat : Nat) : Int).toNat < orS l l.length := hxr.1)
        refine code_seq (fun K12 hK12 => ?_)
        refine code_region ?_
        refine list_cons rfl (op_q (q_move rfl (by decide)) ?_)
        refine list_cons rfl (op_q (q_move rfl (by decide)) ?_)
        refine list_cons rfl (op_q (q_move rfl (by decide)) ?_)
        refine list_cons rfl (op_q (by first | exact q_shl1 rfl rfl (by decide) (by omega) (by omega) | exact q_shlI rfl rfl (by decide) (by omega) (by omega) (by omega) | exact q_shl rfl rfl (by omega) (by decide)) ?_)
        refine list_cons rfl (op_q (by first | exact q_xorI rfl rfl (by decide) (by omega) (by omega) (by omega) (by omega) | exact q_ib rfl rfl rfl (by decide)) ?_)
        refine list_cons rfl (op_q (q_move rfl (by decide)) ?_)
        refine list_cons rfl (op_call _ (spec_l4FirstE (-1) (orS l l.length) start.toNat _ _ (tbF (-1)) hsx.symm rfl (by omega) (by omega) hbt (tbF_ok (-1))) rfl rfl (by decide) (by decide) (by decide) rfl ?_)
        rintro _ rfl; have hcw := Cw_bd (-1) (orS l l.length) start.toNat
        refine list_cons rfl (op_q (q_move rfl (by decide)) ?_)
        refine list_cons rfl (op_q (q_extract rfl rfl (by decide)) ?_)
        refine list_cons rfl (op_q (q_extract rfl rfl (by decide)) ?_)
        refine list_cons rfl (op_q (q_assign rfl (by decide)) ?_)
        refine list_cons rfl (op_q (q_assign rfl (by decide)) ?_)
        refine list_nil ?_
        refine hK12 _ ?_; clear hK12 K12
        refine codeT.imp (σ' := [(0, _), (2, _), (3, _), (4, _), (5, _), (6, _), (7, _), (8, _), (9, _), (10, _), (11, _)]) ?_ (imp_covers ⟨rfl, rfl, rfl, rfl, rfl, rfl, rfl, rfl, rfl, rfl, rfl, trivial⟩)
        refine code_seq (fun K13 hK13 => ?_)
        refine code_region ?_
        refine list_cons rfl (op_q (q_move rfl (by decide)) ?_)
        refine list_cons rfl (op_q (q_lt rfl rfl (by decide)) ?_)
        refine list_cons rfl (op_q (q_move rfl (by decide)) ?_)
        refine list_guard_d rfl rfl rfl rfl (by decide) rfl (by decide) (fun h4 => ?_) (fun h4 => ?_)
        · simp only [Bool.false_eq_true, if_true, if_false, Decidable.not_not] at h4
          (try simp only [Decidable.not_not] at h4); (try (have hO : ordK l l.length = true := h4; have hOl := ord_len hO; have hOd := fun (j : Nat) (hj : j < l.length) => (ordK_at hO hj).1; have hos := orS_lt hOd l.length (Nat.le_refl _); have hop := orS_perm hO)); (try have hp2 := p2_le (k := start.toNat) (by omega)); (try have hbt : btN (orS l l.length) start.toNat = true := btN_iff.1 h4); (try have hbf : ¬ btN (orS l l.length) start.toNat = true := fun z => h4 (btN_iff.2 z)); (try have hxr := dlS_xor (s := orS l l.length) (by omega) (by omega) hbt); (try have hxr2 : ((orS l l.length : Nat) : Int).toNat ^^^ ((p2 start.toNat : Nat) : Int).toNat < orS l l.length := hxr.1)
          refine id (op_q (q_move rfl (by decide)) ?_)
          refine list_guard_y rfl rfl rfl rfl (by decide) rfl ?_
          refine id (op_q (q_move rfl (by decide)) ?_)
          refine list_guard_y rfl rfl rfl rfl (by decide) rfl ?_
          refine id (op_q (q_lt rfl rfl (by decide)) ?_)
          refine list_cons rfl (op_q (q_pick rfl rfl (by decide)) ?_)
          refine list_nil ?_
          refine hK13 _ ?_; clear hK13 K13
          refine code_cond_d rfl (fun h5 => ?_) (fun h5 => ?_)
          · skip
            (try simp only [Decidable.not_not] at h5); (try (have hO : ordK l l.length = true := h5; have hOl := ord_len hO; have hOd := fun (j : Nat) (hj : j < l.length) => (ordK_at hO hj).1; have hos := orS_lt hOd l.length (Nat.le_refl _); have hop := orS_perm hO)); (try have hp2 := p2_le (k := start.toNat) (by omega)); (try have hbt : btN (orS l l.length) start.toNat = true := btN_iff.1 h5); (try have hbf : ¬ btN (orS l l.length) start.toNat = true := fun z => h5 (btN_iff.2 z)); (try have hxr := dlS_xor (s := orS l l.length) (by omega) (by omega) hbt); (try have hxr2 : ((orS l l.length : Nat) : Int).toNat ^^^ ((p2 start.toNat : Nat) : Int).toNat < orS l l.length := hxr.1)
            refine code_seq (fun K14 hK14 => ?_)
            refine code_region ?_
            refine list_cons rfl (op_q (q_move rfl (by decide)) ?_)
            refine list_cons rfl (op_q (q_assign rfl (by decide)) ?_)
            refine list_nil ?_
            refine hK14 _ ?_; clear hK14 K14
            refine codeT.imp (σ' := [(0, _), (2, _), (3, _), (4, _), (5, _), (6, _), (7, _), (8, _), (9, _), (10, _), (11, _)]) ?_ (imp_covers ⟨rfl, rfl, rfl, rfl, rfl, rfl, rfl, rfl, rfl, rfl, rfl, trivial⟩)
            refine code_region ?_
            refine list_cons rfl (op_q (q_move rfl (by decide)) ?_)
            refine list_cons rfl (op_q (q_assign rfl (by decide)) ?_)
            refine list_nil ?_
            refine blk_n ?_
            refine hK10 _ ?_; clear hK10 K10
            refine code_region ?_
            refine list_cons rfl (op_q (q_move rfl (by decide)) ?_)
            refine list_cons rfl (op_q (by first | exact q_addI rfl rfl (by decide) (by omega) (by omega) | exact q_ib rfl rfl rfl (by decide)) ?_)
            refine list_cons rfl (op_q (q_assign rfl (by decide)) ?_)
            refine list_nil ?_
            refine then_n ⟨(_, _, _, _, _, _, _), (imp_covers (σ' := [(0, _), (2, _), (3, _), (4, _), (5, _), (6, _), (7, _), (8, _), (9, _)]) ⟨rfl, rfl, rfl, rfl, rfl, rfl, rfl, rfl, rfl, trivial⟩).trans ((imp_ren 36 16 (by decide) (by decide) rfl).trans (imp_covers ⟨rfl, rfl, rfl, rfl, rfl, rfl, rfl, rfl, rfl, trivial⟩)), ?_, ?_⟩
            · (try dsimp only)
              refine ⟨by omega, by omega, ?_⟩
              rw [show (start + 1).toNat = start.toNat + 1 by omega]
              first
              | exact ⟨_, rfl, rfl, LoB_noB hB hbf⟩
              | exact ⟨_, rfl, rfl, LoB_new hB (mem_dlS.2 ⟨start.toNat, by omega, hbt, rfl⟩) (by first | exact .inl (by assumption) | exact .inr (by assumption))⟩
              | exact ⟨_, rfl, rfl, LoB_old hB (mem_dlS.2 ⟨start.toNat, by omega, hbt, rfl⟩) (by omega)⟩
            · (try dsimp only); omega
          (try simp only [Decidable.not_not] at h5); (try (have hO : ordK l l.length = true := h5; have hOl := ord_len hO; have hOd := fun (j : Nat) (hj : j < l.length) => (ordK_at hO hj).1; have hos := orS_lt hOd l.length (Nat.le_refl _); have hop := orS_perm hO)); (try have hp2 := p2_le (k := start.toNat) (by omega)); (try have hbt : btN (orS l l.length) start.toNat = true := btN_iff.1 h5); (try have hbf : ¬ btN (orS l l.length) start.toNat = true := fun z => h5 (btN_iff.2 z)); (try have hxr := dlS_xor (s := orS l l.length) (by omega) (by omega) hbt); (try have hxr2 : ((orS l l.length : Nat) : Int).toNat ^^^ ((p2 start.toNat : Nat) : Int).toNat < orS l l.length := hxr.1)
          refine code_skip ?_
          refine blk_n ?_
          refine hK10 _ ?_; clear hK10 K10
          refine codeT.imp (σ' := [(0, _), (2, _), (3, _), (4, _), (5, _), (6, _), (7, _), (8, _), (9, _), (10, _), (11, _)]) ?_ (imp_covers ⟨rfl, rfl, rfl, rfl, rfl, rfl, rfl, rfl, rfl, rfl, rfl, trivial⟩)
          refine code_region ?_
          refine list_cons rfl (op_q (q_move rfl (by decide)) ?_)
          refine list_cons rfl (op_q (by first | exact q_addI rfl rfl (by decide) (by omega) (by omega) | exact q_ib rfl rfl rfl (by decide)) ?_)
          refine list_cons rfl (op_q (q_assign rfl (by decide)) ?_)
          refine list_nil ?_
          refine then_n ⟨(_, _, _, _, _, _, _), imp_covers ⟨rfl, rfl, rfl, rfl, rfl, rfl, rfl, rfl, rfl, trivial⟩, ?_, ?_⟩
          · (try dsimp only)
            refine ⟨by omega, by omega, ?_⟩
            rw [show (start + 1).toNat = start.toNat + 1 by omega]
            first
            | exact ⟨_, rfl, rfl, LoB_noB hB hbf⟩
            | exact ⟨_, rfl, rfl, LoB_new hB (mem_dlS.2 ⟨start.toNat, by omega, hbt, rfl⟩) (by first | exact .inl (by assumption) | exact .inr (by assumption))⟩
            | exact ⟨_, rfl, rfl, LoB_old hB (mem_dlS.2 ⟨start.toNat, by omega, hbt, rfl⟩) (by omega)⟩
          · (try dsimp only); omega
        simp only [Bool.false_eq_true, if_true, if_false, Decidable.not_not] at h4
        (try simp only [Decidable.not_not] at h4); (try (have hO : ordK l l.length = true := h4; have hOl := ord_len hO; have hOd := fun (j : Nat) (hj : j < l.length) => (ordK_at hO hj).1; have hos := orS_lt hOd l.length (Nat.le_refl _); have hop := orS_perm hO)); (try have hp2 := p2_le (k := start.toNat) (by omega)); (try have hbt : btN (orS l l.length) start.toNat = true := btN_iff.1 h4); (try have hbf : ¬ btN (orS l l.length) start.toNat = true := fun z => h4 (btN_iff.2 z)); (try have hxr := dlS_xor (s := orS l l.length) (by omega) (by omega) hbt); (try have hxr2 : ((orS l l.length : Nat) : Int).toNat ^^^ ((p2 start.toNat : Nat) : Int).toNat < orS l l.length := hxr.1)
        refine list_guard_nT rfl rfl rfl rfl (by decide) (by decide) ?_
        refine list_guard_nT rfl rfl rfl rfl (by decide) (by decide) ?_
        refine list_cons rfl (op_q (q_pick rfl rfl (by decide)) ?_)
        refine list_nil ?_
        refine hK13 _ ?_; clear hK13 K13
        refine code_cond_t rfl ?_
        refine code_seq (fun K15 hK15 => ?_)
        refine code_region ?_
        refine list_cons rfl (op_q (q_move rfl (by decide)) ?_)
        refine list_cons rfl (op_q (q_assign rfl (by decide)) ?_)
        refine list_nil ?_
        refine hK15 _ ?_; clear hK15 K15
        refine codeT.imp (σ' := [(0, _), (2, _), (3, _), (4, _), (5, _), (6, _), (7, _), (8, _), (9, _), (10, _), (11, _)]) ?_ (imp_covers ⟨rfl, rfl, rfl, rfl, rfl, rfl, rfl, rfl, rfl, rfl, rfl, trivial⟩)
        refine code_region ?_
        refine list_cons rfl (op_q (q_move rfl (by decide)) ?_)
        refine list_cons rfl (op_q (q_assign rfl (by decide)) ?_)
        refine list_nil ?_
        refine blk_n ?_
        refine hK10 _ ?_; clear hK10 K10
        refine code_region ?_
        refine list_cons rfl (op_q (q_move rfl (by decide)) ?_)
        refine list_cons rfl (op_q (by first | exact q_addI rfl rfl (by decide) (by omega) (by omega) | exact q_ib rfl rfl rfl (by decide)) ?_)
        refine list_cons rfl (op_q (q_assign rfl (by decide)) ?_)
        refine list_nil ?_
        refine then_n ⟨(_, _, _, _, _, _, _), (imp_covers (σ' := [(0, _), (2, _), (3, _), (4, _), (5, _), (6, _), (7, _), (8, _), (9, _)]) ⟨rfl, rfl, rfl, rfl, rfl, rfl, rfl, rfl, rfl, trivial⟩).trans ((imp_ren 36 16 (by decide) (by decide) rfl).trans (imp_covers ⟨rfl, rfl, rfl, rfl, rfl, rfl, rfl, rfl, rfl, trivial⟩)), ?_, ?_⟩
        · (try dsimp only)
          refine ⟨by omega, by omega, ?_⟩
          rw [show (start + 1).toNat = start.toNat + 1 by omega]
          first
          | exact ⟨_, rfl, rfl, LoB_noB hB hbf⟩
          | exact ⟨_, rfl, rfl, LoB_new hB (mem_dlS.2 ⟨start.toNat, by omega, hbt, rfl⟩) (by first | exact .inl (by assumption) | exact .inr (by assumption))⟩
          | exact ⟨_, rfl, rfl, LoB_old hB (mem_dlS.2 ⟨start.toNat, by omega, hbt, rfl⟩) (by omega)⟩
        · (try dsimp only); omega
      (try simp only [Decidable.not_not] at h3); (try (have hO : ordK l l.length = true := h3; have hOl := ord_len hO; have hOd := fun (j : Nat) (hj : j < l.length) => (ordK_at hO hj).1; have hos := orS_lt hOd l.length (Nat.le_refl _); have hop := orS_perm hO)); (try have hp2 := p2_le (k := start.toNat) (by omega)); (try have hbt : btN (orS l l.length) start.toNat = true := btN_iff.1 h3); (try have hbf : ¬ btN (orS l l.length) start.toNat = true := fun z => h3 (btN_iff.2 z)); (try have hxr := dlS_xor (s := orS l l.length) (by omega) (by omega) hbt); (try have hxr2 : ((orS l l.length : Nat) : Int).toNat ^^^ ((p2 start.toNat : Nat) : Int).toNat < orS l l.length := hxr.1)
      refine code_skip ?_
      refine blk_n ?_
      refine hK10 _ ?_; clear hK10 K10
      refine codeT.imp (σ' := [(0, _), (2, _), (3, _), (4, _), (5, _), (6, _), (7, _), (8, _), (9, _)]) ?_ (imp_covers ⟨rfl, rfl, rfl, rfl, rfl, rfl, rfl, rfl, rfl, trivial⟩)
      refine code_region ?_
      refine list_cons rfl (op_q (q_move rfl (by decide)) ?_)
      refine list_cons rfl (op_q (by first | exact q_addI rfl rfl (by decide) (by omega) (by omega) | exact q_ib rfl rfl rfl (by decide)) ?_)
      refine list_cons rfl (op_q (q_assign rfl (by decide)) ?_)
      refine list_nil ?_
      refine then_n ⟨(_, _, _, _, _, _, _), imp_covers ⟨rfl, rfl, rfl, rfl, rfl, rfl, rfl, rfl, rfl, trivial⟩, ?_, ?_⟩
      · (try dsimp only)
        refine ⟨by omega, by omega, ?_⟩
        rw [show (start + 1).toNat = start.toNat + 1 by omega]
        first
        | exact ⟨_, rfl, rfl, LoB_noB hB hbf⟩
        | exact ⟨_, rfl, rfl, LoB_new hB (mem_dlS.2 ⟨start.toNat, by omega, hbt, rfl⟩) (by first | exact .inl (by assumption) | exact .inr (by assumption))⟩
        | exact ⟨_, rfl, rfl, LoB_old hB (mem_dlS.2 ⟨start.toNat, by omega, hbt, rfl⟩) (by omega)⟩
      · (try dsimp only); omega
    (try simp only [Decidable.not_not] at h2); (try (have hO : ordK l l.length = true := h2; have hOl := ord_len hO; have hOd := fun (j : Nat) (hj : j < l.length) => (ordK_at hO hj).1; have hos := orS_lt hOd l.length (Nat.le_refl _); have hop := orS_perm hO)); (try have hp2 := p2_le (k := start.toNat) (by omega)); (try have hbt : btN (orS l l.length) start.toNat = true := btN_iff.1 h2); (try have hbf : ¬ btN (orS l l.length) start.toNat = true := fun z => h2 (btN_iff.2 z)); (try have hxr := dlS_xor (s := orS l l.length) (by omega) (by omega) hbt); (try have hxr2 : ((orS l l.length : Nat) : Int).toNat ^^^ ((p2 start.toNat : Nat) : Int).toNat < orS l l.length := hxr.1)
    refine code_exit ?_
    refine then_x ?_; clear hK8 K8
    refine then_x ?_
    refine blk_hit ?_
    refine hK6 _ ?_; clear hK6 K6
    refine code_seq (fun K16 hK16 => ?_)
    refine code_region ?_
    refine list_cons rfl (op_q (q_move rfl (by decide)) ?_)
    refine list_cons rfl (op_q (q_move rfl (by decide)) ?_)
    refine list_cons rfl (op_call _ (spec_l1Most _ _) rfl rfl (by decide) (by decide) (by decide) rfl ?_)
    rintro _ rfl
    refine list_cons rfl (op_q (q_assign rfl (by decide)) ?_)
    refine list_cons rfl (op_q (q_assign rfl (by decide)) ?_)
    refine list_cons rfl (op_q (q_assign rfl (by decide)) ?_)
    refine list_nil ?_
    refine hK16 _ ?_; clear hK16 K16
    refine codeT.imp (σ' := [(0, _), (2, _), (3, _), (4, _), (5, _), (6, _), (7, _), (8, _), (9, _)]) ?_ (imp_covers ⟨rfl, rfl, rfl, rfl, rfl, rfl, rfl, rfl, rfl, trivial⟩)
    refine code_ret ?_
    refine ends_ret (cs := []) rfl rfl rfl rfl trivial ?_
    first
      | (have hn : ¬ ordK l l.length = true := by assumption
         refine ⟨[], fun z => absurd z hn, ?_⟩
         simp only [if_neg hn, decide_eq_false hn]; first | done | rfl)
      | (have e10 : start.toNat = 10 := by omega
         rw [e10] at hB
         have hL := LoB_best hB hop
         refine ⟨B, fun _ => hL.1, ?_⟩
         simp only [if_pos hO, decide_eq_true hO, hL.2]; first | done | rfl)
set_option maxRecDepth 8000 in
set_option maxHeartbeats 4000000 in
theorem spec_LeastRing (l : List Int) (hl : l.length ≤ 1048576) : PCalls Tryd.prog 12 [.sl l.length (l.map (.int .i64))] (fun rs => ∃ b : List Int, (ordK l l.length = true → BstAll (lsC true) (srt l) b) ∧ rs = [.own 0 3 1 (if ordK l l.length = true then b else []).length ((if ordK l l.length = true then b else []).map (.int .i64)), .val (.int .i64 (if ordK l l.length = true then lsC true b else 0)), .val (.bool (decide (ordK l l.length = true)))]) := by
  refine pcalls_of_code (n := 38) az Tryd.func12 (by kernel_rfl) rfl rfl (Nat.le_of_ble_eq_true rfl) (by intro t u h; simp [Tryd.f12] at h) ?_
  refine code_seq (fun K1 hK1 => ?_)
  refine code_region ?_
  refine list_cons rfl (op_q (q_assign rfl (by decide)) ?_)
  refine list_cons rfl (op_q (q_assign rfl (by decide)) ?_)
  refine list_cons rfl (op_q (q_assign rfl (by decide)) ?_)
  refine list_nil ?_
  refine hK1 _ ?_; clear hK1 K1
  refine code_seq (fun K2 hK2 => ?_)
  refine code_seq (fun K3 hK3 => ?_)
  refine code_region ?_
  refine list_cons rfl (op_q (q_move rfl (by decide)) ?_)
  refine list_cons rfl (op_call _ (spec_l4Order _ (by omega)) rfl rfl (by decide) (by decide) (by decide) rfl ?_)
  rintro _ rfl
  refine list_cons rfl (op_q (by first | exact q_notd rfl (by decide) | exact q_not rfl (by decide)) ?_)
  refine list_nil ?_
  refine hK3 _ ?_; clear hK3 K3
  refine codeT.imp (σ' := [(0, _), (2, _), (3, _), (4, _), (11, _)]) ?_ (imp_covers ⟨rfl, rfl, rfl, rfl, rfl, trivial⟩)
  refine code_cond_d rfl (fun h1 => ?_) (fun h1 => ?_)
  · skip
    (try simp only [Decidable.not_not] at h1); (try (have hO : ordK l l.length = true := h1; have hOl := ord_len hO; have hOd := fun (j : Nat) (hj : j < l.length) => (ordK_at hO hj).1; have hos := orS_lt hOd l.length (Nat.le_refl _); have hop := orS_perm hO)); (try have hp2 := p2_le (k := start.toNat) (by omega)); (try have hbt : btN (orS l l.length) start.toNat = true := btN_iff.1 h1); (try have hbf : ¬ btN (orS l l.length) start.toNat = true := fun z => h1 (btN_iff.2 z)); (try have hxr := dlS_xor (s := orS l l.length) (by omega) (by omega) hbt); (try have hxr2 : ((orS l l.length : Nat) : Int).toNat ^^^ ((p2 start.toNat : Nat) : Int).toNat < orS l l.length := hxr.1)
    refine code_seq (fun K4 hK4 => ?_)
    refine code_region ?_
    refine list_cons rfl (op_buildSlice sl_24 (parts := []) rfl rfl rfl (by decide) (by decide) (by decide) rfl ?_)
    refine list_cons rfl (op_q (q_assign rfl (by decide)) ?_)
    refine list_cons rfl (op_q (q_assign rfl (by decide)) ?_)
    refine list_cons rfl (op_q (q_assign rfl (by decide)) ?_)
    refine list_nil ?_
    refine hK4 _ ?_; clear hK4 K4
    refine code_ret ?_
    refine then_r ?_; clear hK2 K2
    refine ends_ret (cs := []) rfl rfl rfl rfl trivial ?_
    first
      | (have hn : ¬ ordK l l.length = true := by assumption
         refine ⟨[], fun z => absurd z hn, ?_⟩
         simp only [if_neg hn, decide_eq_false hn]; first | done | rfl)
      | (have hR := ring_best (l := l) (m := ((start.toNat : Nat) : Int)) (mem_dlS.2 ⟨start.toNat, by omega, hbt, rfl⟩) (ring_min i3) hop
         rw [hsx] at hR
         refine ⟨_, fun _ => hR.1, ?_⟩
         simp only [if_pos hO, decide_eq_true hO, ← hR.2]; first | done | rfl | (rw [hsx]; done) | (rw [hsx]; rfl))
      | (have hR := ring_none (l := l) (fun i hi => i3 i (by omega)) hop
         refine ⟨[], fun _ => hR, ?_⟩
         simp only [if_pos hO, decide_eq_true hO]; first | done | rfl)
  (try simp only [Decidable.not_not] at h1); (try (have hO : ordK l l.length = true := h1; have hOl := ord_len hO; have hOd := fun (j : Nat) (hj : j < l.length) => (ordK_at hO hj).1; have hos := orS_lt hOd l.length (Nat.le_refl _); have hop := orS_perm hO)); (try have hp2 := p2_le (k := start.toNat) (by omega)); (try have hbt : btN (orS l l.length) start.toNat = true := btN_iff.1 h1); (try have hbf : ¬ btN (orS l l.length) start.toNat = true := fun z => h1 (btN_iff.2 z)); (try have hxr := dlS_xor (s := orS l l.length) (by omega) (by omega) hbt); (try have hxr2 : ((orS l l.length : Nat) : Int).toNat ^^^ ((p2 start.toNat : Nat) : Int).toNat < orS l l.length := hxr.1)
  refine code_skip ?_
  refine hK2 _ ?_; clear hK2 K2
  refine code_seq (fun K5 hK5 => ?_)
  refine code_region ?_
  refine list_cons rfl (op_q (q_move rfl (by decide)) ?_)
  refine list_cons rfl (op_call _ (spec_l4Set l (by omega) hOd) rfl rfl (by decide) (by decide) (by decide) rfl ?_)
  rintro _ rfl
  refine list_cons rfl (op_q (q_assign rfl (by decide)) ?_)
  refine list_nil ?_
  refine hK5 _ ?_; clear hK5 K5
  refine codeT.imp (σ' := [(0, _), (2, _), (3, _), (4, _), (5, _)]) ?_ (imp_covers ⟨rfl, rfl, rfl, rfl, rfl, trivial⟩)
  refine code_seq (fun K6 hK6 => ?_)
  refine code_seq (fun K7 hK7 => ?_)
  refine code_region ?_
  refine list_cons rfl (op_q (q_assign rfl (by decide)) ?_)
  refine list_nil ?_
  refine hK7 _ ?_; clear hK7 K7
  refine code_block ?_
  refine code_loop (X := PV × Int × Bool × Int) (fun x => [(0, .par 0 (.sl l.length (l.map (.int .i64)))), (2, .val x.1), (3, .val (.int .i64 x.2.1)), (4, .val (.bool x.2.2.1)), (5, .val (.int .i64 (((orS l l.length : Nat) : Int)))), (6, .val (.int .i64 x.2.2.2))]) (fun x => 0 ≤ x.2.2.2 ∧ x.2.2.2 ≤ 10 ∧ ∀ i, i < x.2.2.2.toNat → ¬ btN (orS l l.length) i = true) (fun x => (10 - x.2.2.2).toNat) (_, _, _, _) (imp_covers ⟨rfl, rfl, rfl, rfl, rfl, rfl, trivial⟩) ?_ ?_
  · (try dsimp only)
    exact ⟨by omega, by omega, fun i hi => absurd hi (Nat.not_lt_zero _)⟩
  · intro x hI
    obtain ⟨t2_p, t3, t4, start⟩ := x
    replace hI : 0 ≤ start ∧ start ≤ 10 ∧ ∀ i, i < start.toNat → ¬ btN (orS l l.length) i = true := hI
    show codeT _ _ _ [(0, .par 0 (.sl l.length (l.map (.int .i64)))), (2, .val t2_p), (3, .val (.int .i64 t3)), (4, .val (.bool t4)), (5, .val (.int .i64 (((orS l l.length : Nat) : Int)))), (6, .val (.int .i64 start))] _
    obtain ⟨i1, i2, i3⟩ := hI
    have hsh := shN_le9 ((orS l l.length : Nat) : Int).toNat start.toNat
    have hsx : ((start.toNat : Nat) : Int) = start := by omega
    refine code_seq (fun K8 hK8 => ?_)
    refine code_seq (fun K9 hK9 => ?_)
    refine code_region ?_
    refine list_cons rfl (op_q (q_move rfl (by decide)) ?_)
    refine list_cons rfl (op_q (q_lt rfl rfl (by decide)) ?_)
    refine list_nil ?_
    refine hK9 _ ?_; clear hK9 K9
    refine code_cond_d rfl (fun h2 => ?_) (fun h2 => ?_)
    · skip
      (try simp only [Decidable.not_not] at h2); (try (have hO : ordK l l.length = true := h2; have hOl := ord_len hO; have hOd := fun (j : Nat) (hj : j < l.length) => (ordK_at hO hj).1; have hos := orS_lt hOd l.length (Nat.le_refl _); have hop := orS_perm hO)); (try have hp2 := p2_le (k := start.toNat) (by omega)); (try have hbt : btN (orS l l.length) start.toNat = true := btN_iff.1 h2); (try have hbf : ¬ btN (orS l l.length) start.toNat = true := fun z => h2 (btN_iff.2 z)); (try have hxr := dlS_xor (s := orS l l.length) (by omega) (by omega) hbt); (try have hxr2 : ((orS l l.length : Nat) : Int).toNat ^^^ ((p2 start.toNat : Nat) : Int).toNat < orS l l.length := hxr.1)
      refine code_skip ?_
      refine hK8 _ ?_; clear hK8 K8
      refine code_seq (fun K10 hK10 => ?_)
      refine code_block ?_
      refine code_seq (fun K11 hK11 => ?_)
      refine code_region ?_
      refine list_cons rfl (op_q (q_move rfl (by decide)) ?_)
      refine list_cons rfl (op_q (q_move rfl (by decide)) ?_)
      refine list_cons rfl (op_q (by first | exact q_shrN rfl rfl (by decide) (by omega) (by omega) (by omega) | exact q_shrI rfl rfl (by decide) (by omega) (by omega) (by omega) | exact q_shr rfl rfl (by omega) (by decide)) ?_)
      refine list_cons rfl (op_q (by first | exact q_andI rfl rfl (by decide) (by omega) (by omega) (by omega) (by omega) | exact q_ib rfl rfl rfl (by decide)) ?_)
      refine list_cons rfl (op_q (q_eq rfl rfl (by decide)) ?_)
      refine list_nil ?_
      refine hK11 _ ?_; clear hK11 K11
      refine code_cond_d rfl (fun h3 => ?_) (fun h3 => ?_)
      · skip
        (try simp only [Decidable.not_not] at h3); (try (have hO : ordK l l.length = true := h3; have hOl := ord_len hO; have hOd := fun (j : Nat) (hj : j < l.length) => (ordK_at hO hj).1; have hos := orS_lt hOd l.length (Nat.le_refl _); have hop := orS_perm hO)); (try have hp2 := p2_le (k := start.toNat) (by omega)); (try have hbt : btN (orS l l.length) start.toNat = true := btN_iff.1 h3); (try have hbf : ¬ btN (orS l l.length) start.toNat = true := fun z => h3 (btN_iff.2 z)); (try have hxr := dlS_xor (s := orS l l.length) (by omega) (by omega) hbt); (try have hxr2 : ((orS l l.length : Nat) : Int).toNat ^^^ ((p2 start.toNat : Nat) : Int).toNat < orS l l.length := hxr.1)
        refine code_seq (fun K12 hK12 => ?_)
        refine any_start fun ob2_0 => ?_
        refine any_op (rd := [6]) ob2_0 rfl rfl rfl (anyT_quiet [(6, _)] ⟨rfl, trivial⟩ rfl (q_move rfl (by decide))) (fun ob2_1 => ?_)
        simp only [List.cons_append, List.nil_append] at ob2_1
        refine any_op (rd := [5]) ob2_1 rfl rfl rfl (anyT_quiet [(5, _)] ⟨rfl, trivial⟩ rfl (q_move rfl (by decide))) (fun ob2_2 => ?_)
        simp only [List.cons_append, List.nil_append] at ob2_2
        refine any_op (rd := [6]) ob2_2 rfl rfl rfl (anyT_quiet [(6, _)] ⟨rfl, trivial⟩ rfl (q_move rfl (by decide))) (fun ob2_3 => ?_)
        simp only [List.cons_append, List.nil_append] at ob2_3
        refine any_op (rd := [27]) ob2_3 rfl rfl rfl (anyT_quiet [(27, _)] ⟨rfl, trivial⟩ rfl (by first | exact q_shl1 rfl rfl (by decide) (by omega) (by omega) | exact q_shlI rfl rfl (by decide) (by omega) (by omega) (by omega) | exact q_shl rfl rfl (by omega) (by decide))) (fun ob2_4 => ?_)
        simp only [List.cons_append, List.nil_append] at ob2_4
        refine any_op (rd := [26, 28]) ob2_4 rfl rfl rfl (anyT_quiet [(26, _), (28, _)] ⟨rfl, rfl, trivial⟩ rfl (by first | exact q_xorI rfl rfl (by decide) (by omega) (by omega) (by omega) (by omega) | exact q_ib rfl rfl rfl (by decide))) (fun ob2_5 => ?_)
        simp only [List.cons_append, List.nil_append] at ob2_5
        refine any_op (rd := [6]) ob2_5 rfl rfl rfl (anyT_quiet [(6, _)] ⟨rfl, trivial⟩ rfl (q_move rfl (by decide))) (fun ob2_6 => ?_)
        simp only [List.cons_append, List.nil_append] at ob2_6
        refine any_op (rd := [30]) ob2_6 rfl rfl rfl (fun σ hag hfr => by have e30 : σ.at 30 = some _ := (hag 30 (by decide)).trans rfl; exact op_call _ (spec_l4RestF start (by omega)) (evs_cons e30 evs_nil) rfl (by decide) (by decide) (by decide) hfr (fun rs hR => by subst hR; rfl)) (fun ob2_7 => ?_)
        simp only [List.cons_append, List.nil_append] at ob2_7
        refine any_op (rd := [25, 29, 31]) ob2_7 rfl rfl rfl (fun σ hag hfr => by have e25 : σ.at 25 = some _ := (hag 25 (by decide)).trans rfl; have e29 : σ.at 29 = some _ := (hag 29 (by decide)).trans rfl; have e31 : σ.at 31 = some _ := (hag 31 (by decide)).trans rfl; exact op_call _ (spec_l4FirstE start (orS l l.length) start.toNat _ _ (tbF start) hsx.symm rfl (by omega) (by omega) hbt (tbF_ok start)) (evs_cons e25 (evs_cons e29 (evs_cons e31 evs_nil))) rfl (by decide) (by decide) (by decide) hfr (fun rs hR => by subst hR; rfl)) (fun ob2_8 => ?_)
        simp only [List.cons_append, List.nil_append] at ob2_8
        refine any_op (rd := [32]) ob2_8 rfl rfl rfl (anyT_quiet [(32, _)] ⟨rfl, trivial⟩ rfl (q_move rfl (by decide))) (fun ob2_9 => ?_)
        simp only [List.cons_append, List.nil_append] at ob2_9
        refine any_op (rd := [24]) ob2_9 rfl rfl rfl (anyT_quiet [(24, _)] ⟨rfl, trivial⟩ rfl (q_extract rfl rfl (by decide))) (fun ob2_10 => ?_)
        simp only [List.cons_append, List.nil_append] at ob2_10
        refine any_op (rd := [24]) ob2_10 rfl rfl rfl (anyT_quiet [(24, _)] ⟨rfl, trivial⟩ rfl (q_extract rfl rfl (by decide))) (fun ob2_11 => ?_)
        simp only [List.cons_append, List.nil_append] at ob2_11
        refine any_op (rd := [33]) ob2_11 rfl rfl rfl (anyT_quiet [(33, _)] ⟨rfl, trivial⟩ rfl (q_assign rfl (by decide))) (fun ob2_12 => ?_)
        simp only [List.cons_append, List.nil_append] at ob2_12
        refine any_end [[], [], [], [2], [1, 2, 3], [], [5], [0, 1, 2, 3, 4, 5, 6], [0, 1, 2, 3, 4, 5, 6, 7], [0, 1, 2, 3, 4, 5, 6, 7, 8], [0, 1, 2, 3, 4, 5, 6, 7, 8], [0, 1, 2, 3, 4, 5, 6, 7, 8, 9], [0, 1, 2, 3, 4, 5, 6, 7, 8, 9, 10, 11]] ob2_12 (by kernel_rfl) (Nat.le_of_ble_eq_true rfl) (by decide) (by decide) (by kernel_rfl) (by kernel_rfl) (by kernel_rfl) (by kernel_rfl) (by kernel_rfl) ?_
        clear ob2_0 ob2_1 ob2_2 ob2_3 ob2_4 ob2_5 ob2_6 ob2_7 ob2_8 ob2_9 ob2_10 ob2_11 ob2_12
        refine listT.imp (σ' := [(0, _), (2, _), (3, _), (4, _), (5, _), (6, _), (7, _), (15, _), (16, _), (19, _), (20, _), (21, _), (22, _), (23, _), (24, _), (25, _), (26, _), (27, _), (28, _), (29, _), (30, _), (31, _), (32, _), (33, _), (34, _)]) ?_ (imp_covers ⟨rfl, rfl, rfl, rfl, rfl, rfl, rfl, rfl, rfl, rfl, rfl, rfl, rfl, rfl, rfl, rfl, rfl, rfl, rfl, rfl, rfl, rfl, rfl, rfl, rfl, trivial⟩)
        refine list_cons rfl (op_q (q_assign rfl (by decide)) ?_)
        refine list_nil ?_
        refine hK12 _ ?_; clear hK12 K12
        refine codeT.imp (σ' := [(0, _), (2, _), (3, _), (4, _), (5, _), (6, _), (7, _), (8, _)]) ?_ (imp_covers ⟨rfl, rfl, rfl, rfl, rfl, rfl, rfl, rfl, trivial⟩)
        refine code_seq (fun K13 hK13 => ?_)
        refine code_region ?_
        refine list_cons rfl (op_q (q_move rfl (by decide)) ?_)
        refine list_cons rfl (op_q (q_move rfl (by decide)) ?_)
        refine list_cons rfl (op_q (q_assign rfl (by decide)) ?_)
        refine list_cons rfl (op_q (q_assign rfl (by decide)) ?_)
        refine list_cons rfl (op_q (q_assign rfl (by decide)) ?_)
        refine list_nil ?_
        refine hK13 _ ?_; clear hK13 K13
        refine code_ret ?_
        refine blk_r ?_
        refine then_r ?_; clear hK10 K10
        refine then_r ?_
        refine blk_r ?_
        refine then_r ?_; clear hK6 K6
        refine ends_ret (cs := []) rfl rfl rfl rfl trivial ?_
        first
          | (have hn : ¬ ordK l l.length = true := by assumption
             refine ⟨[], fun z => absurd z hn, ?_⟩
             simp only [if_neg hn, decide_eq_false hn]; first | done | rfl)
          | (have hR := ring_best (l := l) (m := ((start.toNat : Nat) : Int)) (mem_dlS.2 ⟨start.toNat, by omega, hbt, rfl⟩) (ring_min i3) hop
             rw [hsx] at hR
             refine ⟨_, fun _ => hR.1, ?_⟩
             simp only [if_pos hO, decide_eq_true hO, ← hR.2]; first | done | rfl | (rw [hsx]; done) | (rw [hsx]; rfl))
          | (have hR := ring_none (l := l) (fun i hi => i3 i (by omega)) hop
             refine ⟨[], fun _ => hR, ?_⟩
             simp only [if_pos hO, decide_eq_true hO]; first | done | rfl)
      (try simp only [Decidable.not_not] at h3); (try (have hO : ordK l l.length = true := h3; have hOl := ord_len hO; have hOd := fun (j : Nat) (hj : j < l.length) => (ordK_at hO hj).1; have hos := orS_lt hOd l.length (Nat.le_refl _); have hop := orS_perm hO)); (try have hp2 := p2_le (k := start.toNat) (by omega)); (try have hbt : btN (orS l l.length) start.toNat = true := btN_iff.1 h3); (try have hbf : ¬ btN (orS l l.length) start.toNat = true := fun z => h3 (btN_iff.2 z)); (try have hxr := dlS_xor (s := orS l l.length) (by omega) (by omega) hbt); (try have hxr2 : ((orS l l.length : Nat) : Int).toNat ^^^ ((p2 start.toNat : Nat) : Int).toNat < orS l l.length := hxr.1)
      refine code_skip ?_
      refine blk_n ?_
      refine hK10 _ ?_; clear hK10 K10
      refine codeT.imp (σ' := [(0, _), (2, _), (3, _), (4, _), (5, _), (6, _)]) ?_ (imp_covers ⟨rfl, rfl, rfl, rfl, rfl, rfl, trivial⟩)
      refine code_region ?_
      refine list_cons rfl (op_q (q_move rfl (by decide)) ?_)
      refine list_cons rfl (op_q (by first | exact q_addI rfl rfl (by decide) (by omega) (by omega) | exact q_ib rfl rfl rfl (by decide)) ?_)
      refine list_cons rfl (op_q (q_assign rfl (by decide)) ?_)
      refine list_nil ?_
      refine then_n ⟨(_, _, _, _), imp_covers ⟨rfl, rfl, rfl, rfl, rfl, rfl, trivial⟩, ?_, ?_⟩
      · (try dsimp only)
        refine ⟨by omega, by omega, fun i hi => ?_⟩
        by_cases e : i = start.toNat
        · subst e; exact hbf
        · exact i3 i (by omega)
      · (try dsimp only); omega
    (try simp only [Decidable.not_not] at h2); (try (have hO : ordK l l.length = true := h2; have hOl := ord_len hO; have hOd := fun (j : Nat) (hj : j < l.length) => (ordK_at hO hj).1; have hos := orS_lt hOd l.length (Nat.le_refl _); have hop := orS_perm hO)); (try have hp2 := p2_le (k := start.toNat) (by omega)); (try have hbt : btN (orS l l.length) start.toNat = true := btN_iff.1 h2); (try have hbf : ¬ btN (orS l l.length) start.toNat = true := fun z => h2 (btN_iff.2 z)); (try have hxr := dlS_xor (s := orS l l.length) (by omega) (by omega) hbt); (try have hxr2 : ((orS l l.length : Nat) : Int).toNat ^^^ ((p2 start.toNat : Nat) : Int).toNat < orS l l.length := hxr.1)
    refine code_exit ?_
    refine then_x ?_; clear hK8 K8
    refine then_x ?_
    refine blk_hit ?_
    refine hK6 _ ?_; clear hK6 K6
    refine code_seq (fun K14 hK14 => ?_)
    refine code_region ?_
    refine list_cons rfl (op_buildSlice sl_24 (parts := []) rfl rfl rfl (by decide) (by decide) (by decide) rfl ?_)
    refine list_cons rfl (op_q (q_assign rfl (by decide)) ?_)
    refine list_cons rfl (op_q (q_assign rfl (by decide)) ?_)
    refine list_cons rfl (op_q (q_assign rfl (by decide)) ?_)
    refine list_nil ?_
    refine hK14 _ ?_; clear hK14 K14
    refine code_ret ?_
    refine ends_ret (cs := []) rfl rfl rfl rfl trivial ?_
    first
      | (have hn : ¬ ordK l l.length = true := by assumption
         refine ⟨[], fun z => absurd z hn, ?_⟩
         simp only [if_neg hn, decide_eq_false hn]; first | done | rfl)
      | (have hR := ring_best (l := l) (m := ((start.toNat : Nat) : Int)) (mem_dlS.2 ⟨start.toNat, by omega, hbt, rfl⟩) (ring_min i3) hop
         rw [hsx] at hR
         refine ⟨_, fun _ => hR.1, ?_⟩
         simp only [if_pos hO, decide_eq_true hO, ← hR.2]; first | done | rfl | (rw [hsx]; done) | (rw [hsx]; rfl))
      | (have hR := ring_none (l := l) (fun i hi => i3 i (by omega)) hop
         refine ⟨[], fun _ => hR, ?_⟩
         simp only [if_pos hO, decide_eq_true hO]; first | done | rfl)
theorem spec_LeastOrderD (l : List Int) (hl : l.length ≤ 1048576) : PCalls Tryd.prog 9 [.sl l.length (l.map (.int .i64))] (· = [.own 0 3 1 (loD l false).length ((loD l false).map (.int .i64)), .val (.int .i64 (loV l false)), .val (.bool (decide (ordK l l.length = true)))]) := by
  refine (spec_LeastOrder l hl).mono ?_
  rintro _ ⟨b, hb, rfl⟩
  by_cases h : ordK l l.length = true
  · have e := loB_of (hb h)
    subst e
    unfold loD loV
    simp only [if_pos h]
  · unfold loD loV
    simp only [if_neg h]
theorem spec_LeastRingD (l : List Int) (hl : l.length ≤ 1048576) : PCalls Tryd.prog 12 [.sl l.length (l.map (.int .i64))] (· = [.own 0 3 1 (loD l true).length ((loD l true).map (.int .i64)), .val (.int .i64 (loV l true)), .val (.bool (decide (ordK l l.length = true)))]) := by
  refine (spec_LeastRing l hl).mono ?_
  rintro _ ⟨b, hb, rfl⟩
  by_cases h : ordK l l.length = true
  · have e := loB_of (hb h)
    subst e
    unfold loD loV
    simp only [if_pos h]
  · unfold loD loV
    simp only [if_neg h]
set_option maxRecDepth 8000 in
set_option maxHeartbeats 4000000 in
theorem impl_leastOf (l : List Int) (r : Bool) (hl : l.length ≤ 1048576) : MCalls Tryd.prog 29 true none [.sl l.length (l.map (.int .i64)), .bool r] (fun rs _ => rs = [.own 0 3 1 (loD l r).length ((loD l r).map (.int .i64)), .val (.int .i64 (loV l r)), .val (.bool (decide (ordK l l.length = true)))]) := by
  refine mcalls_of_code (n := 21) az Tryd.func29 (by kernel_rfl) rfl rfl (Nat.le_of_ble_eq_true rfl) (by intro t u h; simp [Tryd.f29] at h) ?_
  refine code_seq (fun K1 hK1 => ?_)
  refine code_region ?_
  refine list_cons rfl (op_q (q_assign rfl (by decide)) ?_)
  refine list_cons rfl (op_q (q_assign rfl (by decide)) ?_)
  refine list_cons rfl (op_q (q_assign rfl (by decide)) ?_)
  refine list_nil ?_
  refine hK1 _ ?_; clear hK1 K1
  refine code_seq (fun K2 hK2 => ?_)
  refine code_seq (fun K3 hK3 => ?_)
  refine code_region ?_
  refine list_cons rfl (op_q (q_move rfl (by decide)) ?_)
  refine list_cons rfl (op_call _ (impl_isOrder l (by omega)) rfl rfl (by decide) (by decide) (by decide) rfl ?_)
  rintro _ rfl
  refine list_cons rfl (op_q (by first | exact q_notd rfl (by decide) | exact q_not rfl (by decide)) ?_)
  refine list_nil ?_
  refine hK3 _ ?_; clear hK3 K3
  refine codeT.imp (σ' := [(0, _), (1, _), (4, _), (5, _), (6, _), (11, _)]) ?_ (imp_covers ⟨rfl, rfl, rfl, rfl, rfl, rfl, trivial⟩)
  refine code_cond_d rfl (fun h1 => ?_) (fun h1 => ?_)
  · skip
    (try simp only [Decidable.not_not] at h1); (try (have hO : ordK l l.length = true := h1; have hOl := ord_len hO; have hOd := fun (j : Nat) (hj : j < l.length) => (ordK_at hO hj).1))
    refine code_seq (fun K4 hK4 => ?_)
    refine code_region ?_
    refine list_cons rfl (op_buildSlice sl_24 (parts := []) rfl rfl rfl (by decide) (by decide) (by decide) rfl ?_)
    refine list_cons rfl (op_q (q_assign rfl (by decide)) ?_)
    refine list_cons rfl (op_q (q_assign rfl (by decide)) ?_)
    refine list_cons rfl (op_q (q_assign rfl (by decide)) ?_)
    refine list_nil ?_
    refine hK4 _ ?_; clear hK4 K4
    refine code_ret ?_
    refine then_r ?_; clear hK2 K2
    refine ends_ret (cs := []) rfl rfl rfl rfl trivial ?_
    first
      | (have hn : ¬ ordK l l.length = true := by assumption
         unfold loD loV
         simp only [if_neg hn, decide_eq_false hn]; first | done | rfl)
      | (unfold loD loV
         simp only [if_pos hO, decide_eq_true hO]; first | done | rfl)
  (try simp only [Decidable.not_not] at h1); (try (have hO : ordK l l.length = true := h1; have hOl := ord_len hO; have hOd := fun (j : Nat) (hj : j < l.length) => (ordK_at hO hj).1))
  refine code_skip ?_
  refine hK2 _ ?_; clear hK2 K2
  refine code_seq (fun K5 hK5 => ?_)
  refine code_region ?_
  refine list_cons rfl (op_q (q_move rfl (by decide)) ?_)
  refine list_cons rfl (op_q (q_move rfl (by decide)) ?_)
  refine list_cons rfl (op_callM (impl_leastSequence l r 1 (by omega) hOd ⟨by decide, by decide⟩ (lnk1_ok hO r)) (.tmp 0) 0 [] [.tmp 14, .tmp 15, _] _ rfl rfl (by intro y hy; cases hy) (by decide) (by decide) (by decide) rfl (by intro h; cases h) ?_)
  rintro _ _ ⟨b, hb, rfl⟩; have hlo := loB_of hb; subst hlo
  refine list_cons rfl (op_q (q_move rfl (by decide)) ?_)
  refine list_cons rfl (op_q (q_extract rfl rfl (by decide)) ?_)
  refine list_cons rfl (op_q (q_extract rfl rfl (by decide)) ?_)
  refine list_cons rfl (op_q (q_assign rfl (by decide)) ?_)
  refine list_cons rfl (op_q (q_assign rfl (by decide)) ?_)
  refine list_nil ?_
  refine hK5 _ ?_; clear hK5 K5
  refine codeT.imp (σ' := [(0, _), (1, _), (4, _), (5, _), (6, _), (7, _), (8, _)]) ?_ (imp_covers ⟨rfl, rfl, rfl, rfl, rfl, rfl, rfl, trivial⟩)
  refine code_seq (fun K6 hK6 => ?_)
  refine code_region ?_
  refine list_cons rfl (op_q (q_move rfl (by decide)) ?_)
  refine list_cons rfl (op_q (q_move rfl (by decide)) ?_)
  refine list_cons rfl (op_q (q_assign rfl (by decide)) ?_)
  refine list_cons rfl (op_q (q_assign rfl (by decide)) ?_)
  refine list_cons rfl (op_q (q_assign rfl (by decide)) ?_)
  refine list_nil ?_
  refine hK6 _ ?_; clear hK6 K6
  refine code_ret ?_
  refine ends_ret (cs := []) rfl rfl rfl rfl trivial ?_
  first
    | (have hn : ¬ ordK l l.length = true := by assumption
       unfold loD loV
       simp only [if_neg hn, decide_eq_false hn]; first | done | rfl)
    | (unfold loD loV
       simp only [if_pos hO, decide_eq_true hO]; first | done | rfl)
set_option maxRecDepth 8000 in
set_option maxHeartbeats 4000000 in
theorem impl_LeastOrder (l : List Int) (hl : l.length ≤ 1048576) : MCalls Tryd.prog 8 true none [.sl l.length (l.map (.int .i64))] (fun rs _ => rs = [.own 0 3 1 (loD l false).length ((loD l false).map (.int .i64)), .val (.int .i64 (loV l false)), .val (.bool (decide (ordK l l.length = true)))]) := by
  refine mcalls_of_code (n := 10) az Tryd.func8 (by kernel_rfl) rfl rfl (Nat.le_of_ble_eq_true rfl) (by intro t u h; simp [Tryd.f8] at h) ?_
  refine code_seq (fun K1 hK1 => ?_)
  refine code_region ?_
  refine list_cons rfl (op_q (q_assign rfl (by decide)) ?_)
  refine list_cons rfl (op_q (q_assign rfl (by decide)) ?_)
  refine list_cons rfl (op_q (q_assign rfl (by decide)) ?_)
  refine list_nil ?_
  refine hK1 _ ?_; clear hK1 K1
  refine code_seq (fun K2 hK2 => ?_)
  refine code_region ?_
  refine list_cons rfl (op_q (q_move rfl (by decide)) ?_)
  refine list_cons rfl (op_callM (impl_leastOf l false hl) (.tmp 0) 0 [] [.tmp 5, _] _ rfl rfl (by intro y hy; cases hy) (by decide) (by decide) (by decide) rfl (by intro h; cases h) ?_)
  rintro _ _ rfl
  refine list_cons rfl (op_q (q_extract rfl rfl (by decide)) ?_)
  refine list_cons rfl (op_q (q_extract rfl rfl (by decide)) ?_)
  refine list_cons rfl (op_q (q_extract rfl rfl (by decide)) ?_)
  refine list_cons rfl (op_q (q_assign rfl (by decide)) ?_)
  refine list_cons rfl (op_q (q_assign rfl (by decide)) ?_)
  refine list_cons rfl (op_q (q_assign rfl (by decide)) ?_)
  refine list_nil ?_
  refine hK2 _ ?_; clear hK2 K2
  refine codeT.imp (σ' := [(0, _), (2, _), (3, _), (4, _)]) ?_ (imp_covers ⟨rfl, rfl, rfl, rfl, trivial⟩)
  refine code_ret ?_
  refine ends_ret (cs := []) rfl rfl rfl rfl trivial ?_
  rfl
set_option maxRecDepth 8000 in
set_option maxHeartbeats 4000000 in
theorem impl_LeastRing (l : List Int) (hl : l.length ≤ 1048576) : MCalls Tryd.prog 11 true none [.sl l.length (l.map (.int .i64))] (fun rs _ => rs = [.own 0 3 1 (loD l true).length ((loD l true).map (.int .i64)), .val (.int .i64 (loV l true)), .val (.bool (decide (ordK l l.length = true)))]) := by
  refine mcalls_of_code (n := 10) az Tryd.func11 (by kernel_rfl) rfl rfl (Nat.le_of_ble_eq_true rfl) (by intro t u h; simp [Tryd.f11] at h) ?_
  refine code_seq (fun K1 hK1 => ?_)
  refine code_region ?_
  refine list_cons rfl (op_q (q_assign rfl (by decide)) ?_)
  refine list_cons rfl (op_q (q_assign rfl (by decide)) ?_)
  refine list_cons rfl (op_q (q_assign rfl (by decide)) ?_)
  refine list_nil ?_
  refine hK1 _ ?_; clear hK1 K1
  refine code_seq (fun K2 hK2 => ?_)
  refine code_region ?_
  refine list_cons rfl (op_q (q_move rfl (by decide)) ?_)
  refine list_cons rfl (op_callM (impl_leastOf l true hl) (.tmp 0) 0 [] [.tmp 5, _] _ rfl rfl (by intro y hy; cases hy) (by decide) (by decide) (by decide) rfl (by intro h; cases h) ?_)
  rintro _ _ rfl
  refine list_cons rfl (op_q (q_extract rfl rfl (by decide)) ?_)
  refine list_cons rfl (op_q (q_extract rfl rfl (by decide)) ?_)
  refine list_cons rfl (op_q (q_extract rfl rfl (by decide)) ?_)
  refine list_cons rfl (op_q (q_assign rfl (by decide)) ?_)
  refine list_cons rfl (op_q (q_assign rfl (by decide)) ?_)
  refine list_cons rfl (op_q (q_assign rfl (by decide)) ?_)
  refine list_nil ?_
  refine hK2 _ ?_; clear hK2 K2
  refine codeT.imp (σ' := [(0, _), (2, _), (3, _), (4, _)]) ?_ (imp_covers ⟨rfl, rfl, rfl, rfl, trivial⟩)
  refine code_ret ?_
  refine ends_ret (cs := []) rfl rfl rfl rfl trivial ?_
  rfl
end Go.Proofs.YtppocfcopnaebaaDoor
