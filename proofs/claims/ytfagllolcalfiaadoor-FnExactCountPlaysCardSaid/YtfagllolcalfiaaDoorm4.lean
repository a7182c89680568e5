/- Contracts of functions, walked over the pure layer; each says for which arguments. -/
import Derived.Test.YtfagllolcalfiaaDoorm4Ty
import Derived.Test.YtfagllolcalfiaaDoorTf
import Derived.Test.YtfagllolcalfiaaDoorm1
import Derived.Test.YtfagllolcalfiaaDoorShelf
import Derived.Test.YtfagllolcalfiaaDoorm2
import Derived.Test.YtfagllolcalfiaaDoorm3
import Derived.Test.YtfagllolcalfiaaDoorPwMp
namespace Go.Proofs.YtfagllolcalfiaaDoor
open Go.RowKit m4Ty
set_option linter.unusedVariables false
set_option linter.unusedSimpArgs false

def llt : List Int → List Int → Prop
  | a :: ar, b :: bs => a < b ∨ (a = b ∧ llt ar bs)
  | _, _ => False
instance lltDec : ∀ (a b : List Int), Decidable (llt a b)
  | a :: ar, b :: bs => by unfold llt; have := lltDec ar bs; exact inferInstance
  | [], _ => .isFalse (by simp [llt])
  | _ :: _, [] => .isFalse (by simp [llt])
theorem llt_irr : ∀ a : List Int, ¬ llt a a
  | [], h => h
  | a :: ar, h => by
    rcases h with h | ⟨_, h⟩
    · omega
    · exact llt_irr ar h
theorem llt_trans : ∀ {a b c : List Int}, llt a b → llt b c → llt a c
  | a :: ar, b :: bs, c :: cs, h, k => by
    rcases h with h | ⟨h1, h⟩ <;> rcases k with k | ⟨k1, k⟩
    · exact .inl (by omega)
    · exact .inl (by omega)
    · exact .inl (by omega)
    · exact .inr ⟨by omega, llt_trans h k⟩
  | [], _, _, h, _ => h.elim
  | _ :: _, [], _, h, _ => h.elim
  | _ :: _, _ :: _, [], _, k => k.elim
theorem llt_tri : ∀ {a b : List Int}, a.length = b.length → a = b ∨ llt a b ∨ llt b a
  | [], [], _ => .inl rfl
  | a :: ar, b :: bs, h => by
    rcases llt_tri (a := ar) (b := bs) (by simpa using h) with e | e | e
    · subst e
      rcases Int.lt_trichotomy a b with k | k | k
      · exact .inr (.inl (.inl k))
      · subst k; exact .inl rfl
      · exact .inr (.inr (.inl k))
    · rcases Int.lt_trichotomy a b with k | k | k
      · exact .inr (.inl (.inl k))
      · exact .inr (.inl (.inr ⟨k, e⟩))
      · exact .inr (.inr (.inl k))
    · rcases Int.lt_trichotomy a b with k | k | k
      · exact .inr (.inl (.inl k))
      · exact .inr (.inr (.inr ⟨k.symm, e⟩))
      · exact .inr (.inr (.inl k))
  | [], _ :: _, h => by simp at h
  | _ :: _, [], h => by simp at h
theorem llt_pre : ∀ (p : List Int) {a b : List Int}, llt (p ++ a) (p ++ b) ↔ llt a b
  | [], _, _ => Iff.rfl
  | x :: p, a, b => by
    show (x < x ∨ (x = x ∧ llt (p ++ a) (p ++ b))) ↔ _
    rw [llt_pre p]
    exact ⟨fun h => h.elim (fun z => absurd z (by omega)) (fun z => z.2), fun h => .inr ⟨rfl, h⟩⟩
def Asc (l : List Int) : Prop := l.Pairwise (· ≤ ·)
def Dsc (l : List Int) : Prop := l.Pairwise (fun a b => b ≤ a)
theorem dsc_max : ∀ {t r : List Int}, Dsc t → r.Perm t → ¬ llt t r
  | [], _, _, _, h => h
  | _ :: _, [], _, _, h => h
  | x :: t, y :: r, hd, hp, h => by
    have hd' := List.pairwise_cons.1 hd
    rcases h with h | ⟨h1, h⟩
    · have : y ∈ x :: t := hp.mem_iff.1 List.mem_cons_self
      rcases List.mem_cons.1 this with e | e
      · omega
      · have := hd'.1 y e; omega
    · subst h1
      exact dsc_max hd'.2 hp.cons_inv h
theorem asc_min : ∀ {s r : List Int}, Asc s → r.Perm s → r = s ∨ llt s r
  | [], r, _, hp => .inl (List.Perm.eq_nil hp)
  | x :: s, [], _, hp => by simp at hp
  | x :: s, y :: r, hd, hp => by
    have hd' := List.pairwise_cons.1 hd
    have : y ∈ x :: s := hp.mem_iff.1 List.mem_cons_self
    have hxy : x ≤ y := by
      rcases List.mem_cons.1 this with e | e
      · omega
      · exact hd'.1 y e
    by_cases e : x = y
    · subst e
      rcases asc_min hd'.2 hp.cons_inv with k | k
      · exact .inl (by rw [k])
      · exact .inr (.inr ⟨rfl, k⟩)
    · exact .inr (.inl (by omega))
theorem asc_rev {l : List Int} (h : Dsc l) : Asc l.reverse := by
  unfold Asc; rw [List.pairwise_reverse]; exact h
/-- The sequence that comes next is the least of those that are greater. -/
theorem next_min {P T1 T2 : List Int} {x y : Int} (hT : Dsc (T1 ++ y :: T2)) (hxy : x < y) (h2 : ∀ z ∈ T2, z ≤ x) {b : List Int} (hb : b.Perm (P ++ x :: (T1 ++ y :: T2))) (hl : llt (P ++ x :: (T1 ++ y :: T2)) b) :
    b = P ++ y :: (T1 ++ x :: T2).reverse ∨ llt (P ++ y :: (T1 ++ x :: T2).reverse) b := by
  induction P generalizing b with
  | cons p P ih =>
    cases b with
    | nil => exact hl.elim
    | cons c b =>
      rcases hl with hl | ⟨he, hl⟩
      · exact .inr (.inl hl)
      · subst he
        rcases ih (b := b) hb.cons_inv hl with k | k
        · exact .inl (by rw [k]; rfl)
        · exact .inr (.inr ⟨rfl, k⟩)
  | nil =>
    cases b with
    | nil => exact hl.elim
    | cons z R =>
      simp only [List.nil_append] at *
      rcases hl with hl | ⟨he, hl⟩
      · have hz : z ∈ x :: (T1 ++ y :: T2) := hb.mem_iff.1 List.mem_cons_self
        have hT' := List.pairwise_append.1 hT
        have hyz : y ≤ z := by
          rcases List.mem_cons.1 hz with e | e
          · omega
          · rcases List.mem_append.1 e with e | e
            · exact hT'.2.2 z e y List.mem_cons_self
            · rcases List.mem_cons.1 e with e | e
              · omega
              · have := h2 z e; omega
        by_cases e : y = z
        · subst e
          have hp : R.Perm (T1 ++ x :: T2) := by
            have h1 : (y :: R).Perm (y :: (T1 ++ x :: T2)) := hb.trans (by
              have a1 : (x :: (T1 ++ y :: T2)).Perm (x :: y :: (T1 ++ T2)) := List.Perm.cons x List.perm_middle
              have a2 : (y :: (T1 ++ x :: T2)).Perm (y :: x :: (T1 ++ T2)) := List.Perm.cons y List.perm_middle
              exact a1.trans ((List.Perm.swap y x _).trans a2.symm))
            exact h1.cons_inv
          have hdT : Dsc (T1 ++ x :: T2) := by
            have hy2 := List.pairwise_cons.1 hT'.2.1
            refine List.pairwise_append.2 ⟨hT'.1, List.pairwise_cons.2 ⟨h2, hy2.2⟩, fun a ha c hc => ?_⟩
            have hay := hT'.2.2 a ha y List.mem_cons_self
            rcases List.mem_cons.1 hc with e | e
            · omega
            · have := h2 c e; omega
          rcases asc_min (asc_rev hdT) (hp.trans (List.reverse_perm _).symm) with k | k
          · exact .inl (by rw [k])
          · exact .inr (.inr ⟨rfl, k⟩)
        · exact .inr (.inl (by omega))
      · subst he
        exact absurd hl (dsc_max hT hb.cons_inv)
theorem next_perm {P T1 T2 : List Int} {x y : Int} : (P ++ y :: (T1 ++ x :: T2).reverse).Perm (P ++ x :: (T1 ++ y :: T2)) := by
  refine List.Perm.append_left P ?_
  have a0 : (y :: (T1 ++ x :: T2).reverse).Perm (y :: (T1 ++ x :: T2)) := List.Perm.cons y (List.reverse_perm _)
  have a1 : (x :: (T1 ++ y :: T2)).Perm (x :: y :: (T1 ++ T2)) := List.Perm.cons x List.perm_middle
  have a2 : (y :: (T1 ++ x :: T2)).Perm (y :: x :: (T1 ++ T2)) := List.Perm.cons y List.perm_middle
  exact a0.trans (a2.trans ((List.Perm.swap x y _).trans a1.symm))
theorem next_gt {P T1 T2 : List Int} {x y : Int} (hxy : x < y) : llt (P ++ x :: (T1 ++ y :: T2)) (P ++ y :: (T1 ++ x :: T2).reverse) := by
  rw [llt_pre]; exact .inl hxy
theorem gmid (p q : List Int) (x : Int) : (p ++ x :: q).getD p.length 0 = x := by
  rw [List.getD_eq_getElem?_getD, List.getElem?_append_right (Nat.le_refl _), Nat.sub_self]; rfl
theorem gmid' (p q : List Int) (x : Int) {n : Nat} (h : p.length = n) : (p ++ x :: q).getD n 0 = x := by subst h; exact gmid p q x
theorem smid (p q : List Int) (x v : Int) {n : Nat} (h : p.length = n) : (p ++ x :: q).set n v = p ++ v :: q := by
  subst h
  rw [List.set_append_right _ _ (Nat.le_refl _), Nat.sub_self, List.set_cons_zero]
/-- Two places change their numbers. -/
def swpL (L : List Int) (p q : Nat) : List Int := (L.set p (L.getD q 0)).set q (L.getD p 0)
theorem swpL_len (L : List Int) (p q : Nat) : (swpL L p q).length = L.length := by simp [swpL]
theorem swpL_adj (p q : List Int) (x y : Int) {n : Nat} (h : p.length = n) : swpL (p ++ y :: x :: q) (n + 1) n = p ++ x :: y :: q := by
  have e1 := gmid' p (x :: q) y h
  have e2 : (p ++ y :: x :: q).getD (n + 1) 0 = x := by
    rw [show p ++ y :: x :: q = (p ++ [y]) ++ x :: q by simp]
    exact gmid' _ _ _ (by simp [h])
  unfold swpL
  rw [e1, e2]
  rw [show p ++ y :: x :: q = (p ++ [y]) ++ x :: q by simp, smid _ _ _ _ (by simp [h]), show (p ++ [y]) ++ y :: q = p ++ y :: y :: q by simp, smid _ _ _ _ h]
/-- The part of a row from o on, m places, turned round. -/
def revW (L : List Int) (o m : Nat) : List Int := L.take o ++ ((L.drop o).take m).reverse ++ L.drop (o + m)
theorem lst_ext {a b : List Int} (h : a.length = b.length) (he : ∀ q, q < a.length → a.getD q 0 = b.getD q 0) : a = b := by
  apply List.ext_getElem h
  intro q h1 h2
  have := he q h1
  rwa [List.getD_eq_getElem?_getD, List.getElem?_eq_getElem h1, List.getD_eq_getElem?_getD, List.getElem?_eq_getElem h2] at this
theorem setQ_at (L : List Int) (p : Nat) (v : Int) {q : Nat} (h : p < L.length) : (L.set p v).getD q 0 = if q = p then v else L.getD q 0 := by
  rw [List.getD_eq_getElem?_getD, List.getElem?_set]
  by_cases e : p = q
  · subst e; rw [if_pos rfl, if_pos h, if_pos rfl]; rfl
  · rw [if_neg e, if_neg (fun z => e z.symm), List.getD_eq_getElem?_getD]
theorem get_mapk (l : List Int) {k : Nat} (h : k < l.length) : (l.map (PV.int .i64))[k]? = some (.int .i64 (l.getD k 0)) := by
  have := get_map1 (PV.int .i64) 0 l (k := k) h
  rwa [Nat.mul_one] at this
theorem put_mapk (l : List Int) {k : Nat} (h : k < l.length) (v : Int) : putAt (l.map (PV.int .i64)) k [PV.int .i64 v] = (l.set k v).map (PV.int .i64) := by
  have := put_map1 (PV.int .i64) l h v
  rwa [Nat.mul_one] at this
theorem put2_swp {L : List Int} {p q p' q' : Nat} {v1 v2 : Int} (hp : p < L.length) (hq : q < L.length) (ep : p' = p) (eq : q' = q) (h1 : v1 = L.getD q 0) (h2 : v2 = L.getD p 0) : putAt (putAt (L.map (PV.int .i64)) p' [PV.int .i64 v1]) q' [PV.int .i64 v2] = (swpL L p q).map (PV.int .i64) := by
  subst ep; subst eq; subst h1; subst h2
  rw [put_mapk _ hp, put_mapk _ (by rw [List.length_set]; exact hq)]; rfl
theorem rev_len (l : List Int) : l.reverse.length = l.length := List.length_reverse
/-- Numbers in order. -/
def srt (l : List Int) : List Int := l.mergeSort fun x y => decide (x ≤ y)
theorem srt_len (l : List Int) : (srt l).length = l.length := List.length_mergeSort l
theorem srt_perm (l : List Int) : (srt l).Perm l := List.mergeSort_perm l _
theorem srt_asc (l : List Int) : Asc (srt l) := by
  have := List.pairwise_mergeSort (le := fun x y : Int => decide (x ≤ y)) (fun a b c h1 h2 => by simp at *; omega) (fun a b => by simp; omega) l
  exact this.imp (fun h => by simpa using h)


theorem sort_row (zs : List Int) (h : zs.length ≤ 1000) : RowFn Tryd.prog 115 zs (srt zs) := ⟨fun w b off cap hH hb => (Tryd.slices_Sort_int b off cap zs w hH hb (by omega)).mono fun e w2 ⟨he, n, os, hw⟩ => ⟨he, n, os, hw⟩, fun hl a cap w => Tryd.slices_Sort_int_none a cap w⟩
theorem sort_V (T o m : Nat) (L : List Int) (hn : o + m ≤ L.length) (hb : L.length ≤ 1000) : MCalls Tryd.prog 115 false (some (.vw T o m (L.map (.int .i64)))) [] fun rs cs => rs = [] ∧ cs = (L.take o ++ srt ((L.drop o).take m) ++ L.drop (o + m)).map (.int .i64) :=
  mcalls_vw (enters_of Tryd.func115 (by kernel_rfl) rfl) hn (by rw [srt_len, List.length_take, List.length_drop]; omega) (sort_row _ (by rw [List.length_take, List.length_drop]; omega))
theorem sort_O (L : List Int) (hb : L.length ≤ 1000) : MCalls Tryd.prog 115 false (some (.own 3 1 L.length (L.map (.int .i64)))) [] fun rs cs => rs = [] ∧ cs = (srt L).map (.int .i64) :=
  mcalls_row (enters_of Tryd.func115 (by kernel_rfl) rfl) (srt_len _) (sort_row _ hb)

theorem andNot_0 {c x : Int} (h0 : -9223372036854775808 ≤ c) (h1 : c ≤ 9223372036854775807) (hx : 0 ≤ x ∧ x ≤ 127) : iandNot .i64 c x = 0 ↔ (0 ≤ c ∧ c ≤ 127) ∧ subN c.toNat x.toNat = true := by
  obtain ⟨n, rfl⟩ : ∃ n : Nat, x = n := ⟨x.toNat, by omega⟩
  by_cases hc : 0 ≤ c
  · obtain ⟨m, rfl⟩ : ∃ m : Nat, c = m := ⟨c.toNat, by omega⟩
    rw [iandNot_nat m n (by omega) (by omega), Int.toNat_natCast, Int.toNat_natCast]
    have key : m ^^^ (m &&& n) = 0 ↔ m &&& n = m := by
      constructor
      · intro h
        apply Nat.eq_of_testBit_eq
        intro i
        have h2 : (m ^^^ (m &&& n)).testBit i = false := by rw [h]; exact Nat.zero_testBit i
        rw [Nat.testBit_xor, Nat.testBit_and] at h2
        rw [Nat.testBit_and]
        revert h2
        cases m.testBit i <;> cases n.testBit i <;> simp
      · intro h; rw [h]; exact Nat.xor_self m
    constructor
    · intro h
      have h2 := key.1 (by omega)
      have h3 : subN m n = true := by unfold subN; rw [h2]; exact Nat.beq_refl m
      have := subN_le h3
      exact ⟨by omega, h3⟩
    · rintro ⟨_, h3⟩
      have := key.2 (Nat.eq_of_beq_eq_true h3)
      omega
  · constructor
    · intro h
      exfalso
      have hb1 : (BitVec.ofInt 64 c).toNat = (c + 18446744073709551616).toNat := by rw [BitVec.toNat_ofInt]; omega
      have hb2 : (BitVec.ofInt 64 ((n : Nat) : Int)).toNat = n := ofInt_nat n (by omega)
      have e : (BitVec.ofInt 64 c &&& ~~~ BitVec.ofInt 64 ((n : Nat) : Int)).toNat = (c + 18446744073709551616).toNat ^^^ ((c + 18446744073709551616).toNat &&& n) := by
        rw [bv_andNot, BitVec.toNat_xor, BitVec.toNat_and, hb1, hb2]
      have h63 : ((c + 18446744073709551616).toNat ^^^ ((c + 18446744073709551616).toNat &&& n)).testBit 63 = true := by
        rw [Nat.testBit_xor, Nat.testBit_and]
        have hn : n.testBit 63 = false := Nat.testBit_lt_two_pow (by omega)
        have hc63 : (c + 18446744073709551616).toNat.testBit 63 = true := by
          rw [Nat.testBit_eq_decide_div_mod_eq]
          have : (c + 18446744073709551616).toNat / 2 ^ 63 = 1 := by
            refine Nat.div_eq_of_lt_le ?_ ?_ <;> omega
          rw [this]; rfl
        rw [hn, hc63]; rfl
      have hge := Nat.ge_two_pow_of_testBit h63
      have hlt : ((c + 18446744073709551616).toNat ^^^ ((c + 18446744073709551616).toNat &&& n)) < 2 ^ 64 := Nat.xor_lt_two_pow (by omega) (Nat.lt_of_le_of_lt Nat.and_le_left (by omega))
      unfold iandNot at h
      rw [show IntKind.i64.bits = 64 from rfl, e] at h
      unfold IntKind.wrap at h
      simp [IntKind.bits] at h
      omega
    · rintro ⟨⟨h3, _⟩, _⟩; omega
theorem andNot_z (c : Int) : iandNot .i64 0 c = 0 := by
  unfold iandNot
  show IntKind.i64.wrap ((0#64 &&& ~~~ BitVec.ofInt 64 c).toNat : Int) = 0
  rw [BitVec.zero_and]; rfl
/-- The cells of a goal's digits. -/
def gcE (l : List Int) : List Int := if DigP l then dcd l else []
theorem gcE_len (l : List Int) : (gcE l).length ≤ 10 := dig_len l
theorem gcE_cells (l : List Int) : CellsP (gcE l) := by
  unfold gcE
  split
  · exact dcd_cells l
  · intro j; simp
theorem gcE_yes {l : List Int} (h : DigP l) : gcE l = dcd l := if_pos h
theorem gcE_no {l : List Int} (h : ¬ DigP l) : gcE l = [] := if_neg h
def onP (e : List Int) (c : Int) : Prop := (0 ≤ c ∧ c ≤ 127) ∧ onN e c.toNat = true
instance (e : List Int) (c : Int) : Decidable (onP e c) := by unfold onP; infer_instance
def onJ (e : List Int) (c : Int) (k : Nat) : Prop := (0 ≤ c ∧ c ≤ 127) ∧ onK e c.toNat k = true
instance (e : List Int) (c : Int) (k : Nat) : Decidable (onJ e c k) := by unfold onJ; infer_instance
def ovI (e : List Int) (c : Int) (k : Nat) : Int := if 0 ≤ c ∧ c ≤ 127 then ((ovK e c.toNat k : Nat) : Int) else 0
def litI (e : List Int) (c : Int) : Int := if onP e c then ((litN e c.toNat : Nat) : Int) else 0
theorem ovI_le {e : List Int} (he : CellsP e) (c : Int) (k : Nat) : 0 ≤ ovI e c k ∧ ovI e c k ≤ 127 := by
  have := ovK_lt he c.toNat k
  unfold ovI
  split <;> omega
theorem litI_le {e : List Int} (he : CellsP e) (c : Int) : 0 ≤ litI e c ∧ litI e c ≤ 127 := by
  have := lit_lt he c.toNat
  unfold litI
  split <;> omega
theorem onJ_up {e : List Int} {c : Int} {k : Nat} (h : (0 ≤ c ∧ c ≤ 127) ∧ subN c.toNat (e.getD k 0).toNat = true) : onJ e c (k + 1) := ⟨h.1, by unfold onK; rw [h.2, Bool.or_true]⟩
theorem onJ_no {e : List Int} {c : Int} {k : Nat} (h : ¬ ((0 ≤ c ∧ c ≤ 127) ∧ subN c.toNat (e.getD k 0).toNat = true)) : onJ e c (k + 1) ↔ onJ e c k := by
  have e1 : onK e c.toNat (k + 1) = (onK e c.toNat k || subN c.toNat (e.getD k 0).toNat) := rfl
  constructor
  · rintro ⟨h1, h2⟩
    rw [e1, Bool.or_eq_true] at h2
    exact ⟨h1, h2.resolve_right fun z => h ⟨h1, z⟩⟩
  · rintro ⟨h1, h2⟩; exact ⟨h1, by rw [e1, h2]; rfl⟩
theorem ovI_up {e : List Int} (he : CellsP e) {c : Int} {k : Nat} (h : (0 ≤ c ∧ c ≤ 127) ∧ subN c.toNat (e.getD k 0).toNat = true) : (((ovI e c k).toNat ||| (e.getD k 0).toNat : Nat) : Int) = ovI e c (k + 1) := by
  unfold ovI
  rw [if_pos h.1, if_pos h.1, ovK, if_pos h.2, Int.toNat_natCast]
theorem ovI_no {e : List Int} {c : Int} {k : Nat} (h : ¬ ((0 ≤ c ∧ c ≤ 127) ∧ subN c.toNat (e.getD k 0).toNat = true)) : ovI e c (k + 1) = ovI e c k := by
  unfold ovI
  split
  · rename_i h1
    rw [ovK, if_neg fun z => h ⟨h1, z⟩]
  · rfl
theorem lit_fin {e : List Int} (he : CellsP e) (c : Int) : iandNot .i64 (ovI e c e.length) c = litI e c := by
  by_cases h : 0 ≤ c ∧ c ≤ 127
  · have hov := ovK_lt he c.toNat e.length
    unfold ovI litI
    rw [if_pos h]
    have e1 := iandNot_nat (ovK e c.toNat e.length) c.toNat (by omega) (by omega)
    rw [Int.toNat_of_nonneg h.1] at e1
    rw [e1]
    split
    · rfl
    · rename_i hn
      have : onN e c.toNat = false := by
        cases h3 : onN e c.toNat with
        | false => rfl
        | true => exact absurd ⟨h, h3⟩ hn
      rw [ovK_none this]; simp
  · unfold ovI litI
    rw [if_neg h, if_neg fun z => h z.1]
    exact andNot_z c
theorem on_way {l : List Int} {c : Int} : onP (gcE l) c ↔ WayP c l := by
  unfold onP WayP
  by_cases h : DigP l
  · rw [gcE_yes h]
    exact ⟨fun z => ⟨h, z.1, z.2⟩, fun z => z.2⟩
  · rw [gcE_no h]
    exact ⟨fun z => by have := z.2; simp [onN, onK] at this, fun z => absurd z.1 h⟩
theorem tE_newI {e : List Int} {V : Nat → PV} {c : Int} (h0 : 0 ≤ c) (h1 : c ≤ 127) : findE (.int .i64) (.int .i64 c) (tE e V (127 - c).toNat) 0 = some none := tE_miss (by omega) fun x h2 h3 _ h4 => by omega
theorem tE_putI {e : List Int} {V : Nat → PV} {c : Int} (h0 : 0 ≤ c) (h1 : c ≤ 127) (ho : onP e c) : tE e V (127 - c).toNat ++ [(.int .i64 c, V c.toNat)] = tE e V (127 - (c - 1)).toNat := by
  rw [show (127 - (c - 1)).toNat = (127 - c).toNat + 1 by omega, tE_succ, show 127 - (127 - c).toNat = c.toNat by omega, if_pos ho.2, Int.toNat_of_nonneg h0]
theorem tE_skipI {e : List Int} {V : Nat → PV} {c : Int} (h0 : 0 ≤ c) (h1 : c ≤ 127) (ho : ¬ onP e c) : tE e V (127 - c).toNat = tE e V (127 - (c - 1)).toNat := by
  rw [show (127 - (c - 1)).toNat = (127 - c).toNat + 1 by omega, tE_succ, show 127 - (127 - c).toNat = c.toNat by omega, if_neg fun z => ho ⟨⟨h0, h1⟩, z⟩]
theorem tE_hitI {e : List Int} {V : Nat → PV} {c : Int} (ho : onP e c) : findE (.int .i64) (.int .i64 c) (tE e V 128) 0 = some (some (ixO (findE (.int .i64) (.int .i64 c) (tE e V 128) 0), V c.toNat)) := tE_hit (by have := ho.1; omega) ho.2 (by omega) (by omega) (by have := ho.1; omega)
theorem tE_missI {e : List Int} {V : Nat → PV} {c : Int} (he : CellsP e) (ho : ¬ onP e c) : findE (.int .i64) (.int .i64 c) (tE e V 128) 0 = some none := tE_miss (by omega) fun x h2 h3 h4 h5 => ho ⟨by omega, by rw [h5, Int.toNat_natCast]; exact h4⟩
theorem nx_okE {e : List Int} {c b : Int} (hb : 0 ≤ b) (h : bitN (litI e c).toNat b.toNat = true) : onP e c ∧ onN e (upN c.toNat b.toNat) = true ∧ c.toNat < upN c.toNat b.toNat ∧ nxK e c.toNat (b + 1).toNat = nxK e c.toNat b.toNat ++ [upN c.toNat b.toNat] := by
  have hp : onP e c := by
    by_cases h1 : onP e c
    · exact h1
    · unfold litI at h
      rw [if_neg h1, bitN_test] at h
      simp at h
  unfold litI at h
  rw [if_pos hp, Int.toNat_natCast] at h
  have h2 := (lit_ok e c.toNat b.toNat).1 h
  have h3 := up_gt (up_ne.1 h2.1)
  refine ⟨hp, h2.2, h3, ?_⟩
  rw [show (b + 1).toNat = b.toNat + 1 by omega, nxK_succ, if_pos h]
theorem nx_noE {e : List Int} {c b : Int} (hb : 0 ≤ b) (hp : onP e c) (h : ¬ bitN (litI e c).toNat b.toNat = true) : nxK e c.toNat (b + 1).toNat = nxK e c.toNat b.toNat := by
  unfold litI at h
  rw [if_pos hp, Int.toNat_natCast] at h
  rw [show (b + 1).toNat = b.toNat + 1 by omega, nxK_succ, if_neg h]
def pvI (x : Int) : PV := .int .i64 x
def pvB (b : Bool) : PV := .bool (decide (b = true))
noncomputable def VN (e : List Int) (x : Nat) : PV := .int .i64 (val fN e x)
noncomputable def VB (f : Nat → List Bool → Bool) (e : List Int) (x : Nat) : PV := .bool (decide (val f e x = true))
theorem flat_pvB (L : List Bool) : PV.flatL (L.map pvB) = true := flat_map pvB (fun _ => rfl) L
def anyB (L : List Bool) : Nat → Bool
  | 0 => false
  | k + 1 => anyB L k || !L.getD k true
theorem anyB_all : ∀ (L : List Bool), anyB L L.length = L.any fun b => !b := fun L => by
  have key : ∀ k, k ≤ L.length → anyB L k = (L.take k).any fun b => !b := by
    intro k
    induction k with
    | zero => intro _; rfl
    | succ k ih =>
      intro hk
      rw [anyB, ih (by omega), List.take_add_one, List.getElem?_eq_getElem (by omega), List.any_append, List.getD_eq_getElem?_getD, List.getElem?_eq_getElem (by omega)]
      simp
  rw [key _ (Nat.le_refl _), List.take_length]
theorem anyB_up (L : List Bool) {i : Nat} (h : L.getD i true = false) : ∀ k, i < k → anyB L k = true
  | 0, hk => by omega
  | k + 1, hk => by
    unfold anyB
    by_cases e : i = k
    · subst e; rw [h]; simp
    · rw [anyB_up L h k (by omega)]; rfl
theorem dr_pvB (L : List Bool) {k : Nat} (h : k < L.length) : (L.map pvB).drop (k * 1) = .bool (decide (L.getD k true = true)) :: (L.map pvB).drop (k + 1) := drop_map1 pvB true L h


theorem fillG (l : List Int) {k : Nat} (h : k < l.length) : putAt (((l.take k).map digC ++ List.replicate (l.length - k) 0).map (PV.int .i64)) (k * 1) [PV.int .i64 (digT.getD (l.getD k 0).toNat 0)] = (((l.take (k + 1)).map digC ++ List.replicate (l.length - (k + 1)) 0).map (PV.int .i64)) := by
  rw [put_map1 (PV.int .i64) _ (by simp; omega), map_take digC 0 l h, List.set_append_right _ _ (by simp; omega), show k - ((l.take k).map digC).length = 0 by simp; omega, show l.length - k = l.length - (k + 1) + 1 by omega, List.replicate_succ, List.set_cons_zero]
  simp [digC]

set_option maxRecDepth 8000 in
set_option maxHeartbeats 2000000 in
theorem impl_digitCellsG (l : List Int) (h10 : l.length ≤ 10) (hd : ∀ j, j < l.length → 0 ≤ l.getD j 0 ∧ l.getD j 0 ≤ 9) : PCalls Tryd.prog 103 [.sl l.length (l.map (.int .i64))] (· = [.own 0 3 1 (dcd l).length ((dcd l).map (.int .i64)), .val (.bool true)]) := by
  refine pcalls_of_code (n := 33) az Tryd.func103 (by kernel_rfl) rfl rfl (Nat.le_of_ble_eq_true rfl) (by intro t u h; simp [Tryd.f103] at h) ?_
  refine code_seq (fun K1 hK1 => ?_)
  refine code_region ?_
  refine list_cons rfl (op_q (q_assign rfl (by decide)) ?_)
  refine list_cons rfl (op_q (q_assign rfl (by decide)) ?_)
  refine list_nil ?_
  refine hK1 _ ?_; clear hK1 K1
  refine code_seq (fun K2 hK2 => ?_)
  refine code_region ?_
  refine list_cons rfl (op_q (q_move rfl (by decide)) ?_)
  refine list_cons rfl (op_q (q_len_sl Tryd.underlying24 rfl rfl (by decide)) ?_)
  refine list_cons rfl (op_make sl_24 rfl rfl (by omega) (by decide) (by decide) rfl ?_)
  refine list_cons rfl (op_q (q_assign rfl (by decide)) ?_)
  refine list_nil ?_
  refine hK2 _ ?_; clear hK2 K2
  refine code_seq (fun K3 hK3 => ?_)
  refine code_seq (fun K4 hK4 => ?_)
  refine code_region ?_
  refine list_cons rfl (op_q (q_move rfl (by decide)) ?_)
  refine list_cons rfl (op_q (q_len_sl Tryd.underlying24 rfl rfl (by decide)) ?_)
  refine list_cons rfl (op_q (q_move rfl (by decide)) ?_)
  refine list_nil ?_
  refine hK4 _ ?_; clear hK4 K4
  refine code_block ?_
  refine code_loop (X := PV × Bool × Nat × List PV × Int) (fun x => [(0, .par 0 (.sl l.length (l.map (.int .i64)))), (2, .val x.1), (3, .val (.bool x.2.1)), (4, .own 11 3 1 x.2.2.1 x.2.2.2.1), (12, .par 0 (.sl l.length (l.map (.int .i64)))), (13, .val (.int .i64 l.length)), (14, .val (.int .i64 x.2.2.2.2))]) (fun x => 0 ≤ x.2.2.2.2 ∧ x.2.2.2.2 ≤ l.length ∧ x.2.2.1 = l.length ∧ x.2.2.2.1 = ((l.take x.2.2.2.2.toNat).map digC ++ List.replicate (l.length - x.2.2.2.2.toNat) 0).map (.int .i64)) (fun x => (l.length - x.2.2.2.2).toNat) (_, _, _, _, _) (imp_covers ⟨rfl, rfl, rfl, rfl, rfl, rfl, rfl, trivial⟩) ?_ ?_
  · (try dsimp only)
    exact ⟨by omega, by omega, rfl, zeros_map1 (PV.int .i64) 0 l.length⟩
  · intro x hI
    obtain ⟨t2_p, t3, cells_n, cells_c, t14⟩ := x
    replace hI : 0 ≤ t14 ∧ t14 ≤ l.length ∧ cells_n = l.length ∧ cells_c = ((l.take t14.toNat).map digC ++ List.replicate (l.length - t14.toNat) 0).map (.int .i64) := hI
    show codeT _ _ _ [(0, .par 0 (.sl l.length (l.map (.int .i64)))), (2, .val t2_p), (3, .val (.bool t3)), (4, .own 11 3 1 cells_n cells_c), (12, .par 0 (.sl l.length (l.map (.int .i64)))), (13, .val (.int .i64 l.length)), (14, .val (.int .i64 t14))] _
    obtain ⟨i1, i2, rfl, rfl⟩ := hI
    have hdt := fun h => hd t14.toNat h
    refine code_seq (fun K5 hK5 => ?_)
    refine code_region ?_
    refine list_cons rfl (op_q (q_lt rfl rfl (by decide)) ?_)
    refine list_nil ?_
    refine hK5 _ ?_; clear hK5 K5
    refine code_seq (fun K6 hK6 => ?_)
    refine code_cond_d rfl (fun h1 => ?_) (fun h1 => ?_)
    · skip
      (try simp only [Decidable.not_not] at h1)
      refine code_skip ?_
      refine hK6 _ ?_; clear hK6 K6
      refine code_seq (fun K7 hK7 => ?_)
      refine code_block ?_
      refine code_seq (fun K8 hK8 => ?_)
      refine code_region ?_
      refine list_cons rfl (op_q (q_move rfl (by decide)) ?_)
      refine list_cons rfl (op_q (q_indexAddr_rd sl_24 rfl (.inl ⟨_, rfl, rfl⟩) rfl (by omega) (by omega) (by decide)) ?_)
      refine list_cons rfl (op_q (q_load_rd one_3 rfl (.inl ⟨_, (by first | rfl | exact congrArg (SV.rpar _) (drop_map1 _ 0 _ (by first | omega | (simp; omega)))), rfl⟩) (by decide)) ?_)
      refine list_cons rfl (op_q (q_assign rfl (by decide)) ?_)
      refine list_cons rfl (op_q (q_assign rfl (by decide)) ?_)
      refine list_nil ?_
      refine hK8 _ ?_; clear hK8 K8
      refine code_seq (fun K9 hK9 => ?_)
      refine code_region ?_
      refine list_cons rfl (op_q (q_move rfl (by decide)) ?_)
      refine list_cons rfl (op_call _ (impl_CellOf _) rfl rfl (by decide) (by decide) (by decide) rfl ?_)
      rintro _ rfl
      refine list_cons rfl (op_q (q_move rfl (by decide)) ?_)
      refine list_cons rfl (op_q (q_extract rfl rfl (by decide)) ?_)
      refine list_cons rfl (op_q (q_extract rfl rfl (by decide)) ?_)
      refine list_cons rfl (op_q (q_assign rfl (by decide)) ?_)
      refine list_cons rfl (op_q (q_assign rfl (by decide)) ?_)
      refine list_nil ?_
      refine hK9 _ ?_; clear hK9 K9
      refine codeT.imp (σ' := [(0, _), (2, _), (3, _), (4, _), (5, _), (6, _), (7, _), (8, _), (12, _), (13, _), (14, _)]) ?_ (imp_covers ⟨rfl, rfl, rfl, rfl, rfl, rfl, rfl, rfl, rfl, rfl, rfl, trivial⟩)
      refine code_seq (fun K10 hK10 => ?_)
      refine code_seq (fun K11 hK11 => ?_)
      refine code_region ?_
      refine list_cons rfl (op_q (q_move rfl (by decide)) ?_)
      refine list_cons rfl (op_q (by first | exact q_notd rfl (by decide) | exact q_not rfl (by decide)) ?_)
      refine list_nil ?_
      refine hK11 _ ?_; clear hK11 K11
      refine code_cond_d rfl (fun h2 => ?_) (fun h2 => ?_)
      · skip
        (try simp only [Decidable.not_not] at h2)
        refine code_seq (fun K12 hK12 => ?_)
        refine code_region ?_
        refine list_cons rfl (op_buildSlice sl_24 (parts := []) rfl rfl rfl (by decide) (by decide) (by decide) rfl ?_)
        refine list_cons rfl (op_q (q_assign rfl (by decide)) ?_)
        refine list_cons rfl (op_q (q_assign rfl (by decide)) ?_)
        refine list_nil ?_
        refine hK12 _ ?_; clear hK12 K12
        refine code_ret ?_
        refine then_r ?_; clear hK10 K10
        refine blk_r ?_
        refine then_r ?_; clear hK7 K7
        refine then_r ?_
        refine blk_r ?_
        refine then_r ?_; clear hK3 K3
        refine ends_ret (cs := []) rfl rfl rfl rfl trivial ?_
        first
          | (simp only [show t14.toNat = l.length by omega, List.take_length, Nat.sub_self, List.replicate_zero, List.append_nil, dcd_len]; rfl)
          | (exact absurd (hdt (by omega)) (by assumption))
      (try simp only [Decidable.not_not] at h2)
      refine code_skip ?_
      refine hK10 _ ?_; clear hK10 K10
      refine code_region ?_
      refine list_cons rfl (op_q (q_move rfl (by decide)) ?_)
      refine list_cons rfl (op_q (q_move rfl (by decide)) ?_)
      refine list_cons rfl (op_q (q_move rfl (by decide)) ?_)
      refine list_cons rfl (op_q (q_indexAddr_own sl_24 rfl rfl (by omega) (by omega) (by decide)) ?_)
      refine list_cons rfl (op_store (one_3).2 4 [4, 27] (by intro t ht; simp only [List.mem_cons, List.not_mem_nil, or_false] at ht; rcases ht with rfl | rfl <;> rfl) (.inl rfl) rfl rfl rfl rfl rfl rfl (by first | decide | omega | exact Nat.le_refl _ | (simp; done) | (simp; omega)) (by decide) rfl ?_)
      refine list_nil ?_
      refine blk_n ?_
      refine hK7 _ ?_; clear hK7 K7
      refine codeT.imp (σ' := [(0, _), (2, _), (3, _), (4, _), (5, _), (6, _), (7, _), (8, _), (12, _), (13, _), (14, _)]) ?_ (imp_covers ⟨rfl, rfl, rfl, rfl, rfl, rfl, rfl, rfl, rfl, rfl, rfl, trivial⟩)
      refine code_region ?_
      refine list_cons rfl (op_q (by first | exact q_addI rfl rfl (by decide) (by omega) (by omega) | exact q_ib rfl rfl rfl (by decide)) ?_)
      refine list_cons rfl (op_q (q_move rfl (by decide)) ?_)
      refine list_nil ?_
      refine then_n ⟨(_, _, _, _, _), imp_covers ⟨rfl, rfl, rfl, rfl, rfl, rfl, rfl, trivial⟩, ?_, ?_⟩
      · (try dsimp only)
        refine ⟨by omega, by omega, rfl, ?_⟩
        rw [show (t14 + 1).toNat = t14.toNat + 1 by omega]
        simp only [if_pos (hdt (by omega))]
        exact fillG l (by omega)
      · (try dsimp only); omega
    (try simp only [Decidable.not_not] at h1)
    refine code_exit ?_
    refine then_x ?_; clear hK6 K6
    refine then_x ?_
    refine blk_hit ?_
    refine hK3 _ ?_; clear hK3 K3
    refine code_seq (fun K13 hK13 => ?_)
    refine code_region ?_
    refine list_cons rfl (op_q (q_move rfl (by decide)) ?_)
    refine list_cons rfl (op_q (q_assign rfl (by decide)) ?_)
    refine list_cons rfl (op_q (q_assign rfl (by decide)) ?_)
    refine list_nil ?_
    refine hK13 _ ?_; clear hK13 K13
    refine code_ret ?_
    refine ends_ret (cs := []) rfl rfl rfl rfl trivial ?_
    first
      | (simp only [show t14.toNat = l.length by omega, List.take_length, Nat.sub_self, List.replicate_zero, List.append_nil, dcd_len]; rfl)
      | (exact absurd (hdt (by omega)) (by assumption))

set_option maxRecDepth 4000 in
theorem impl_DigitCodeG (l : List Int) (hl : l.length ≤ 4611686018427387904) : PCalls Tryd.prog 72 [.sl l.length (l.map (.int .i64))] (· = [.own 0 3 1 (gcE l).length ((gcE l).map (.int .i64)), .val (.bool (decide (DigP l)))]) := by
  refine pcalls_of_code (n := 17) az Tryd.func72 (by kernel_rfl) rfl rfl (Nat.le_of_ble_eq_true rfl) (by intro t u h; simp [Tryd.f72] at h) ?_
  refine code_seq (fun K1 hK1 => ?_)
  refine code_region ?_
  refine list_cons rfl (op_q (q_assign rfl (by decide)) ?_)
  refine list_cons rfl (op_q (q_assign rfl (by decide)) ?_)
  refine list_nil ?_
  refine hK1 _ ?_; clear hK1 K1
  refine code_seq (fun K2 hK2 => ?_)
  refine code_seq (fun K3 hK3 => ?_)
  refine code_region ?_
  refine list_cons rfl (op_q (q_move rfl (by decide)) ?_)
  refine list_cons rfl (op_call _ (impl_isOrder _ (by omega)) rfl rfl (by decide) (by decide) (by decide) rfl ?_)
  rintro _ rfl
  refine list_cons rfl (op_q (by first | exact q_notd rfl (by decide) | exact q_not rfl (by decide)) ?_)
  refine list_cons rfl (op_q (q_move rfl (by decide)) ?_)
  refine list_guard_d rfl rfl rfl rfl (by decide) rfl (by decide) (fun h1 => ?_) (fun h1 => ?_)
  · simp only [Bool.false_eq_true, if_true, if_false, Decidable.not_not] at h1
    refine id (op_q (q_move rfl (by decide)) ?_)
    refine list_guard_y rfl rfl rfl rfl (by decide) rfl ?_
    refine id (op_q (q_len_sl Tryd.underlying24 rfl rfl (by decide)) ?_)
    refine list_guard_y rfl rfl rfl rfl (by decide) rfl ?_
    refine id (op_q (q_eq rfl rfl (by decide)) ?_)
    refine list_cons rfl (op_q (q_pick rfl rfl (by decide)) ?_)
    refine list_nil ?_
    refine hK3 _ ?_; clear hK3 K3
    refine codeT.imp (σ' := [(0, _), (2, _), (3, _), (11, _)]) ?_ (imp_covers ⟨rfl, rfl, rfl, rfl, trivial⟩)
    refine code_cond_d rfl (fun h2 => ?_) (fun h2 => ?_)
    · skip
      (try simp only [Decidable.not_not] at h2)
      refine code_seq (fun K4 hK4 => ?_)
      refine code_region ?_
      refine list_cons rfl (op_buildSlice sl_24 (parts := []) rfl rfl rfl (by decide) (by decide) (by decide) rfl ?_)
      refine list_cons rfl (op_q (q_assign rfl (by decide)) ?_)
      refine list_cons rfl (op_q (q_assign rfl (by decide)) ?_)
      refine list_nil ?_
      refine hK4 _ ?_; clear hK4 K4
      refine code_ret ?_
      refine then_r ?_; clear hK2 K2
      refine ends_ret (cs := []) rfl rfl rfl rfl trivial ?_
      first
        | (have e : DigP l := ⟨by omega, by assumption⟩
           rw [gcE_yes e, decide_eq_true e]; done)
        | (have e : ¬ DigP l := fun e => absurd e.2 (by assumption)
           rw [gcE_no e, decide_eq_false e]; rfl)
        | (have e : ¬ DigP l := fun e => by have := e.1; omega
           rw [gcE_no e, decide_eq_false e]; rfl)
    (try simp only [Decidable.not_not] at h2)
    refine code_skip ?_
    refine hK2 _ ?_; clear hK2 K2
    refine code_seq (fun K5 hK5 => ?_)
    refine code_region ?_
    refine list_cons rfl (op_q (q_move rfl (by decide)) ?_)
    refine list_cons rfl (op_call _ (impl_digitCellsG _ (ord_len (by assumption)) (fun j hj => (ordK_at (by assumption) hj).1)) rfl rfl (by decide) (by decide) (by decide) rfl ?_)
    rintro _ rfl
    refine list_cons rfl (op_q (q_extract rfl rfl (by decide)) ?_)
    refine list_cons rfl (op_q (q_extract rfl rfl (by decide)) ?_)
    refine list_cons rfl (op_q (q_assign rfl (by decide)) ?_)
    refine list_cons rfl (op_q (q_assign rfl (by decide)) ?_)
    refine list_nil ?_
    refine hK5 _ ?_; clear hK5 K5
    refine codeT.imp (σ' := [(0, _), (2, _), (3, _)]) ?_ (imp_covers ⟨rfl, rfl, rfl, trivial⟩)
    refine code_ret ?_
    refine ends_ret (cs := []) rfl rfl rfl rfl trivial ?_
    first
      | (have e : DigP l := ⟨by omega, by assumption⟩
         rw [gcE_yes e, decide_eq_true e]; done)
      | (have e : ¬ DigP l := fun e => absurd e.2 (by assumption)
         rw [gcE_no e, decide_eq_false e]; rfl)
      | (have e : ¬ DigP l := fun e => by have := e.1; omega
         rw [gcE_no e, decide_eq_false e]; rfl)
  simp only [Bool.false_eq_true, if_true, if_false, Decidable.not_not] at h1
  refine list_guard_nT rfl rfl rfl rfl (by decide) (by decide) ?_
  refine list_guard_nT rfl rfl rfl rfl (by decide) (by decide) ?_
  refine list_cons rfl (op_q (q_pick rfl rfl (by decide)) ?_)
  refine list_nil ?_
  refine hK3 _ ?_; clear hK3 K3
  refine code_cond_t rfl ?_
  refine code_seq (fun K6 hK6 => ?_)
  refine code_region ?_
  refine list_cons rfl (op_buildSlice sl_24 (parts := []) rfl rfl rfl (by decide) (by decide) (by decide) rfl ?_)
  refine list_cons rfl (op_q (q_assign rfl (by decide)) ?_)
  refine list_cons rfl (op_q (q_assign rfl (by decide)) ?_)
  refine list_nil ?_
  refine hK6 _ ?_; clear hK6 K6
  refine codeT.imp (σ' := [(0, _), (2, _), (3, _)]) ?_ (imp_covers ⟨rfl, rfl, rfl, trivial⟩)
  refine code_ret ?_
  refine then_r ?_; clear hK2 K2
  refine ends_ret (cs := []) rfl rfl rfl rfl trivial ?_
  first
    | (have e : DigP l := ⟨by omega, by assumption⟩
       rw [gcE_yes e, decide_eq_true e]; done)
    | (have e : ¬ DigP l := fun e => absurd e.2 (by assumption)
       rw [gcE_no e, decide_eq_false e]; rfl)
    | (have e : ¬ DigP l := fun e => by have := e.1; omega
       rw [gcE_no e, decide_eq_false e]; rfl)

set_option maxRecDepth 4000 in
theorem impl_goalCells (l : List Int) (hl : l.length ≤ 4611686018427387904) : PCalls Tryd.prog 64 [.sl l.length (l.map (.int .i64))] (· = [.own 0 3 1 (gcE l).length ((gcE l).map (.int .i64))]) := by
  refine pcalls_of_code (n := 11) az Tryd.func64 (by kernel_rfl) rfl rfl (Nat.le_of_ble_eq_true rfl) (by intro t u h; simp [Tryd.f64] at h) ?_
  refine code_seq (fun K1 hK1 => ?_)
  refine code_region ?_
  refine list_cons rfl (op_q (q_assign rfl (by decide)) ?_)
  refine list_nil ?_
  refine hK1 _ ?_; clear hK1 K1
  refine code_seq (fun K2 hK2 => ?_)
  refine code_region ?_
  refine list_cons rfl (op_q (q_move rfl (by decide)) ?_)
  refine list_cons rfl (op_call _ (impl_DigitCodeG _ (by omega)) rfl rfl (by decide) (by decide) (by decide) rfl ?_)
  rintro _ rfl
  refine list_cons rfl (op_q (q_move rfl (by decide)) ?_)
  refine list_cons rfl (op_q (q_extract rfl rfl (by decide)) ?_)
  refine list_cons rfl (op_q (q_extract rfl rfl (by decide)) ?_)
  refine list_cons rfl (op_q (q_assign rfl (by decide)) ?_)
  refine list_cons rfl (op_q (q_assign rfl (by decide)) ?_)
  refine list_nil ?_
  refine hK2 _ ?_; clear hK2 K2
  refine codeT.imp (σ' := [(0, _), (2, _), (3, _)]) ?_ (imp_covers ⟨rfl, rfl, rfl, trivial⟩)
  refine code_seq (fun K3 hK3 => ?_)
  refine code_region ?_
  refine list_cons rfl (op_q (q_move rfl (by decide)) ?_)
  refine list_cons rfl (op_q (q_assign rfl (by decide)) ?_)
  refine list_nil ?_
  refine hK3 _ ?_; clear hK3 K3
  refine code_ret ?_
  refine ends_ret (cs := []) rfl rfl rfl rfl trivial ?_
  rfl

set_option maxRecDepth 4000 in
theorem impl_lightableIn (c : Int) (e : List Int) (p0 : -9223372036854775808 ≤ c) (p1 : c ≤ 9223372036854775807) (he : CellsP e) (hel : e.length ≤ 1000) : PCalls Tryd.prog 63 [.int .i64 c, .sl e.length (e.map (.int .i64))] (· = [.val (.int .i64 (litI e c)), .val (.bool (decide (onP e c)))]) := by
  refine pcalls_of_code (n := 28) az Tryd.func63 (by kernel_rfl) rfl rfl (Nat.le_of_ble_eq_true rfl) (by intro t u h; simp [Tryd.f63] at h) ?_
  refine code_seq (fun K1 hK1 => ?_)
  refine code_region ?_
  refine list_cons rfl (op_q (q_assign rfl (by decide)) ?_)
  refine list_cons rfl (op_q (q_assign rfl (by decide)) ?_)
  refine list_nil ?_
  refine hK1 _ ?_; clear hK1 K1
  refine code_seq (fun K2 hK2 => ?_)
  refine code_region ?_
  refine list_cons rfl (op_q (q_assign rfl (by decide)) ?_)
  refine list_cons rfl (op_q (q_assign rfl (by decide)) ?_)
  refine list_nil ?_
  refine hK2 _ ?_; clear hK2 K2
  refine code_seq (fun K3 hK3 => ?_)
  refine code_seq (fun K4 hK4 => ?_)
  refine code_region ?_
  refine list_cons rfl (op_q (q_move rfl (by decide)) ?_)
  refine list_cons rfl (op_q (q_len_sl Tryd.underlying24 rfl rfl (by decide)) ?_)
  refine list_cons rfl (op_q (q_move rfl (by decide)) ?_)
  refine list_nil ?_
  refine hK4 _ ?_; clear hK4 K4
  refine code_block ?_
  refine code_loop (X := Int × Bool × Int × Bool × Int) (fun x => [(0, .val (.int .i64 c)), (1, .par 1 (.sl e.length (e.map (.int .i64)))), (4, .val (.int .i64 x.1)), (5, .val (.bool x.2.1)), (6, .val (.int .i64 x.2.2.1)), (7, .val (.bool x.2.2.2.1)), (10, .par 1 (.sl e.length (e.map (.int .i64)))), (11, .val (.int .i64 (e.length))), (12, .val (.int .i64 x.2.2.2.2))]) (fun x => 0 ≤ x.2.2.2.2 ∧ x.2.2.2.2 ≤ e.length ∧ x.2.2.1 = ovI e c x.2.2.2.2.toNat ∧ x.2.2.2.1 = decide (onJ e c x.2.2.2.2.toNat)) (fun x => (e.length - x.2.2.2.2).toNat) (_, _, _, _, _) (imp_covers ⟨rfl, rfl, rfl, rfl, rfl, rfl, rfl, rfl, rfl, trivial⟩) ?_ ?_
  · (try dsimp only)
    exact ⟨by omega, by omega, by unfold ovI; split <;> rfl, (decide_eq_false fun z => by have := z.2; cases this).symm⟩
  · intro x hI
    obtain ⟨t4, t5, over, on, t12⟩ := x
    replace hI : 0 ≤ t12 ∧ t12 ≤ e.length ∧ over = ovI e c t12.toNat ∧ on = decide (onJ e c t12.toNat) := hI
    show codeT _ _ _ [(0, .val (.int .i64 c)), (1, .par 1 (.sl e.length (e.map (.int .i64)))), (4, .val (.int .i64 t4)), (5, .val (.bool t5)), (6, .val (.int .i64 over)), (7, .val (.bool on)), (10, .par 1 (.sl e.length (e.map (.int .i64)))), (11, .val (.int .i64 (e.length))), (12, .val (.int .i64 t12))] _
    obtain ⟨i1, i2, rfl, rfl⟩ := hI
    have hov := ovI_le he c t12.toNat
    have hx := he t12.toNat
    refine code_seq (fun K5 hK5 => ?_)
    refine code_region ?_
    refine list_cons rfl (op_q (q_lt rfl rfl (by decide)) ?_)
    refine list_nil ?_
    refine hK5 _ ?_; clear hK5 K5
    refine code_seq (fun K6 hK6 => ?_)
    refine code_cond_d rfl (fun h1 => ?_) (fun h1 => ?_)
    · skip
      (try simp only [Decidable.not_not] at h1)
      refine code_skip ?_
      refine hK6 _ ?_; clear hK6 K6
      refine code_seq (fun K7 hK7 => ?_)
      refine code_block ?_
      refine code_seq (fun K8 hK8 => ?_)
      refine code_region ?_
      refine list_cons rfl (op_q (q_indexAddr_rd sl_24 rfl (.inl ⟨_, rfl, rfl⟩) rfl (by omega) (by omega) (by decide)) ?_)
      refine list_cons rfl (op_q (q_load_rd one_3 rfl (.inl ⟨_, (by first | rfl | exact congrArg (SV.rpar _) (drop_map1 _ 0 _ (by first | omega | (simp; omega)))), rfl⟩) (by decide)) ?_)
      refine list_cons rfl (op_q (q_assign rfl (by decide)) ?_)
      refine list_nil ?_
      refine hK8 _ ?_; clear hK8 K8
      refine code_seq (fun K9 hK9 => ?_)
      refine code_region ?_
      refine list_cons rfl (op_q (q_move rfl (by decide)) ?_)
      refine list_cons rfl (op_q (q_move rfl (by decide)) ?_)
      refine list_cons rfl (op_q (by first | exact q_andNotI rfl rfl (by decide) (by omega) (by omega) (by omega) (by omega) | exact q_ib rfl rfl rfl (by decide)) ?_)
      refine list_cons rfl (op_q (q_eq rfl rfl (by decide)) ?_)
      refine list_nil ?_
      refine hK9 _ ?_; clear hK9 K9
      refine code_cond_d rfl (fun h2 => ?_) (fun h2 => ?_)
      · skip
        (try simp only [Decidable.not_not] at h2)
        refine code_region ?_
        refine list_cons rfl (op_q (q_move rfl (by decide)) ?_)
        refine list_cons rfl (op_q (q_move rfl (by decide)) ?_)
        refine list_cons rfl (op_q (by first | exact q_orI rfl rfl (by decide) (by omega) (by omega) (by omega) (by omega) | exact q_ib rfl rfl rfl (by decide)) ?_)
        refine list_cons rfl (op_q (q_assign rfl (by decide)) ?_)
        refine list_cons rfl (op_q (q_assign rfl (by decide)) ?_)
        refine list_nil ?_
        refine blk_n ?_
        refine hK7 _ ?_; clear hK7 K7
        refine codeT.imp (σ' := [(0, _), (1, _), (4, _), (5, _), (6, _), (7, _), (9, _), (10, _), (11, _), (12, _)]) ?_ (imp_covers ⟨rfl, rfl, rfl, rfl, rfl, rfl, rfl, rfl, rfl, rfl, trivial⟩)
        refine code_region ?_
        refine list_cons rfl (op_q (by first | exact q_addI rfl rfl (by decide) (by omega) (by omega) | exact q_ib rfl rfl rfl (by decide)) ?_)
        refine list_cons rfl (op_q (q_move rfl (by decide)) ?_)
        refine list_nil ?_
        refine then_n ⟨(_, _, _, _, _), imp_covers ⟨rfl, rfl, rfl, rfl, rfl, rfl, rfl, rfl, rfl, trivial⟩, ?_, ?_⟩
        · (try dsimp only)
          have h := (andNot_0 p0 p1 hx).1 h2
          refine ⟨by omega, by omega, ?_, ?_⟩
          · rw [show (t12 + 1).toNat = t12.toNat + 1 by omega]; exact ovI_up he h
          · rw [show (t12 + 1).toNat = t12.toNat + 1 by omega]; exact (decide_eq_true (onJ_up h)).symm
        · (try dsimp only); omega
      (try simp only [Decidable.not_not] at h2)
      refine code_skip ?_
      refine blk_n ?_
      refine hK7 _ ?_; clear hK7 K7
      refine codeT.imp (σ' := [(0, _), (1, _), (4, _), (5, _), (6, _), (7, _), (9, _), (10, _), (11, _), (12, _)]) ?_ (imp_covers ⟨rfl, rfl, rfl, rfl, rfl, rfl, rfl, rfl, rfl, rfl, trivial⟩)
      refine code_region ?_
      refine list_cons rfl (op_q (by first | exact q_addI rfl rfl (by decide) (by omega) (by omega) | exact q_ib rfl rfl rfl (by decide)) ?_)
      refine list_cons rfl (op_q (q_move rfl (by decide)) ?_)
      refine list_nil ?_
      refine then_n ⟨(_, _, _, _, _), imp_covers ⟨rfl, rfl, rfl, rfl, rfl, rfl, rfl, rfl, rfl, trivial⟩, ?_, ?_⟩
      · (try dsimp only)
        have h := fun z => h2 ((andNot_0 p0 p1 hx).2 z)
        refine ⟨by omega, by omega, ?_, ?_⟩
        · rw [show (t12 + 1).toNat = t12.toNat + 1 by omega]; exact (ovI_no h).symm
        · rw [show (t12 + 1).toNat = t12.toNat + 1 by omega]; exact decide_eq_decide.mpr (onJ_no h).symm
      · (try dsimp only); omega
    (try simp only [Decidable.not_not] at h1)
    refine code_exit ?_
    refine then_x ?_; clear hK6 K6
    refine then_x ?_
    refine blk_hit ?_
    refine hK3 _ ?_; clear hK3 K3
    refine code_seq (fun K10 hK10 => ?_)
    refine code_region ?_
    refine list_cons rfl (op_q (q_move rfl (by decide)) ?_)
    refine list_cons rfl (op_q (q_move rfl (by decide)) ?_)
    refine list_cons rfl (op_q (by first | exact q_andNotI rfl rfl (by decide) (by omega) (by omega) (by omega) (by omega) | exact q_ib rfl rfl rfl (by decide)) ?_)
    refine list_cons rfl (op_q (q_move rfl (by decide)) ?_)
    refine list_cons rfl (op_q (q_assign rfl (by decide)) ?_)
    refine list_cons rfl (op_q (q_assign rfl (by decide)) ?_)
    refine list_nil ?_
    refine hK10 _ ?_; clear hK10 K10
    refine code_ret ?_
    refine ends_ret (cs := []) rfl rfl rfl rfl trivial ?_
    have ht : t12.toNat = e.length := by omega
    rw [ht, lit_fin he]
    first | rfl

def leJ (e : List Int) (c : Int) (k : Nat) : List Int := if 0 ≤ c ∧ c ≤ 127 then leK e c.toNat k else []
theorem leJ_len (e : List Int) (c : Int) (k : Nat) : (leJ e c k).length ≤ k := by
  unfold leJ
  split
  · exact leK_len _ _ _
  · simp
theorem leJ_up {e : List Int} {c : Int} {k : Nat} (h : (0 ≤ c ∧ c ≤ 127) ∧ subN c.toNat (e.getD k 0).toNat = true) (h2 : litN e (e.getD k 0).toNat = 0) : leJ e c (k + 1) = leJ e c k ++ [e.getD k 0] := by
  unfold leJ
  rw [if_pos h.1, if_pos h.1, leK, if_pos ⟨h.2, h2⟩]
theorem leJ_no {e : List Int} {c : Int} {k : Nat} (h : ¬ (((0 ≤ c ∧ c ≤ 127) ∧ subN c.toNat (e.getD k 0).toNat = true) ∧ litN e (e.getD k 0).toNat = 0)) : leJ e c (k + 1) = leJ e c k := by
  unfold leJ
  split
  · rename_i h1
    rw [leK, if_neg fun z => h ⟨⟨h1, z.1⟩, z.2⟩]
  · rfl
theorem lit_own {e : List Int} (he : CellsP e) {k : Nat} (hk : k < e.length) : litI e (e.getD k 0) = ((litN e (e.getD k 0).toNat : Nat) : Int) := by
  have hx := he k
  unfold litI
  rw [if_pos ⟨hx, (onK_iff e _ _).2 ⟨k, hk, subN_refl _⟩⟩]
theorem leJ_out {e : List Int} {c : Int} (h : ¬ onP e c) : leJ e c e.length = [] := by
  unfold leJ
  split
  · rename_i h1
    cases hX : leK e c.toNat e.length with
    | nil => rfl
    | cons x s =>
      obtain ⟨j, h2, h3, h4, _⟩ := leK_mem.1 (show x ∈ leK e c.toNat e.length by rw [hX]; exact List.mem_cons_self)
      exact absurd ⟨h1, (onK_iff e _ _).2 ⟨j, h2, by rw [h3]; exact h4⟩⟩ h
  · rfl
theorem last_eq {c : Int} {l : List Int} (h : WayP c l) : srt (leJ (gcE l) c (gcE l).length) = laL (dcd l) c.toNat 128 := by
  rw [gcE_yes h.1]
  unfold leJ
  rw [if_pos h.2.1]
  exact asc_uni (srt_asc _) ((laL_asc _ _ _).imp fun z => Int.le_of_lt z) ((srt_perm _).trans (la_perm (dcd_cells l) (dcd_diff h.1) _))
theorem last_pos {c : Int} {l : List Int} (h : WayP c l) : 0 < (laL (dcd l) c.toNat 128).length := by
  have := (la_on (dcd_cells l)).2 h.2.2
  cases hX : laL (dcd l) c.toNat 128 with
  | nil => exact absurd hX this
  | cons a b => simp


set_option maxRecDepth 8000 in
set_option maxHeartbeats 2000000 in
theorem impl_LastCells (c : Int) (l : List Int) (p0 : -9223372036854775808 ≤ c) (p1 : c ≤ 9223372036854775807) (hl : l.length ≤ 4611686018427387904) : PCalls Tryd.prog 106 [.int .i64 c, .sl l.length (l.map (.int .i64))] (· = [.own 0 3 1 (if WayP c l then laL (dcd l) c.toNat 128 else []).length ((if WayP c l then laL (dcd l) c.toNat 128 else []).map (.int .i64)), .val (.bool (decide (WayP c l)))]) := by
  refine pcalls_of_code (n := 46) az Tryd.func106 (by kernel_rfl) rfl rfl (Nat.le_of_ble_eq_true rfl) (by intro t u h; simp [Tryd.f106] at h) ?_
  have he := gcE_cells l
  have hgl := gcE_len l
  refine code_seq (fun K1 hK1 => ?_)
  refine code_region ?_
  refine list_cons rfl (op_q (q_assign rfl (by decide)) ?_)
  refine list_cons rfl (op_q (q_assign rfl (by decide)) ?_)
  refine list_nil ?_
  refine hK1 _ ?_; clear hK1 K1
  refine code_seq (fun K2 hK2 => ?_)
  refine code_region ?_
  refine list_cons rfl (op_q (q_move rfl (by decide)) ?_)
  refine list_cons rfl (op_call _ (impl_goalCells l (by omega)) rfl rfl (by decide) (by decide) (by decide) rfl ?_)
  rintro _ rfl
  refine list_cons rfl (op_buildSlice sl_24 (parts := []) rfl rfl rfl (by decide) (by decide) (by decide) rfl ?_)
  refine list_cons rfl (op_q (q_assign rfl (by decide)) ?_)
  refine list_cons rfl (op_q (q_assign rfl (by decide)) ?_)
  refine list_nil ?_
  refine hK2 _ ?_; clear hK2 K2
  refine codeT.imp (σ' := [(0, .val (.int _ _)), (1, .par 1 _), (4, .val _), (5, .val (.bool _)), (6, .own 13 3 1 _ _), (7, .own 14 3 1 _ _)]) ?_ (imp_covers ⟨rfl, rfl, rfl, rfl, rfl, rfl, trivial⟩)
  refine code_seq (fun K3 hK3 => ?_)
  refine code_seq (fun K4 hK4 => ?_)
  refine code_region ?_
  refine list_cons rfl (op_q (q_move rfl (by decide)) ?_)
  refine list_cons rfl (op_q (q_len_sl Tryd.underlying24 rfl rfl (by decide)) ?_)
  refine list_cons rfl (op_q (q_move rfl (by decide)) ?_)
  refine list_nil ?_
  refine hK4 _ ?_; clear hK4 K4
  refine code_block ?_
  refine code_loop (X := PV × Bool × Nat × List PV × Int) (fun x => [(0, .val (.int .i64 c)), (1, .par 1 (.sl l.length (l.map (.int .i64)))), (4, .val x.1), (5, .val (.bool x.2.1)), (6, .own 13 3 1 (gcE l).length ((gcE l).map (.int .i64))), (7, .own 14 3 1 x.2.2.1 x.2.2.2.1), (15, .own 13 3 1 (gcE l).length ((gcE l).map (.int .i64))), (16, .val (.int .i64 ((gcE l).length))), (17, .val (.int .i64 x.2.2.2.2))]) (fun x => 0 ≤ x.2.2.2.2 ∧ x.2.2.2.2 ≤ (gcE l).length ∧ x.2.2.1 = (leJ (gcE l) c x.2.2.2.2.toNat).length ∧ x.2.2.2.1 = (leJ (gcE l) c x.2.2.2.2.toNat).map (.int .i64)) (fun x => ((gcE l).length - x.2.2.2.2).toNat) (_, _, _, _, _) (imp_covers ⟨rfl, rfl, rfl, rfl, rfl, rfl, rfl, rfl, rfl, trivial⟩) ?_ ?_
  · (try dsimp only)
    exact ⟨by omega, by omega, by unfold leJ; split <;> rfl, by unfold leJ; split <;> rfl⟩
  · intro x hI
    obtain ⟨t4_p, t5, last_n, last_c, t17⟩ := x
    replace hI : 0 ≤ t17 ∧ t17 ≤ (gcE l).length ∧ last_n = (leJ (gcE l) c t17.toNat).length ∧ last_c = (leJ (gcE l) c t17.toNat).map (.int .i64) := hI
    show codeT _ _ _ [(0, .val (.int .i64 c)), (1, .par 1 (.sl l.length (l.map (.int .i64)))), (4, .val t4_p), (5, .val (.bool t5)), (6, .own 13 3 1 (gcE l).length ((gcE l).map (.int .i64))), (7, .own 14 3 1 last_n last_c), (15, .own 13 3 1 (gcE l).length ((gcE l).map (.int .i64))), (16, .val (.int .i64 ((gcE l).length))), (17, .val (.int .i64 t17))] _
    obtain ⟨i1, i2, rfl, rfl⟩ := hI
    have hx := he t17.toNat
    have hjl := leJ_len (gcE l) c t17.toNat
    have hlo := fun h => lit_own he (k := t17.toNat) h
    have han := andNot_0 p0 p1 hx
    refine code_seq (fun K5 hK5 => ?_)
    refine code_region ?_
    refine list_cons rfl (op_q (q_lt rfl rfl (by decide)) ?_)
    refine list_nil ?_
    refine hK5 _ ?_; clear hK5 K5
    refine code_seq (fun K6 hK6 => ?_)
    refine code_cond_d rfl (fun h1 => ?_) (fun h1 => ?_)
    · skip
      (try simp only [Decidable.not_not] at h1)
      refine code_skip ?_
      refine hK6 _ ?_; clear hK6 K6
      refine code_seq (fun K7 hK7 => ?_)
      refine code_block ?_
      refine code_seq (fun K8 hK8 => ?_)
      refine code_region ?_
      refine list_cons rfl (op_q (q_indexAddr_own sl_24 rfl rfl (by omega) (by omega) (by decide)) ?_)
      refine list_cons rfl (op_q (q_load one_3 6 rfl rfl rfl (by first | rfl | exact get_map1 _ 0 _ (by first | omega | (simp; omega))) (by decide)) ?_)
      refine list_cons rfl (op_q (q_assign rfl (by decide)) ?_)
      refine list_nil ?_
      refine hK8 _ ?_; clear hK8 K8
      refine code_seq (fun K9 hK9 => ?_)
      refine code_region ?_
      refine list_cons rfl (op_q (q_move rfl (by decide)) ?_)
      refine list_cons rfl (op_q (q_move rfl (by decide)) ?_)
      refine list_cons rfl (op_call _ (impl_lightableIn ((gcE l).getD t17.toNat 0) (gcE l) (by omega) (by omega) he (by omega)) rfl rfl (by decide) (by decide) (by decide) rfl ?_)
      rintro _ rfl
      refine list_cons rfl (op_q (q_move rfl (by decide)) ?_)
      refine list_cons rfl (op_q (q_extract rfl rfl (by decide)) ?_)
      refine list_cons rfl (op_q (q_extract rfl rfl (by decide)) ?_)
      refine list_cons rfl (op_q (q_assign rfl (by decide)) ?_)
      refine list_cons rfl (op_q (q_assign rfl (by decide)) ?_)
      refine list_nil ?_
      refine hK9 _ ?_; clear hK9 K9
      refine codeT.imp (σ' := [(0, .val (.int _ _)), (1, .par 1 _), (4, .val _), (5, .val (.bool _)), (6, .own 13 3 1 _ _), (7, .own 14 3 1 _ _), (9, .val (.int .i64 _)), (10, .val (.int .i64 _)), (15, .own 13 3 1 _ _), (16, .val (.int .i64 _)), (17, .val (.int .i64 _))]) ?_ (imp_covers ⟨rfl, rfl, rfl, rfl, rfl, rfl, rfl, rfl, rfl, rfl, rfl, trivial⟩)
      refine code_seq (fun K10 hK10 => ?_)
      refine code_region ?_
      refine list_cons rfl (op_q (q_move rfl (by decide)) ?_)
      refine list_cons rfl (op_q (q_eq rfl rfl (by decide)) ?_)
      refine list_cons rfl (op_q (q_move rfl (by decide)) ?_)
      refine list_guard_d rfl rfl rfl rfl (by decide) rfl (by decide) (fun h2 => ?_) (fun h2 => ?_)
      · simp only [Bool.false_eq_true, if_true, if_false, Decidable.not_not] at h2
        refine id (op_q (q_move rfl (by decide)) ?_)
        refine list_guard_y rfl rfl rfl rfl (by decide) rfl ?_
        refine id (op_q (q_move rfl (by decide)) ?_)
        refine list_guard_y rfl rfl rfl rfl (by decide) rfl ?_
        refine id (op_q (by first | exact q_andNotI rfl rfl (by decide) (by omega) (by omega) (by omega) (by omega) | exact q_ib rfl rfl rfl (by decide)) ?_)
        refine list_guard_y rfl rfl rfl rfl (by decide) rfl ?_
        refine id (op_q (q_eq rfl rfl (by decide)) ?_)
        refine list_cons rfl (op_q (q_pick rfl rfl (by decide)) ?_)
        refine list_nil ?_
        refine hK10 _ ?_; clear hK10 K10
        refine codeT.imp (σ' := [(0, .val (.int _ _)), (1, .par 1 _), (4, .val _), (5, .val (.bool _)), (6, .own 13 3 1 _ _), (7, .own 14 3 1 _ _), (9, .val (.int .i64 _)), (10, .val (.int .i64 _)), (15, .own 13 3 1 _ _), (16, .val (.int .i64 _)), (17, .val (.int .i64 _)), (34, .val (.bool _))]) ?_ (imp_covers ⟨rfl, rfl, rfl, rfl, rfl, rfl, rfl, rfl, rfl, rfl, rfl, rfl, trivial⟩)
        refine code_cond_d rfl (fun h3 => ?_) (fun h3 => ?_)
        · skip
          (try simp only [Decidable.not_not] at h3)
          refine code_region ?_
          refine list_cons rfl (op_q (q_move rfl (by decide)) ?_)
          refine list_cons rfl (op_q (q_move rfl (by decide)) ?_)
          refine list_cons rfl (op_buildSlice sl_24 (parts := [(0, .tmp 36)]) rfl rfl rfl (by decide) (by decide) (by decide) rfl ?_)
          refine list_cons rfl (op_append_gen sl_24 (l := 14) (.inl rfl) rfl rfl (l2 := none) (.inl ⟨rfl, (by first | rfl | exact flat_map _ (fun _ => rfl) _)⟩) (by first | rfl | (simp; done) | (simp; omega)) (by omega) (by decide) (by decide) (by decide) ?_)
          refine list_cons rfl (op_q (q_assign rfl (by decide)) ?_)
          refine list_nil ?_
          refine blk_n ?_
          refine hK7 _ ?_; clear hK7 K7
          refine codeT.imp (σ' := [(0, .val (.int _ _)), (1, .par 1 _), (4, .val _), (5, .val (.bool _)), (6, .own 13 3 1 _ _), (7, .own 14 3 1 _ _), (9, .val (.int .i64 _)), (10, .val (.int .i64 _)), (15, .own 13 3 1 _ _), (16, .val (.int .i64 _)), (17, .val (.int .i64 _))]) ?_ (imp_covers ⟨rfl, rfl, rfl, rfl, rfl, rfl, rfl, rfl, rfl, rfl, rfl, trivial⟩)
          refine code_region ?_
          refine list_cons rfl (op_q (by first | exact q_addI rfl rfl (by decide) (by omega) (by omega) | exact q_ib rfl rfl rfl (by decide)) ?_)
          refine list_cons rfl (op_q (q_move rfl (by decide)) ?_)
          refine list_nil ?_
          refine then_n ⟨(_, _, _, _, _), imp_covers ⟨rfl, rfl, rfl, rfl, rfl, rfl, rfl, rfl, rfl, trivial⟩, ?_, ?_⟩
          · (try dsimp only)
            first
            | (have hl0 := hlo (by omega)
               have e := leJ_up (han.1 (by assumption)) (by omega)
               exact ⟨by omega, by omega, by rw [show (t17 + 1).toNat = t17.toNat + 1 by omega, e, List.length_append]; rfl, by rw [show (t17 + 1).toNat = t17.toNat + 1 by omega, e, List.map_append]; rfl⟩)
            | (have hl0 := hlo (by omega)
               have e : leJ (gcE l) c (t17.toNat + 1) = leJ (gcE l) c t17.toNat := leJ_no fun z => by first | exact absurd (han.2 z.1) (by assumption) | (have := z.2; omega)
               exact ⟨by omega, by omega, by rw [show (t17 + 1).toNat = t17.toNat + 1 by omega, e], by rw [show (t17 + 1).toNat = t17.toNat + 1 by omega, e]⟩)
          · (try dsimp only); omega
        (try simp only [Decidable.not_not] at h3)
        refine code_skip ?_
        refine blk_n ?_
        refine hK7 _ ?_; clear hK7 K7
        refine code_region ?_
        refine list_cons rfl (op_q (by first | exact q_addI rfl rfl (by decide) (by omega) (by omega) | exact q_ib rfl rfl rfl (by decide)) ?_)
        refine list_cons rfl (op_q (q_move rfl (by decide)) ?_)
        refine list_nil ?_
        refine then_n ⟨(_, _, _, _, _), imp_covers ⟨rfl, rfl, rfl, rfl, rfl, rfl, rfl, rfl, rfl, trivial⟩, ?_, ?_⟩
        · (try dsimp only)
          first
          | (have hl0 := hlo (by omega)
             have e := leJ_up (han.1 (by assumption)) (by omega)
             exact ⟨by omega, by omega, by rw [show (t17 + 1).toNat = t17.toNat + 1 by omega, e, List.length_append]; rfl, by rw [show (t17 + 1).toNat = t17.toNat + 1 by omega, e, List.map_append]; rfl⟩)
          | (have hl0 := hlo (by omega)
             have e : leJ (gcE l) c (t17.toNat + 1) = leJ (gcE l) c t17.toNat := leJ_no fun z => by first | exact absurd (han.2 z.1) (by assumption) | (have := z.2; omega)
             exact ⟨by omega, by omega, by rw [show (t17 + 1).toNat = t17.toNat + 1 by omega, e], by rw [show (t17 + 1).toNat = t17.toNat + 1 by omega, e]⟩)
        · (try dsimp only); omega
      simp only [Bool.false_eq_true, if_true, if_false, Decidable.not_not] at h2
      refine list_guard_nT rfl rfl rfl rfl (by decide) (by decide) ?_
      refine list_guard_nT rfl rfl rfl rfl (by decide) (by decide) ?_
      refine list_guard_nT rfl rfl rfl rfl (by decide) (by decide) ?_
      refine list_cons rfl (op_q (q_pick rfl rfl (by decide)) ?_)
      refine list_nil ?_
      refine hK10 _ ?_; clear hK10 K10
      refine code_cond_f rfl ?_
      refine code_skip ?_
      refine blk_n ?_
      refine hK7 _ ?_; clear hK7 K7
      refine codeT.imp (σ' := [(0, .val (.int _ _)), (1, .par 1 _), (4, .val _), (5, .val (.bool _)), (6, .own 13 3 1 _ _), (7, .own 14 3 1 _ _), (9, .val (.int .i64 _)), (10, .val (.int .i64 _)), (15, .own 13 3 1 _ _), (16, .val (.int .i64 _)), (17, .val (.int .i64 _))]) ?_ (imp_covers ⟨rfl, rfl, rfl, rfl, rfl, rfl, rfl, rfl, rfl, rfl, rfl, trivial⟩)
      refine code_region ?_
      refine list_cons rfl (op_q (by first | exact q_addI rfl rfl (by decide) (by omega) (by omega) | exact q_ib rfl rfl rfl (by decide)) ?_)
      refine list_cons rfl (op_q (q_move rfl (by decide)) ?_)
      refine list_nil ?_
      refine then_n ⟨(_, _, _, _, _), imp_covers ⟨rfl, rfl, rfl, rfl, rfl, rfl, rfl, rfl, rfl, trivial⟩, ?_, ?_⟩
      · (try dsimp only)
        first
        | (have hl0 := hlo (by omega)
           have e := leJ_up (han.1 (by assumption)) (by omega)
           exact ⟨by omega, by omega, by rw [show (t17 + 1).toNat = t17.toNat + 1 by omega, e, List.length_append]; rfl, by rw [show (t17 + 1).toNat = t17.toNat + 1 by omega, e, List.map_append]; rfl⟩)
        | (have hl0 := hlo (by omega)
           have e : leJ (gcE l) c (t17.toNat + 1) = leJ (gcE l) c t17.toNat := leJ_no fun z => by first | exact absurd (han.2 z.1) (by assumption) | (have := z.2; omega)
           exact ⟨by omega, by omega, by rw [show (t17 + 1).toNat = t17.toNat + 1 by omega, e], by rw [show (t17 + 1).toNat = t17.toNat + 1 by omega, e]⟩)
      · (try dsimp only); omega
    (try simp only [Decidable.not_not] at h1)
    refine code_exit ?_
    refine then_x ?_; clear hK6 K6
    refine then_x ?_
    refine blk_hit ?_
    refine hK3 _ ?_; clear hK3 K3
    refine code_seq (fun K11 hK11 => ?_)
    refine code_region ?_
    refine list_cons rfl (op_q (q_move rfl (by decide)) ?_)
    refine list_cons rfl (op_callM (sort_O (leJ (gcE l) c t17.toNat) (by omega)) (.tmp 40) 14 [7, 40] [] _ rfl rfl (by intro y hy; cases hy; exact ⟨rfl, (by intro t ht; simp only [List.mem_cons, List.not_mem_nil, or_false] at ht; rcases ht with rfl | rfl <;> rfl), (by intro s hs; simp only [List.mem_cons, List.not_mem_nil, or_false] at hs; (try cases hs))⟩) (by decide) (by decide) (by decide) rfl (fun _ => rfl) ?_)
    rintro _ _ ⟨rfl, rfl⟩
    refine list_nil ?_
    refine hK11 _ ?_; clear hK11 K11
    refine codeT.imp (σ' := [(0, .val (.int _ _)), (1, .par 1 _), (4, .val _), (5, .val (.bool _)), (6, .own 13 3 1 _ _), (7, .own 14 3 1 _ _), (15, .own 13 3 1 _ _), (16, .val (.int .i64 _)), (17, .val (.int .i64 _))]) ?_ (imp_covers ⟨rfl, rfl, rfl, rfl, rfl, rfl, rfl, rfl, rfl, trivial⟩)
    refine code_seq (fun K12 hK12 => ?_)
    refine code_region ?_
    refine list_cons rfl (op_q (q_move rfl (by decide)) ?_)
    refine list_cons rfl (op_q (q_move rfl (by decide)) ?_)
    refine list_cons rfl (op_q (q_len_sl Tryd.underlying24 rfl rfl (by decide)) ?_)
    refine list_cons rfl (op_q (q_gt rfl rfl (by decide)) ?_)
    refine list_cons rfl (op_q (q_assign rfl (by decide)) ?_)
    refine list_cons rfl (op_q (q_assign rfl (by decide)) ?_)
    refine list_nil ?_
    refine hK12 _ ?_; clear hK12 K12
    refine code_ret ?_
    refine ends_ret (cs := []) rfl rfl rfl rfl trivial ?_
    have ht : t17.toNat = (gcE l).length := by omega
    rw [ht]
    by_cases e : WayP c l
    · have e1 := last_eq e
      have e2 : (leJ (gcE l) c (gcE l).length).length = (laL (dcd l) c.toNat 128).length := by rw [← e1, srt_len]
      have e3 := last_pos e
      rw [e1, e2, if_pos e, decide_eq_true e, decide_eq_true (by omega)]
    · have e1 := leJ_out (e := gcE l) (c := c) fun z => e (on_way.1 z)
      rw [e1, if_neg e, decide_eq_false e, show srt ([] : List Int) = [] by simp [srt]]; rfl

theorem take_snocG (l : List Int) {x : Nat} (h : x < l.length) : l.take (x + 1) = l.take x ++ [l.getD x 0] := by
  rw [List.take_add_one, List.getElem?_eq_getElem h, List.getD_eq_getElem?_getD, List.getElem?_eq_getElem h]; rfl
theorem max_step {L : List Int} {k : Nat} {m v : Int} (h : isMax (L.take k) m) (hk : k < L.length) (hv : v = if L.getD k 0 > m then L.getD k 0 else m) : isMax (L.take (k + 1)) v := by
  subst hv
  rw [take_snocG L hk]
  obtain ⟨h1, h2⟩ := h
  by_cases e : L.getD k 0 > m
  · rw [if_pos e]
    exact ⟨by simp, fun x hx => by
      rcases List.mem_append.1 hx with hx | hx
      · have := h2 x hx; omega
      · rw [List.mem_singleton.1 hx]; exact Int.le_refl _⟩
  · rw [if_neg e]
    exact ⟨List.mem_append.2 (.inl h1), fun x hx => by
      rcases List.mem_append.1 hx with hx | hx
      · exact h2 x hx
      · rw [List.mem_singleton.1 hx]; omega⟩
theorem min_step {L : List Int} {k : Nat} {m v : Int} (h : isMin (L.take k) m) (hk : k < L.length) (hv : v = if L.getD k 0 < m then L.getD k 0 else m) : isMin (L.take (k + 1)) v := by
  subst hv
  rw [take_snocG L hk]
  obtain ⟨h1, h2⟩ := h
  by_cases e : L.getD k 0 < m
  · rw [if_pos e]
    exact ⟨by simp, fun x hx => by
      rcases List.mem_append.1 hx with hx | hx
      · have := h2 x hx; omega
      · rw [List.mem_singleton.1 hx]; exact Int.le_refl _⟩
  · rw [if_neg e]
    exact ⟨List.mem_append.2 (.inl h1), fun x hx => by
      rcases List.mem_append.1 hx with hx | hx
      · exact h2 x hx
      · rw [List.mem_singleton.1 hx]; omega⟩
theorem take_1 {L : List Int} (h : 0 < L.length) : L.take 1 = [L.getD 0 0] := by
  have := take_snocG L h
  rwa [List.take_zero, List.nil_append] at this
theorem max_1 {L : List Int} (h : 0 < L.length) : isMax (L.take 1) (L.getD 0 0) := by
  rw [take_1 h]; exact ⟨List.mem_cons_self, fun x hx => by rw [List.mem_singleton.1 hx]; exact Int.le_refl _⟩
theorem min_1 {L : List Int} (h : 0 < L.length) : isMin (L.take 1) (L.getD 0 0) := by
  rw [take_1 h]; exact ⟨List.mem_cons_self, fun x hx => by rw [List.mem_singleton.1 hx]; exact Int.le_refl _⟩
/-- How many bars the plays to the last cells light. -/
def szI (l : List Int) (c : Int) : List Int := if WayP c l then szL (dcd l) c.toNat else []
theorem szI_len (l : List Int) (c : Int) : (szI l c).length ≤ 128 := by
  unfold szI
  split
  · unfold szL; rw [List.length_map]; exact laL_len _ _ _
  · simp
theorem szI_pos {l : List Int} {c : Int} (h : WayP c l) : 0 < (szI l c).length := by
  unfold szI szL
  rw [if_pos h, List.length_map]; exact last_pos h
theorem szI_bd (l : List Int) (c : Int) : ∀ x ∈ szI l c, 0 ≤ x ∧ x ≤ 7 := fun x hx => by
  unfold szI at hx
  split at hx
  · obtain ⟨y, _, rfl⟩ := List.mem_map.1 hx
    have := far_le c.toNat y.toNat
    omega
  · cases hx
theorem szI_at (l : List Int) (c : Int) {j : Nat} (h : j < (szI l c).length) : 0 ≤ (szI l c).getD j 0 ∧ (szI l c).getD j 0 ≤ 7 := by
  have e : (szI l c).getD j 0 = (szI l c)[j] := by simp [h]
  rw [e]; exact szI_bd l c _ (List.getElem_mem h)
theorem la_cell {e : List Int} (he : CellsP e) (c : Nat) {j : Nat} (h : j < (laL e c 128).length) : 0 ≤ (laL e c 128).getD j 0 ∧ (laL e c 128).getD j 0 ≤ 127 := by
  have e2 : (laL e c 128).getD j 0 = (laL e c 128)[j] := by simp [h]
  rw [e2]
  obtain ⟨x, h1, _, h3⟩ := laL_mem.1 (List.getElem_mem h)
  rw [h3]; omega
theorem long_val {l : List Int} {c : Int} (h : WayP c l) {v : Int} (hv : isMax (szI l c) v) : v = val fL (dcd l) c.toNat := by
  unfold szI at hv
  rw [if_pos h] at hv
  exact max_uni hv (long_max (dcd_cells l) h.2.2)
theorem short_val {l : List Int} {c : Int} (h : WayP c l) {v : Int} (hv : isMin (szI l c) v) : v = val fS (dcd l) c.toNat := by
  unfold szI at hv
  rw [if_pos h] at hv
  exact min_uni hv (short_min (dcd_cells l) h.2.2)
def facS (L : List Int) (k : Nat) : Int := sumP ((L.take k).map fun x => facI x.toNat)
theorem facS_succ {L : List Int} {k : Nat} (h : k < L.length) : facS L (k + 1) = facS L k + facI (L.getD k 0).toNat := by
  unfold facS sumP
  rw [take_snocG L h, List.map_append, List.foldl_append]; rfl
theorem facS_le {L : List Int} (hL : ∀ x ∈ L, 0 ≤ x ∧ x ≤ 7) (k : Nat) : 0 ≤ facS L k ∧ facS L k ≤ (L.take k).length * 5040 := by
  have := sumP_le (L := (L.take k).map fun x => facI x.toNat) (B := 5040) fun x hx => by
    obtain ⟨y, hy, rfl⟩ := List.mem_map.1 hx
    have h1 := hL y (List.mem_of_mem_take hy)
    have := facI_bd y.toNat (by omega)
    omega
  rwa [List.length_map] at this
theorem plays_val {l : List Int} {c : Int} (h : WayP c l) : facS (szI l c) (szI l c).length = val fP (dcd l) c.toNat := by
  have hc := h.2.1
  rw [plays_sum (dcd_cells l) c.toNat (by omega) h.2.2, ← la_sum]
  unfold facS
  rw [List.take_length]
  unfold szI szL
  rw [if_pos h, List.map_map]
  congr 1
theorem fac_step {s left : Int} (h : 1 < left) : s * left * facI (left - 1).toNat = s * facI left.toNat := by
  have e : left.toNat = (left - 1).toNat + 1 := by omega
  have e2 : facI left.toNat = facI (left - 1).toNat * left := by
    rw [e]
    show facI (left - 1).toNat * (((left - 1).toNat + 1 : Nat) : Int) = _
    rw [show (((left - 1).toNat + 1 : Nat) : Int) = left by omega]
  rw [e2, Int.mul_assoc, Int.mul_comm left]
theorem fac_one {left : Int} (h : ¬ 1 < left) (h0 : 0 ≤ left) : facI left.toNat = 1 := by
  have : left.toNat = 0 ∨ left.toNat = 1 := by omega
  rcases this with e | e <;> rw [e] <;> rfl
theorem fac_bd {s left : Int} (h0 : 0 ≤ left) (h1 : left ≤ 7) (hs : 1 ≤ s) (h : s * facI left.toNat ≤ 5040) : s ≤ 5040 := by
  have hf := facI_bd left.toNat (by omega)
  have := Int.mul_le_mul_of_nonneg_left hf.1 (show 0 ≤ s by omega)
  rw [Int.mul_one] at this
  omega


set_option maxRecDepth 8000 in
set_option maxHeartbeats 2000000 in
theorem maxL_c (L : List Int) (h0 : 0 < L.length) (hL : L.length ≤ 1000) : PCalls Tryd.prog 82 [.sl L.length (L.map (.int .i64))] (fun rs => ∃ v : Int, isMax L v ∧ rs = [.val (.int .i64 (v))]) := by
  refine pcalls_of_code (n := 25) az Tryd.func82 (by kernel_rfl) rfl rfl (Nat.le_of_ble_eq_true rfl) (by intro t u h; simp [Tryd.f82] at h) ?_
  refine code_seq (fun K1 hK1 => ?_)
  refine code_region ?_
  refine list_cons rfl (op_q (q_assign rfl (by decide)) ?_)
  refine list_nil ?_
  refine hK1 _ ?_; clear hK1 K1
  refine code_seq (fun K2 hK2 => ?_)
  refine code_seq (fun K3 hK3 => ?_)
  refine code_region ?_
  refine list_cons rfl (op_q (q_move rfl (by decide)) ?_)
  refine list_cons rfl (op_q (q_len_sl Tryd.underlying24 rfl rfl (by decide)) ?_)
  refine list_cons rfl (op_q (q_lt rfl rfl (by decide)) ?_)
  refine list_nil ?_
  refine hK3 _ ?_; clear hK3 K3
  refine code_cond_d rfl (fun h1 => ?_) (fun h1 => ?_)
  · skip
    (try simp only [Decidable.not_not] at h1)
    exfalso
    omega
  (try simp only [Decidable.not_not] at h1)
  refine code_skip ?_
  refine hK2 _ ?_; clear hK2 K2
  refine code_seq (fun K4 hK4 => ?_)
  refine code_region ?_
  refine list_cons rfl (op_q (q_move rfl (by decide)) ?_)
  refine list_cons rfl (op_q (q_indexAddr_rd sl_24 rfl (.inl ⟨_, rfl, rfl⟩) rfl (by omega) (by omega) (by decide)) ?_)
  refine list_cons rfl (op_q (q_load_rd one_3 rfl (.inl ⟨_, (by first | rfl | exact congrArg (SV.rpar _) (drop_map1 _ 0 _ (by first | omega | (simp; omega)))), rfl⟩) (by decide)) ?_)
  refine list_cons rfl (op_q (q_assign rfl (by decide)) ?_)
  refine list_nil ?_
  refine hK4 _ ?_; clear hK4 K4
  refine code_seq (fun K5 hK5 => ?_)
  refine code_seq (fun K6 hK6 => ?_)
  refine code_region ?_
  refine list_cons rfl (op_q (q_assign rfl (by decide)) ?_)
  refine list_nil ?_
  refine hK6 _ ?_; clear hK6 K6
  refine code_block ?_
  refine code_loop (X := Int × Int × Int) (fun x => [(0, .par 0 (.sl L.length (L.map (.int .i64)))), (2, .val (.int .i64 x.1)), (3, .val (.int .i64 x.2.1)), (4, .val (.int .i64 x.2.2))]) (fun x => 1 ≤ x.2.2 ∧ x.2.2 ≤ L.length ∧ isMax (L.take x.2.2.toNat) x.2.1) (fun x => (L.length - x.2.2).toNat) (_, _, _) (imp_covers ⟨rfl, rfl, rfl, rfl, trivial⟩) ?_ ?_
  · (try dsimp only)
    exact ⟨by omega, by omega, max_1 h0⟩
  · intro x hI
    obtain ⟨t2, m, i⟩ := x
    replace hI : 1 ≤ i ∧ i ≤ L.length ∧ isMax (L.take i.toNat) m := hI
    show codeT _ _ _ [(0, .par 0 (.sl L.length (L.map (.int .i64)))), (2, .val (.int .i64 t2)), (3, .val (.int .i64 m)), (4, .val (.int .i64 i))] _
    obtain ⟨i1, i2, i3⟩ := hI
    refine code_seq (fun K7 hK7 => ?_)
    refine code_seq (fun K8 hK8 => ?_)
    refine code_region ?_
    refine list_cons rfl (op_q (q_move rfl (by decide)) ?_)
    refine list_cons rfl (op_q (q_move rfl (by decide)) ?_)
    refine list_cons rfl (op_q (q_len_sl Tryd.underlying24 rfl rfl (by decide)) ?_)
    refine list_cons rfl (op_q (q_lt rfl rfl (by decide)) ?_)
    refine list_nil ?_
    refine hK8 _ ?_; clear hK8 K8
    refine code_cond_d rfl (fun h2 => ?_) (fun h2 => ?_)
    · skip
      (try simp only [Decidable.not_not] at h2)
      refine code_skip ?_
      refine hK7 _ ?_; clear hK7 K7
      refine code_seq (fun K9 hK9 => ?_)
      refine code_block ?_
      refine code_region ?_
      refine list_cons rfl (op_q (q_move rfl (by decide)) ?_)
      refine list_cons rfl (op_q (q_move rfl (by decide)) ?_)
      refine list_cons rfl (op_q (q_move rfl (by decide)) ?_)
      refine list_cons rfl (op_q (q_indexAddr_rd sl_24 rfl (.inl ⟨_, rfl, rfl⟩) rfl (by omega) (by omega) (by decide)) ?_)
      refine list_cons rfl (op_q (q_load_rd one_3 rfl (.inl ⟨_, (by first | rfl | exact congrArg (SV.rpar _) (drop_map1 _ 0 _ (by first | omega | (simp; omega)))), rfl⟩) (by decide)) ?_)
      refine list_cons rfl (op_q (q_max rfl rfl (by decide)) ?_)
      refine list_cons rfl (op_q (q_assign rfl (by decide)) ?_)
      refine list_nil ?_
      refine blk_n ?_
      refine hK9 _ ?_; clear hK9 K9
      refine codeT.imp (σ' := [(0, _), (2, _), (3, _), (4, _)]) ?_ (imp_covers ⟨rfl, rfl, rfl, rfl, trivial⟩)
      refine code_region ?_
      refine list_cons rfl (op_q (q_move rfl (by decide)) ?_)
      refine list_cons rfl (op_q (by first | exact q_addI rfl rfl (by decide) (by omega) (by omega) | exact q_ib rfl rfl rfl (by decide)) ?_)
      refine list_cons rfl (op_q (q_assign rfl (by decide)) ?_)
      refine list_nil ?_
      refine then_n ⟨(_, _, _), imp_covers ⟨rfl, rfl, rfl, rfl, trivial⟩, ?_, ?_⟩
      · (try dsimp only)
        exact ⟨by omega, by omega, by rw [show (i + 1).toNat = i.toNat + 1 by omega]; exact max_step i3 (by omega) rfl⟩
      · (try dsimp only); omega
    (try simp only [Decidable.not_not] at h2)
    refine code_exit ?_
    refine then_x ?_; clear hK7 K7
    refine then_x ?_
    refine blk_hit ?_
    refine hK5 _ ?_; clear hK5 K5
    refine code_seq (fun K10 hK10 => ?_)
    refine code_region ?_
    refine list_cons rfl (op_q (q_move rfl (by decide)) ?_)
    refine list_cons rfl (op_q (q_assign rfl (by decide)) ?_)
    refine list_nil ?_
    refine hK10 _ ?_; clear hK10 K10
    refine code_ret ?_
    refine ends_ret (cs := []) rfl rfl rfl rfl trivial ?_
    exact ⟨m, by rw [show i.toNat = L.length by omega, List.take_length] at i3; exact i3, rfl⟩

set_option maxRecDepth 8000 in
set_option maxHeartbeats 2000000 in
theorem minL_c (L : List Int) (h0 : 0 < L.length) (hL : L.length ≤ 1000) : PCalls Tryd.prog 83 [.sl L.length (L.map (.int .i64))] (fun rs => ∃ v : Int, isMin L v ∧ rs = [.val (.int .i64 (v))]) := by
  refine pcalls_of_code (n := 25) az Tryd.func83 (by kernel_rfl) rfl rfl (Nat.le_of_ble_eq_true rfl) (by intro t u h; simp [Tryd.f83] at h) ?_
  refine code_seq (fun K1 hK1 => ?_)
  refine code_region ?_
  refine list_cons rfl (op_q (q_assign rfl (by decide)) ?_)
  refine list_nil ?_
  refine hK1 _ ?_; clear hK1 K1
  refine code_seq (fun K2 hK2 => ?_)
  refine code_seq (fun K3 hK3 => ?_)
  refine code_region ?_
  refine list_cons rfl (op_q (q_move rfl (by decide)) ?_)
  refine list_cons rfl (op_q (q_len_sl Tryd.underlying24 rfl rfl (by decide)) ?_)
  refine list_cons rfl (op_q (q_lt rfl rfl (by decide)) ?_)
  refine list_nil ?_
  refine hK3 _ ?_; clear hK3 K3
  refine code_cond_d rfl (fun h1 => ?_) (fun h1 => ?_)
  · skip
    (try simp only [Decidable.not_not] at h1)
    exfalso
    omega
  (try simp only [Decidable.not_not] at h1)
  refine code_skip ?_
  refine hK2 _ ?_; clear hK2 K2
  refine code_seq (fun K4 hK4 => ?_)
  refine code_region ?_
  refine list_cons rfl (op_q (q_move rfl (by decide)) ?_)
  refine list_cons rfl (op_q (q_indexAddr_rd sl_24 rfl (.inl ⟨_, rfl, rfl⟩) rfl (by omega) (by omega) (by decide)) ?_)
  refine list_cons rfl (op_q (q_load_rd one_3 rfl (.inl ⟨_, (by first | rfl | exact congrArg (SV.rpar _) (drop_map1 _ 0 _ (by first | omega | (simp; omega)))), rfl⟩) (by decide)) ?_)
  refine list_cons rfl (op_q (q_assign rfl (by decide)) ?_)
  refine list_nil ?_
  refine hK4 _ ?_; clear hK4 K4
  refine code_seq (fun K5 hK5 => ?_)
  refine code_seq (fun K6 hK6 => ?_)
  refine code_region ?_
  refine list_cons rfl (op_q (q_assign rfl (by decide)) ?_)
  refine list_nil ?_
  refine hK6 _ ?_; clear hK6 K6
  refine code_block ?_
  refine code_loop (X := Int × Int × Int) (fun x => [(0, .par 0 (.sl L.length (L.map (.int .i64)))), (2, .val (.int .i64 x.1)), (3, .val (.int .i64 x.2.1)), (4, .val (.int .i64 x.2.2))]) (fun x => 1 ≤ x.2.2 ∧ x.2.2 ≤ L.length ∧ isMin (L.take x.2.2.toNat) x.2.1) (fun x => (L.length - x.2.2).toNat) (_, _, _) (imp_covers ⟨rfl, rfl, rfl, rfl, trivial⟩) ?_ ?_
  · (try dsimp only)
    exact ⟨by omega, by omega, min_1 h0⟩
  · intro x hI
    obtain ⟨t2, m, i⟩ := x
    replace hI : 1 ≤ i ∧ i ≤ L.length ∧ isMin (L.take i.toNat) m := hI
    show codeT _ _ _ [(0, .par 0 (.sl L.length (L.map (.int .i64)))), (2, .val (.int .i64 t2)), (3, .val (.int .i64 m)), (4, .val (.int .i64 i))] _
    obtain ⟨i1, i2, i3⟩ := hI
    refine code_seq (fun K7 hK7 => ?_)
    refine code_seq (fun K8 hK8 => ?_)
    refine code_region ?_
    refine list_cons rfl (op_q (q_move rfl (by decide)) ?_)
    refine list_cons rfl (op_q (q_move rfl (by decide)) ?_)
    refine list_cons rfl (op_q (q_len_sl Tryd.underlying24 rfl rfl (by decide)) ?_)
    refine list_cons rfl (op_q (q_lt rfl rfl (by decide)) ?_)
    refine list_nil ?_
    refine hK8 _ ?_; clear hK8 K8
    refine code_cond_d rfl (fun h2 => ?_) (fun h2 => ?_)
    · skip
      (try simp only [Decidable.not_not] at h2)
      refine code_skip ?_
      refine hK7 _ ?_; clear hK7 K7
      refine code_seq (fun K9 hK9 => ?_)
      refine code_block ?_
      refine code_region ?_
      refine list_cons rfl (op_q (q_move rfl (by decide)) ?_)
      refine list_cons rfl (op_q (q_move rfl (by decide)) ?_)
      refine list_cons rfl (op_q (q_move rfl (by decide)) ?_)
      refine list_cons rfl (op_q (q_indexAddr_rd sl_24 rfl (.inl ⟨_, rfl, rfl⟩) rfl (by omega) (by omega) (by decide)) ?_)
      refine list_cons rfl (op_q (q_load_rd one_3 rfl (.inl ⟨_, (by first | rfl | exact congrArg (SV.rpar _) (drop_map1 _ 0 _ (by first | omega | (simp; omega)))), rfl⟩) (by decide)) ?_)
      refine list_cons rfl (op_q (q_min rfl rfl (by decide)) ?_)
      refine list_cons rfl (op_q (q_assign rfl (by decide)) ?_)
      refine list_nil ?_
      refine blk_n ?_
      refine hK9 _ ?_; clear hK9 K9
      refine codeT.imp (σ' := [(0, _), (2, _), (3, _), (4, _)]) ?_ (imp_covers ⟨rfl, rfl, rfl, rfl, trivial⟩)
      refine code_region ?_
      refine list_cons rfl (op_q (q_move rfl (by decide)) ?_)
      refine list_cons rfl (op_q (by first | exact q_addI rfl rfl (by decide) (by omega) (by omega) | exact q_ib rfl rfl rfl (by decide)) ?_)
      refine list_cons rfl (op_q (q_assign rfl (by decide)) ?_)
      refine list_nil ?_
      refine then_n ⟨(_, _, _), imp_covers ⟨rfl, rfl, rfl, rfl, trivial⟩, ?_, ?_⟩
      · (try dsimp only)
        exact ⟨by omega, by omega, by rw [show (i + 1).toNat = i.toNat + 1 by omega]; exact min_step i3 (by omega) rfl⟩
      · (try dsimp only); omega
    (try simp only [Decidable.not_not] at h2)
    refine code_exit ?_
    refine then_x ?_; clear hK7 K7
    refine then_x ?_
    refine blk_hit ?_
    refine hK5 _ ?_; clear hK5 K5
    refine code_seq (fun K10 hK10 => ?_)
    refine code_region ?_
    refine list_cons rfl (op_q (q_move rfl (by decide)) ?_)
    refine list_cons rfl (op_q (q_assign rfl (by decide)) ?_)
    refine list_nil ?_
    refine hK10 _ ?_; clear hK10 K10
    refine code_ret ?_
    refine ends_ret (cs := []) rfl rfl rfl rfl trivial ?_
    exact ⟨m, by rw [show i.toNat = L.length by omega, List.take_length] at i3; exact i3, rfl⟩

set_option maxRecDepth 4000 in
theorem impl_farApartG (a b : Int) (ha : 0 ≤ a ∧ a ≤ 127) (hb : 0 ≤ b ∧ b ≤ 127) : PCalls Tryd.prog 107 [.int .i64 a, .int .i64 b] (· = [.val (.int .i64 ((farN a.toNat b.toNat : Nat) : Int))]) := by
  refine pcalls_of_code (n := 14) az Tryd.func107 (by kernel_rfl) rfl rfl (Nat.le_of_ble_eq_true rfl) (by intro t u h; simp [Tryd.f107] at h) ?_
  refine code_seq (fun K1 hK1 => ?_)
  refine code_region ?_
  refine list_cons rfl (op_q (q_assign rfl (by decide)) ?_)
  refine list_nil ?_
  refine hK1 _ ?_; clear hK1 K1
  refine code_seq (fun K2 hK2 => ?_)
  refine code_region ?_
  refine list_cons rfl (op_q (q_move rfl (by decide)) ?_)
  refine list_cons rfl (op_q (q_move rfl (by decide)) ?_)
  refine list_cons rfl (op_call _ (impl_FarCells _ _) rfl rfl (by decide) (by decide) (by decide) rfl ?_)
  rintro _ rfl
  refine list_cons rfl (op_q (q_move rfl (by decide)) ?_)
  refine list_cons rfl (op_q (q_extract rfl rfl (by decide)) ?_)
  refine list_cons rfl (op_q (q_extract rfl rfl (by decide)) ?_)
  refine list_cons rfl (op_q (q_assign rfl (by decide)) ?_)
  refine list_cons rfl (op_q (q_assign rfl (by decide)) ?_)
  refine list_nil ?_
  refine hK2 _ ?_; clear hK2 K2
  refine codeT.imp (σ' := [(0, _), (1, _), (4, _), (5, _)]) ?_ (imp_covers ⟨rfl, rfl, rfl, rfl, trivial⟩)
  refine code_seq (fun K3 hK3 => ?_)
  refine code_region ?_
  refine list_cons rfl (op_q (q_move rfl (by decide)) ?_)
  refine list_cons rfl (op_q (q_assign rfl (by decide)) ?_)
  refine list_nil ?_
  refine hK3 _ ?_; clear hK3 K3
  refine code_ret ?_
  refine ends_ret (cs := []) rfl rfl rfl rfl trivial ?_
  rw [if_pos ⟨ha, hb⟩]; rfl

theorem impl_LastCellsY (c : Int) (l : List Int) (p0 : -9223372036854775808 ≤ c) (p1 : c ≤ 9223372036854775807) (hl : l.length ≤ 4611686018427387904) (hW : WayP c l) : PCalls Tryd.prog 106 [.int .i64 c, .sl l.length (l.map (.int .i64))] (· = [.own 0 3 1 (laL (dcd l) c.toNat 128).length ((laL (dcd l) c.toNat 128).map (.int .i64)), .val (.bool true)]) := (impl_LastCells c l p0 p1 hl).mono fun rs h => by rw [h]; rw [if_pos hW, decide_eq_true hW]

theorem impl_LastCellsN (c : Int) (l : List Int) (p0 : -9223372036854775808 ≤ c) (p1 : c ≤ 9223372036854775807) (hl : l.length ≤ 4611686018427387904) (hW : ¬ WayP c l) : PCalls Tryd.prog 106 [.int .i64 c, .sl l.length (l.map (.int .i64))] (· = [.own 0 3 1 0 [], .val (.bool false)]) := (impl_LastCells c l p0 p1 hl).mono fun rs h => by rw [h]; rw [if_neg hW, decide_eq_false hW]; rfl

theorem fill_far (c : Nat) (l : List Int) {k : Nat} (h : k < l.length) : putAt (((l.take k).map (fun x : Int => (farN c x.toNat : Int)) ++ List.replicate (l.length - k) 0).map (PV.int .i64)) (k * 1) [PV.int .i64 ((farN c (l.getD k 0).toNat : Nat) : Int)] = (((l.take (k + 1)).map (fun x : Int => (farN c x.toNat : Int)) ++ List.replicate (l.length - (k + 1)) 0).map (PV.int .i64)) := by
  rw [put_map1 (PV.int .i64) _ (by simp; omega), map_take (fun x : Int => (farN c x.toNat : Int)) 0 l h, List.set_append_right _ _ (by simp; omega), show k - ((l.take k).map (fun x : Int => (farN c x.toNat : Int))).length = 0 by simp; omega, show l.length - k = l.length - (k + 1) + 1 by omega, List.replicate_succ, List.set_cons_zero]
  simp

set_option maxRecDepth 8000 in
set_option maxHeartbeats 2000000 in
theorem impl_playSizes (c : Int) (l : List Int) (p0 : -9223372036854775808 ≤ c) (p1 : c ≤ 9223372036854775807) (hl : l.length ≤ 4611686018427387904) : PCalls Tryd.prog 81 [.int .i64 c, .sl l.length (l.map (.int .i64))] (· = [.own 0 3 1 (szI l c).length ((szI l c).map (.int .i64)), .val (.bool (decide (WayP c l)))]) := by
  refine pcalls_of_code (n := 38) az Tryd.func81 (by kernel_rfl) rfl rfl (Nat.le_of_ble_eq_true rfl) (by intro t u h; simp [Tryd.f81] at h) ?_
  refine code_seq (fun K1 hK1 => ?_)
  refine code_region ?_
  refine list_cons rfl (op_q (q_assign rfl (by decide)) ?_)
  refine list_cons rfl (op_q (q_assign rfl (by decide)) ?_)
  refine list_nil ?_
  refine hK1 _ ?_; clear hK1 K1
  refine code_seq (fun K2 hK2 => ?_)
  refine code_region ?_
  refine list_cons rfl (op_q (q_move rfl (by decide)) ?_)
  refine list_cons rfl (op_q (q_move rfl (by decide)) ?_)
  by_cases h1 : WayP c l
  · skip
    refine list_cons rfl (op_call _ (impl_LastCellsY c l (by omega) (by omega) (by omega) h1) rfl rfl (by decide) (by decide) (by decide) rfl ?_)
    rintro _ rfl
    refine list_cons rfl (op_q (q_move rfl (by decide)) ?_)
    refine list_cons rfl (op_q (q_extract rfl rfl (by decide)) ?_)
    refine list_cons rfl (op_q (q_extract rfl rfl (by decide)) ?_)
    refine list_cons rfl (op_q (q_assign rfl (by decide)) ?_)
    refine list_cons rfl (op_q (q_assign rfl (by decide)) ?_)
    refine list_nil ?_
    refine hK2 _ ?_; clear hK2 K2
    refine codeT.imp (σ' := [(0, .val (.int _ _)), (1, .par 1 _), (4, .val _), (5, .val (.bool _)), (6, .own 14 3 1 _ _), (7, .val (.bool _))]) ?_ (imp_covers ⟨rfl, rfl, rfl, rfl, rfl, rfl, trivial⟩)
    refine code_seq (fun K3 hK3 => ?_)
    refine code_seq (fun K4 hK4 => ?_)
    refine code_region ?_
    refine list_cons rfl (op_q (q_move rfl (by decide)) ?_)
    refine list_cons rfl (op_q (by first | exact q_notd rfl (by decide) | exact q_not rfl (by decide)) ?_)
    refine list_nil ?_
    refine hK4 _ ?_; clear hK4 K4
    refine code_cond_f rfl ?_
    refine code_skip ?_
    refine hK3 _ ?_; clear hK3 K3
    refine code_seq (fun K5 hK5 => ?_)
    refine code_region ?_
    refine list_cons rfl (op_q (q_move rfl (by decide)) ?_)
    refine list_cons rfl (op_q (q_len_sl Tryd.underlying24 rfl rfl (by decide)) ?_)
    refine list_cons rfl (op_make sl_24 rfl rfl (by have := laL_len (dcd l) c.toNat 128; omega) (by decide) (by decide) rfl ?_)
    refine list_cons rfl (op_q (q_assign rfl (by decide)) ?_)
    refine list_nil ?_
    refine hK5 _ ?_; clear hK5 K5
    refine code_seq (fun K6 hK6 => ?_)
    refine code_seq (fun K7 hK7 => ?_)
    refine code_region ?_
    refine list_cons rfl (op_q (q_move rfl (by decide)) ?_)
    refine list_cons rfl (op_q (q_len_sl Tryd.underlying24 rfl rfl (by decide)) ?_)
    refine list_cons rfl (op_q (q_move rfl (by decide)) ?_)
    refine list_nil ?_
    refine hK7 _ ?_; clear hK7 K7
    refine code_block ?_
    refine code_loop (X := PV × Bool × Bool × Nat × List PV × Int × Int) (fun x => [(0, .val (.int .i64 c)), (1, .par 1 (.sl l.length (l.map (.int .i64)))), (4, .val x.1), (5, .val (.bool x.2.1)), (6, .own 14 3 1 (laL (dcd l) c.toNat 128).length ((laL (dcd l) c.toNat 128).map (.int .i64))), (7, .val (.bool x.2.2.1)), (8, .own 22 3 1 x.2.2.2.1 x.2.2.2.2.1), (23, .own 14 3 1 (laL (dcd l) c.toNat 128).length ((laL (dcd l) c.toNat 128).map (.int .i64))), (24, .val (.int .i64 x.2.2.2.2.2.1)), (25, .val (.int .i64 x.2.2.2.2.2.2))]) (fun x => WayP c l ∧ 0 ≤ x.2.2.2.2.2.2 ∧ x.2.2.2.2.2.2 ≤ (laL (dcd l) c.toNat 128).length ∧ x.2.2.2.2.2.1 = ((laL (dcd l) c.toNat 128).length : Int) ∧ x.2.2.2.1 = (laL (dcd l) c.toNat 128).length ∧ x.2.2.2.2.1 = (((laL (dcd l) c.toNat 128).take x.2.2.2.2.2.2.toNat).map (fun x : Int => (farN c.toNat x.toNat : Int)) ++ List.replicate ((laL (dcd l) c.toNat 128).length - x.2.2.2.2.2.2.toNat) 0).map (.int .i64)) (fun x => ((laL (dcd l) c.toNat 128).length - x.2.2.2.2.2.2).toNat) (_, _, _, _, _, _, _) (imp_covers ⟨rfl, rfl, rfl, rfl, rfl, rfl, rfl, rfl, rfl, rfl, trivial⟩) ?_ ?_
    · (try dsimp only)
      exact ⟨by assumption, by omega, by omega, rfl, rfl, zeros_map1 (PV.int .i64) 0 _⟩
    · intro x hI
      obtain ⟨t4_p, t5, ok, sizes_n, sizes_c, t24, t25⟩ := x
      replace hI : WayP c l ∧ 0 ≤ t25 ∧ t25 ≤ (laL (dcd l) c.toNat 128).length ∧ t24 = ((laL (dcd l) c.toNat 128).length : Int) ∧ sizes_n = (laL (dcd l) c.toNat 128).length ∧ sizes_c = (((laL (dcd l) c.toNat 128).take t25.toNat).map (fun x : Int => (farN c.toNat x.toNat : Int)) ++ List.replicate ((laL (dcd l) c.toNat 128).length - t25.toNat) 0).map (.int .i64) := hI
      show codeT _ _ _ [(0, .val (.int .i64 c)), (1, .par 1 (.sl l.length (l.map (.int .i64)))), (4, .val t4_p), (5, .val (.bool t5)), (6, .own 14 3 1 (laL (dcd l) c.toNat 128).length ((laL (dcd l) c.toNat 128).map (.int .i64))), (7, .val (.bool ok)), (8, .own 22 3 1 sizes_n sizes_c), (23, .own 14 3 1 (laL (dcd l) c.toNat 128).length ((laL (dcd l) c.toNat 128).map (.int .i64))), (24, .val (.int .i64 t24)), (25, .val (.int .i64 t25))] _
      obtain ⟨hW, i1, i2, rfl, rfl, rfl⟩ := hI
      have hc := hW.2.1
      have hla := fun h => la_cell (dcd_cells l) c.toNat (j := t25.toNat) h
      have hll := laL_len (dcd l) c.toNat 128
      refine code_seq (fun K8 hK8 => ?_)
      refine code_region ?_
      refine list_cons rfl (op_q (q_lt rfl rfl (by decide)) ?_)
      refine list_nil ?_
      refine hK8 _ ?_; clear hK8 K8
      refine code_seq (fun K9 hK9 => ?_)
      refine code_cond_d rfl (fun h2 => ?_) (fun h2 => ?_)
      · skip
        (try simp only [Decidable.not_not] at h2); (try have hW : WayP c l := h2)
        refine code_skip ?_
        refine hK9 _ ?_; clear hK9 K9
        refine code_seq (fun K10 hK10 => ?_)
        refine code_block ?_
        refine code_seq (fun K11 hK11 => ?_)
        refine code_region ?_
        refine list_cons rfl (op_q (q_move rfl (by decide)) ?_)
        refine list_cons rfl (op_q (q_indexAddr_own sl_24 rfl rfl (by omega) (by omega) (by decide)) ?_)
        refine list_cons rfl (op_q (q_load one_3 6 rfl rfl rfl (by first | rfl | exact get_map1 _ 0 _ (by first | omega | (simp; omega))) (by decide)) ?_)
        refine list_cons rfl (op_q (q_assign rfl (by decide)) ?_)
        refine list_cons rfl (op_q (q_assign rfl (by decide)) ?_)
        refine list_nil ?_
        refine hK11 _ ?_; clear hK11 K11
        refine code_region ?_
        refine list_cons rfl (op_q (q_move rfl (by decide)) ?_)
        refine list_cons rfl (op_q (q_move rfl (by decide)) ?_)
        refine list_cons rfl (op_q (q_move rfl (by decide)) ?_)
        refine list_cons rfl (op_q (q_move rfl (by decide)) ?_)
        refine list_cons rfl (op_call _ (impl_farApartG c _ hc (hla (by omega))) rfl rfl (by decide) (by decide) (by decide) rfl ?_)
        rintro _ rfl
        refine list_cons rfl (op_q (q_indexAddr_own sl_24 rfl rfl (by omega) (by omega) (by decide)) ?_)
        refine list_cons rfl (op_store (one_3).2 8 [8, 30] (by intro t ht; simp only [List.mem_cons, List.not_mem_nil, or_false] at ht; rcases ht with rfl | rfl <;> rfl) (.inl rfl) rfl rfl rfl rfl rfl rfl (by first | decide | omega | exact Nat.le_refl _ | (simp; done) | (simp; omega)) (by decide) rfl ?_)
        refine list_nil ?_
        refine blk_n ?_
        refine hK10 _ ?_; clear hK10 K10
        refine codeT.imp (σ' := [(0, .val (.int _ _)), (1, .par 1 _), (4, .val _), (5, .val (.bool _)), (6, .own 14 3 1 _ _), (7, .val (.bool _)), (8, .own 22 3 1 _ _), (9, .val (.int .i64 _)), (10, .val (.int .i64 _)), (23, .own 14 3 1 _ _), (24, .val (.int .i64 _)), (25, .val (.int .i64 _))]) ?_ (imp_covers ⟨rfl, rfl, rfl, rfl, rfl, rfl, rfl, rfl, rfl, rfl, rfl, rfl, trivial⟩)
        refine code_region ?_
        refine list_cons rfl (op_q (by first | exact q_addI rfl rfl (by decide) (by omega) (by omega) | exact q_ib rfl rfl rfl (by decide)) ?_)
        refine list_cons rfl (op_q (q_move rfl (by decide)) ?_)
        refine list_nil ?_
        refine then_n ⟨(_, _, _, _, _, _, _), imp_covers ⟨rfl, rfl, rfl, rfl, rfl, rfl, rfl, rfl, rfl, rfl, trivial⟩, ?_, ?_⟩
        · (try dsimp only)
          exact ⟨hW, by omega, by omega, rfl, rfl, by rw [show (t25 + 1).toNat = t25.toNat + 1 by omega]; exact fill_far c.toNat (laL (dcd l) c.toNat 128) (by omega)⟩
        · (try dsimp only); omega
      (try simp only [Decidable.not_not] at h2); (try have hW : WayP c l := h2)
      refine code_exit ?_
      refine then_x ?_; clear hK9 K9
      refine then_x ?_
      refine blk_hit ?_
      refine hK6 _ ?_; clear hK6 K6
      refine code_seq (fun K12 hK12 => ?_)
      refine code_region ?_
      refine list_cons rfl (op_q (q_move rfl (by decide)) ?_)
      refine list_cons rfl (op_q (q_assign rfl (by decide)) ?_)
      refine list_cons rfl (op_q (q_assign rfl (by decide)) ?_)
      refine list_nil ?_
      refine hK12 _ ?_; clear hK12 K12
      refine code_ret ?_
      refine ends_ret (cs := []) rfl rfl rfl rfl trivial ?_
      first
        | (have e : ¬ WayP c l := by assumption
           unfold szI
           simp only [if_neg e, decide_eq_false e]; rfl)
        | (have e : szI l c = (laL (dcd l) c.toNat 128).map (fun x : Int => (farN c.toNat x.toNat : Int)) := by unfold szI szL; rw [if_pos hW]
           rw [e, show t25.toNat = (laL (dcd l) c.toNat 128).length by omega, List.take_length, Nat.sub_self, List.replicate_zero, List.append_nil, List.length_map, decide_eq_true hW]; done)
  · skip
    refine list_cons rfl (op_call _ (impl_LastCellsN c l (by omega) (by omega) (by omega) h1) rfl rfl (by decide) (by decide) (by decide) rfl ?_)
    rintro _ rfl
    refine list_cons rfl (op_q (q_move rfl (by decide)) ?_)
    refine list_cons rfl (op_q (q_extract rfl rfl (by decide)) ?_)
    refine list_cons rfl (op_q (q_extract rfl rfl (by decide)) ?_)
    refine list_cons rfl (op_q (q_assign rfl (by decide)) ?_)
    refine list_cons rfl (op_q (q_assign rfl (by decide)) ?_)
    refine list_nil ?_
    refine hK2 _ ?_; clear hK2 K2
    refine codeT.imp (σ' := [(0, .val (.int _ _)), (1, .par 1 _), (4, .val _), (5, .val (.bool _)), (6, .own 14 3 1 _ _), (7, .val (.bool _))]) ?_ (imp_covers ⟨rfl, rfl, rfl, rfl, rfl, rfl, trivial⟩)
    refine code_seq (fun K13 hK13 => ?_)
    refine code_seq (fun K14 hK14 => ?_)
    refine code_region ?_
    refine list_cons rfl (op_q (q_move rfl (by decide)) ?_)
    refine list_cons rfl (op_q (by first | exact q_notd rfl (by decide) | exact q_not rfl (by decide)) ?_)
    refine list_nil ?_
    refine hK14 _ ?_; clear hK14 K14
    refine code_cond_t rfl ?_
    refine code_seq (fun K15 hK15 => ?_)
    refine code_region ?_
    refine list_cons rfl (op_buildSlice sl_24 (parts := []) rfl rfl rfl (by decide) (by decide) (by decide) rfl ?_)
    refine list_cons rfl (op_q (q_assign rfl (by decide)) ?_)
    refine list_cons rfl (op_q (q_assign rfl (by decide)) ?_)
    refine list_nil ?_
    refine hK15 _ ?_; clear hK15 K15
    refine code_ret ?_
    refine then_r ?_; clear hK13 K13
    refine ends_ret (cs := []) rfl rfl rfl rfl trivial ?_
    first
      | (have e : ¬ WayP c l := by assumption
         unfold szI
         simp only [if_neg e, decide_eq_false e]; rfl)
      | (have e : szI l c = (laL (dcd l) c.toNat 128).map (fun x : Int => (farN c.toNat x.toNat : Int)) := by unfold szI szL; rw [if_pos hW]
         rw [e, show t25.toNat = (laL (dcd l) c.toNat 128).length by omega, List.take_length, Nat.sub_self, List.replicate_zero, List.append_nil, List.length_map, decide_eq_true hW]; done)

theorem impl_playSizesY (c : Int) (l : List Int) (p0 : -9223372036854775808 ≤ c) (p1 : c ≤ 9223372036854775807) (hl : l.length ≤ 4611686018427387904) (hW : WayP c l) : PCalls Tryd.prog 81 [.int .i64 c, .sl l.length (l.map (.int .i64))] (· = [.own 0 3 1 (szI l c).length ((szI l c).map (.int .i64)), .val (.bool true)]) := (impl_playSizes c l p0 p1 hl).mono fun rs h => by rw [h]; rw [decide_eq_true hW]

theorem impl_playSizesN (c : Int) (l : List Int) (p0 : -9223372036854775808 ≤ c) (p1 : c ≤ 9223372036854775807) (hl : l.length ≤ 4611686018427387904) (hW : ¬ WayP c l) : PCalls Tryd.prog 81 [.int .i64 c, .sl l.length (l.map (.int .i64))] (· = [.own 0 3 1 (szI l c).length ((szI l c).map (.int .i64)), .val (.bool false)]) := (impl_playSizes c l p0 p1 hl).mono fun rs h => by rw [h]; rw [decide_eq_false hW]

set_option maxRecDepth 8000 in
set_option maxHeartbeats 2000000 in
theorem impl_LongestPlay (c : Int) (l : List Int) (p0 : -9223372036854775808 ≤ c) (p1 : c ≤ 9223372036854775807) (hl : l.length ≤ 4611686018427387904) : PCalls Tryd.prog 44 [.int .i64 c, .sl l.length (l.map (.int .i64))] (· = [.val (.int .i64 (if WayP c l then val fL (dcd l) c.toNat else 0)), .val (.bool (decide (WayP c l)))]) := by
  refine pcalls_of_code (n := 18) az Tryd.func44 (by kernel_rfl) rfl rfl (Nat.le_of_ble_eq_true rfl) (by intro t u h; simp [Tryd.f44] at h) ?_
  refine code_seq (fun K1 hK1 => ?_)
  refine code_region ?_
  refine list_cons rfl (op_q (q_assign rfl (by decide)) ?_)
  refine list_cons rfl (op_q (q_assign rfl (by decide)) ?_)
  refine list_nil ?_
  refine hK1 _ ?_; clear hK1 K1
  refine code_seq (fun K2 hK2 => ?_)
  refine code_region ?_
  refine list_cons rfl (op_q (q_move rfl (by decide)) ?_)
  refine list_cons rfl (op_q (q_move rfl (by decide)) ?_)
  by_cases h1 : WayP c l
  · skip
    refine list_cons rfl (op_call _ (impl_playSizesY c l (by omega) (by omega) (by omega) h1) rfl rfl (by decide) (by decide) (by decide) rfl ?_)
    rintro _ rfl
    refine list_cons rfl (op_q (q_move rfl (by decide)) ?_)
    refine list_cons rfl (op_q (q_extract rfl rfl (by decide)) ?_)
    refine list_cons rfl (op_q (q_extract rfl rfl (by decide)) ?_)
    refine list_cons rfl (op_q (q_assign rfl (by decide)) ?_)
    refine list_cons rfl (op_q (q_assign rfl (by decide)) ?_)
    refine list_nil ?_
    refine hK2 _ ?_; clear hK2 K2
    refine codeT.imp (σ' := [(0, _), (1, _), (4, _), (5, _), (6, _), (7, _)]) ?_ (imp_covers ⟨rfl, rfl, rfl, rfl, rfl, rfl, trivial⟩)
    refine code_seq (fun K3 hK3 => ?_)
    refine code_seq (fun K4 hK4 => ?_)
    refine code_region ?_
    refine list_cons rfl (op_q (q_move rfl (by decide)) ?_)
    refine list_cons rfl (op_q (by first | exact q_notd rfl (by decide) | exact q_not rfl (by decide)) ?_)
    refine list_nil ?_
    refine hK4 _ ?_; clear hK4 K4
    refine code_cond_f rfl ?_
    refine code_skip ?_
    refine hK3 _ ?_; clear hK3 K3
    refine code_seq (fun K5 hK5 => ?_)
    refine code_region ?_
    refine list_cons rfl (op_q (q_move rfl (by decide)) ?_)
    refine list_cons rfl (op_call _ (maxL_c (szI l c) (szI_pos (by assumption)) (by have := szI_len l c; omega)) rfl rfl (by decide) (by decide) (by decide) rfl ?_)
    rintro _ ⟨v, hv, rfl⟩
    refine list_cons rfl (op_q (q_assign rfl (by decide)) ?_)
    refine list_cons rfl (op_q (q_assign rfl (by decide)) ?_)
    refine list_nil ?_
    refine hK5 _ ?_; clear hK5 K5
    refine codeT.imp (σ' := [(0, _), (1, _), (4, _), (5, _), (6, _), (7, _)]) ?_ (imp_covers ⟨rfl, rfl, rfl, rfl, rfl, rfl, trivial⟩)
    refine code_ret ?_
    refine ends_ret (cs := []) rfl rfl rfl rfl trivial ?_
    first
      | (have e : ¬ WayP c l := by assumption
         rw [if_neg e, decide_eq_false e]; done)
      | (have e : WayP c l := by assumption
         rw [if_pos e, decide_eq_true e, long_val e hv]; done)
  · skip
    refine list_cons rfl (op_call _ (impl_playSizesN c l (by omega) (by omega) (by omega) h1) rfl rfl (by decide) (by decide) (by decide) rfl ?_)
    rintro _ rfl
    refine list_cons rfl (op_q (q_move rfl (by decide)) ?_)
    refine list_cons rfl (op_q (q_extract rfl rfl (by decide)) ?_)
    refine list_cons rfl (op_q (q_extract rfl rfl (by decide)) ?_)
    refine list_cons rfl (op_q (q_assign rfl (by decide)) ?_)
    refine list_cons rfl (op_q (q_assign rfl (by decide)) ?_)
    refine list_nil ?_
    refine hK2 _ ?_; clear hK2 K2
    refine codeT.imp (σ' := [(0, _), (1, _), (4, _), (5, _), (6, _), (7, _)]) ?_ (imp_covers ⟨rfl, rfl, rfl, rfl, rfl, rfl, trivial⟩)
    refine code_seq (fun K6 hK6 => ?_)
    refine code_seq (fun K7 hK7 => ?_)
    refine code_region ?_
    refine list_cons rfl (op_q (q_move rfl (by decide)) ?_)
    refine list_cons rfl (op_q (by first | exact q_notd rfl (by decide) | exact q_not rfl (by decide)) ?_)
    refine list_nil ?_
    refine hK7 _ ?_; clear hK7 K7
    refine code_cond_t rfl ?_
    refine code_seq (fun K8 hK8 => ?_)
    refine code_region ?_
    refine list_cons rfl (op_q (q_assign rfl (by decide)) ?_)
    refine list_cons rfl (op_q (q_assign rfl (by decide)) ?_)
    refine list_nil ?_
    refine hK8 _ ?_; clear hK8 K8
    refine code_ret ?_
    refine then_r ?_; clear hK6 K6
    refine ends_ret (cs := []) rfl rfl rfl rfl trivial ?_
    first
      | (have e : ¬ WayP c l := by assumption
         rw [if_neg e, decide_eq_false e]; done)
      | (have e : WayP c l := by assumption
         rw [if_pos e, decide_eq_true e, long_val e hv]; done)

set_option maxRecDepth 8000 in
set_option maxHeartbeats 2000000 in
theorem impl_ShortestPlay (c : Int) (l : List Int) (p0 : -9223372036854775808 ≤ c) (p1 : c ≤ 9223372036854775807) (hl : l.length ≤ 4611686018427387904) : PCalls Tryd.prog 46 [.int .i64 c, .sl l.length (l.map (.int .i64))] (· = [.val (.int .i64 (if WayP c l then val fS (dcd l) c.toNat else 0)), .val (.bool (decide (WayP c l)))]) := by
  refine pcalls_of_code (n := 18) az Tryd.func46 (by kernel_rfl) rfl rfl (Nat.le_of_ble_eq_true rfl) (by intro t u h; simp [Tryd.f46] at h) ?_
  refine code_seq (fun K1 hK1 => ?_)
  refine code_region ?_
  refine list_cons rfl (op_q (q_assign rfl (by decide)) ?_)
  refine list_cons rfl (op_q (q_assign rfl (by decide)) ?_)
  refine list_nil ?_
  refine hK1 _ ?_; clear hK1 K1
  refine code_seq (fun K2 hK2 => ?_)
  refine code_region ?_
  refine list_cons rfl (op_q (q_move rfl (by decide)) ?_)
  refine list_cons rfl (op_q (q_move rfl (by decide)) ?_)
  by_cases h1 : WayP c l
  · skip
    refine list_cons rfl (op_call _ (impl_playSizesY c l (by omega) (by omega) (by omega) h1) rfl rfl (by decide) (by decide) (by decide) rfl ?_)
    rintro _ rfl
    refine list_cons rfl (op_q (q_move rfl (by decide)) ?_)
    refine list_cons rfl (op_q (q_extract rfl rfl (by decide)) ?_)
    refine list_cons rfl (op_q (q_extract rfl rfl (by decide)) ?_)
    refine list_cons rfl (op_q (q_assign rfl (by decide)) ?_)
    refine list_cons rfl (op_q (q_assign rfl (by decide)) ?_)
    refine list_nil ?_
    refine hK2 _ ?_; clear hK2 K2
    refine codeT.imp (σ' := [(0, _), (1, _), (4, _), (5, _), (6, _), (7, _)]) ?_ (imp_covers ⟨rfl, rfl, rfl, rfl, rfl, rfl, trivial⟩)
    refine code_seq (fun K3 hK3 => ?_)
    refine code_seq (fun K4 hK4 => ?_)
    refine code_region ?_
    refine list_cons rfl (op_q (q_move rfl (by decide)) ?_)
    refine list_cons rfl (op_q (by first | exact q_notd rfl (by decide) | exact q_not rfl (by decide)) ?_)
    refine list_nil ?_
    refine hK4 _ ?_; clear hK4 K4
    refine code_cond_f rfl ?_
    refine code_skip ?_
    refine hK3 _ ?_; clear hK3 K3
    refine code_seq (fun K5 hK5 => ?_)
    refine code_region ?_
    refine list_cons rfl (op_q (q_move rfl (by decide)) ?_)
    refine list_cons rfl (op_call _ (minL_c (szI l c) (szI_pos (by assumption)) (by have := szI_len l c; omega)) rfl rfl (by decide) (by decide) (by decide) rfl ?_)
    rintro _ ⟨v, hv, rfl⟩
    refine list_cons rfl (op_q (q_assign rfl (by decide)) ?_)
    refine list_cons rfl (op_q (q_assign rfl (by decide)) ?_)
    refine list_nil ?_
    refine hK5 _ ?_; clear hK5 K5
    refine codeT.imp (σ' := [(0, _), (1, _), (4, _), (5, _), (6, _), (7, _)]) ?_ (imp_covers ⟨rfl, rfl, rfl, rfl, rfl, rfl, trivial⟩)
    refine code_ret ?_
    refine ends_ret (cs := []) rfl rfl rfl rfl trivial ?_
    first
      | (have e : ¬ WayP c l := by assumption
         rw [if_neg e, decide_eq_false e]; done)
      | (have e : WayP c l := by assumption
         rw [if_pos e, decide_eq_true e, short_val e hv]; done)
  · skip
    refine list_cons rfl (op_call _ (impl_playSizesN c l (by omega) (by omega) (by omega) h1) rfl rfl (by decide) (by decide) (by decide) rfl ?_)
    rintro _ rfl
    refine list_cons rfl (op_q (q_move rfl (by decide)) ?_)
    refine list_cons rfl (op_q (q_extract rfl rfl (by decide)) ?_)
    refine list_cons rfl (op_q (q_extract rfl rfl (by decide)) ?_)
    refine list_cons rfl (op_q (q_assign rfl (by decide)) ?_)
    refine list_cons rfl (op_q (q_assign rfl (by decide)) ?_)
    refine list_nil ?_
    refine hK2 _ ?_; clear hK2 K2
    refine codeT.imp (σ' := [(0, _), (1, _), (4, _), (5, _), (6, _), (7, _)]) ?_ (imp_covers ⟨rfl, rfl, rfl, rfl, rfl, rfl, trivial⟩)
    refine code_seq (fun K6 hK6 => ?_)
    refine code_seq (fun K7 hK7 => ?_)
    refine code_region ?_
    refine list_cons rfl (op_q (q_move rfl (by decide)) ?_)
    refine list_cons rfl (op_q (by first | exact q_notd rfl (by decide) | exact q_not rfl (by decide)) ?_)
    refine list_nil ?_
    refine hK7 _ ?_; clear hK7 K7
    refine code_cond_t rfl ?_
    refine code_seq (fun K8 hK8 => ?_)
    refine code_region ?_
    refine list_cons rfl (op_q (q_assign rfl (by decide)) ?_)
    refine list_cons rfl (op_q (q_assign rfl (by decide)) ?_)
    refine list_nil ?_
    refine hK8 _ ?_; clear hK8 K8
    refine code_ret ?_
    refine then_r ?_; clear hK6 K6
    refine ends_ret (cs := []) rfl rfl rfl rfl trivial ?_
    first
      | (have e : ¬ WayP c l := by assumption
         rw [if_neg e, decide_eq_false e]; done)
      | (have e : WayP c l := by assumption
         rw [if_pos e, decide_eq_true e, short_val e hv]; done)

set_option maxRecDepth 8000 in
set_option maxHeartbeats 2000000 in
theorem impl_CountPlays (c : Int) (l : List Int) (p0 : -9223372036854775808 ≤ c) (p1 : c ≤ 9223372036854775807) (hl : l.length ≤ 4611686018427387904) : PCalls Tryd.prog 48 [.int .i64 c, .sl l.length (l.map (.int .i64))] (· = [.val (.int .i64 (if WayP c l then val fP (dcd l) c.toNat else 0)), .val (.bool (decide (WayP c l)))]) := by
  refine pcalls_of_code (n := 40) az Tryd.func48 (by kernel_rfl) rfl rfl (Nat.le_of_ble_eq_true rfl) (by intro t u h; simp [Tryd.f48] at h) ?_
  refine code_seq (fun K1 hK1 => ?_)
  refine code_region ?_
  refine list_cons rfl (op_q (q_assign rfl (by decide)) ?_)
  refine list_cons rfl (op_q (q_assign rfl (by decide)) ?_)
  refine list_nil ?_
  refine hK1 _ ?_; clear hK1 K1
  refine code_seq (fun K2 hK2 => ?_)
  refine code_region ?_
  refine list_cons rfl (op_q (q_move rfl (by decide)) ?_)
  refine list_cons rfl (op_q (q_move rfl (by decide)) ?_)
  by_cases h1 : WayP c l
  · skip
    refine list_cons rfl (op_call _ (impl_playSizesY c l (by omega) (by omega) (by omega) h1) rfl rfl (by decide) (by decide) (by decide) rfl ?_)
    rintro _ rfl
    refine list_cons rfl (op_q (q_move rfl (by decide)) ?_)
    refine list_cons rfl (op_q (q_extract rfl rfl (by decide)) ?_)
    refine list_cons rfl (op_q (q_extract rfl rfl (by decide)) ?_)
    refine list_cons rfl (op_q (q_assign rfl (by decide)) ?_)
    refine list_cons rfl (op_q (q_assign rfl (by decide)) ?_)
    refine list_nil ?_
    refine hK2 _ ?_; clear hK2 K2
    refine codeT.imp (σ' := [(0, .val (.int _ _)), (1, .par 1 _), (4, .val (.int .i64 _)), (5, .val (.bool _)), (6, .own 16 3 1 _ _), (7, .val (.bool _))]) ?_ (imp_covers ⟨rfl, rfl, rfl, rfl, rfl, rfl, trivial⟩)
    refine code_seq (fun K3 hK3 => ?_)
    refine code_seq (fun K4 hK4 => ?_)
    refine code_region ?_
    refine list_cons rfl (op_q (q_move rfl (by decide)) ?_)
    refine list_cons rfl (op_q (by first | exact q_notd rfl (by decide) | exact q_not rfl (by decide)) ?_)
    refine list_nil ?_
    refine hK4 _ ?_; clear hK4 K4
    refine code_cond_f rfl ?_
    refine code_skip ?_
    refine hK3 _ ?_; clear hK3 K3
    refine code_seq (fun K5 hK5 => ?_)
    refine code_region ?_
    refine list_cons rfl (op_q (q_assign rfl (by decide)) ?_)
    refine list_nil ?_
    refine hK5 _ ?_; clear hK5 K5
    refine code_seq (fun K6 hK6 => ?_)
    refine code_seq (fun K7 hK7 => ?_)
    refine code_region ?_
    refine list_cons rfl (op_q (q_move rfl (by decide)) ?_)
    refine list_cons rfl (op_q (q_len_sl Tryd.underlying24 rfl rfl (by decide)) ?_)
    refine list_cons rfl (op_q (q_move rfl (by decide)) ?_)
    refine list_nil ?_
    refine hK7 _ ?_; clear hK7 K7
    refine code_block ?_
    refine code_loop (X := Int × Bool × Bool × Int × Int × Int) (fun x => [(0, .val (.int .i64 c)), (1, .par 1 (.sl l.length (l.map (.int .i64)))), (4, .val (.int .i64 x.1)), (5, .val (.bool x.2.1)), (6, .own 16 3 1 (szI l c).length ((szI l c).map (.int .i64))), (7, .val (.bool x.2.2.1)), (8, .val (.int .i64 x.2.2.2.1)), (21, .own 16 3 1 (szI l c).length ((szI l c).map (.int .i64))), (22, .val (.int .i64 x.2.2.2.2.1)), (23, .val (.int .i64 x.2.2.2.2.2))]) (fun x => WayP c l ∧ 0 ≤ x.2.2.2.2.2 ∧ x.2.2.2.2.2 ≤ (szI l c).length ∧ x.2.2.2.2.1 = ((szI l c).length : Int) ∧ x.2.2.2.1 = facS (szI l c) x.2.2.2.2.2.toNat) (fun x => ((szI l c).length - x.2.2.2.2.2).toNat) (_, _, _, _, _, _) (imp_covers ⟨rfl, rfl, rfl, rfl, rfl, rfl, rfl, rfl, rfl, rfl, trivial⟩) ?_ ?_
    · (try dsimp only)
      exact ⟨by assumption, by omega, by omega, rfl, rfl⟩
    · intro x hI
      obtain ⟨t4, t5, ok, count, t22, t23⟩ := x
      replace hI : WayP c l ∧ 0 ≤ t23 ∧ t23 ≤ (szI l c).length ∧ t22 = ((szI l c).length : Int) ∧ count = facS (szI l c) t23.toNat := hI
      show codeT _ _ _ [(0, .val (.int .i64 c)), (1, .par 1 (.sl l.length (l.map (.int .i64)))), (4, .val (.int .i64 t4)), (5, .val (.bool t5)), (6, .own 16 3 1 (szI l c).length ((szI l c).map (.int .i64))), (7, .val (.bool ok)), (8, .val (.int .i64 count)), (21, .own 16 3 1 (szI l c).length ((szI l c).map (.int .i64))), (22, .val (.int .i64 t22)), (23, .val (.int .i64 t23))] _
      obtain ⟨hW, i1, i2, rfl, rfl⟩ := hI
      have hzl := szI_len l c
      have hfs := facS_le (szI_bd l c) t23.toNat
      have htl : ((szI l c).take t23.toNat).length ≤ 128 := by rw [List.length_take]; omega
      have hza := fun h => szI_at l c (j := t23.toNat) h
      refine code_seq (fun K8 hK8 => ?_)
      refine code_region ?_
      refine list_cons rfl (op_q (q_lt rfl rfl (by decide)) ?_)
      refine list_nil ?_
      refine hK8 _ ?_; clear hK8 K8
      refine code_seq (fun K9 hK9 => ?_)
      refine code_cond_d rfl (fun h2 => ?_) (fun h2 => ?_)
      · skip
        (try simp only [Decidable.not_not] at h2)
        refine code_skip ?_
        refine hK9 _ ?_; clear hK9 K9
        refine code_seq (fun K10 hK10 => ?_)
        refine code_block ?_
        refine code_seq (fun K11 hK11 => ?_)
        refine code_region ?_
        refine list_cons rfl (op_q (q_indexAddr_own sl_24 rfl rfl (by omega) (by omega) (by decide)) ?_)
        refine list_cons rfl (op_q (q_load one_3 6 rfl rfl rfl (by first | rfl | exact get_map1 _ 0 _ (by first | omega | (simp; omega))) (by decide)) ?_)
        refine list_cons rfl (op_q (q_assign rfl (by decide)) ?_)
        refine list_nil ?_
        refine hK11 _ ?_; clear hK11 K11
        refine code_seq (fun K12 hK12 => ?_)
        refine code_region ?_
        refine list_cons rfl (op_q (q_assign rfl (by decide)) ?_)
        refine list_nil ?_
        refine hK12 _ ?_; clear hK12 K12
        refine code_seq (fun K13 hK13 => ?_)
        refine code_seq (fun K14 hK14 => ?_)
        refine code_region ?_
        refine list_cons rfl (op_q (q_move rfl (by decide)) ?_)
        refine list_cons rfl (op_q (q_assign rfl (by decide)) ?_)
        refine list_nil ?_
        refine hK14 _ ?_; clear hK14 K14
        refine code_block ?_
        refine code_loop (X := Int × Bool × Bool × Int × Int) (fun x => [(0, .val (.int .i64 c)), (1, .par 1 (.sl l.length (l.map (.int .i64)))), (4, .val (.int .i64 x.1)), (5, .val (.bool x.2.1)), (6, .own 16 3 1 (szI l c).length ((szI l c).map (.int .i64))), (7, .val (.bool x.2.2.1)), (8, .val (.int .i64 (facS (szI l c) t23.toNat))), (11, .val (.int .i64 x.2.2.2.1)), (12, .val (.int .i64 x.2.2.2.2)), (21, .own 16 3 1 (szI l c).length ((szI l c).map (.int .i64))), (22, .val (.int .i64 ((szI l c).length))), (23, .val (.int .i64 (t23)))]) (fun x => 0 ≤ x.2.2.2.2 ∧ x.2.2.2.2 ≤ 7 ∧ x.2.2.2.1 * facI x.2.2.2.2.toNat = facI ((szI l c).getD t23.toNat 0).toNat ∧ 1 ≤ x.2.2.2.1) (fun x => x.2.2.2.2.toNat) (_, _, _, _, _) (imp_covers ⟨rfl, rfl, rfl, rfl, rfl, rfl, rfl, rfl, rfl, rfl, rfl, rfl, trivial⟩) ?_ ?_
        · (try dsimp only)
          exact ⟨(hza (by omega)).1, (hza (by omega)).2, Int.one_mul _, by omega⟩
        · intro x hI
          obtain ⟨t4, t5, ok, sequences, left⟩ := x
          replace hI : 0 ≤ left ∧ left ≤ 7 ∧ sequences * facI left.toNat = facI ((szI l c).getD t23.toNat 0).toNat ∧ 1 ≤ sequences := hI
          show codeT _ _ _ [(0, .val (.int .i64 c)), (1, .par 1 (.sl l.length (l.map (.int .i64)))), (4, .val (.int .i64 t4)), (5, .val (.bool t5)), (6, .own 16 3 1 (szI l c).length ((szI l c).map (.int .i64))), (7, .val (.bool ok)), (8, .val (.int .i64 (facS (szI l c) t23.toNat))), (11, .val (.int .i64 sequences)), (12, .val (.int .i64 left)), (21, .own 16 3 1 (szI l c).length ((szI l c).map (.int .i64))), (22, .val (.int .i64 ((szI l c).length))), (23, .val (.int .i64 (t23)))] _
          obtain ⟨j1, j2, j3, j4⟩ := hI
          have hz := hza (by omega)
          have hfb := facI_bd ((szI l c).getD t23.toNat 0).toNat (by omega)
          have hsb := fac_bd j1 j2 j4 (by omega)
          have hm1 : sequences * left ≤ 5040 * 7 := Int.mul_le_mul hsb j2 j1 (by omega)
          have hm0 : 0 ≤ sequences * left := Int.mul_nonneg (by omega) j1
          have hm2 : 1 < left → 1 ≤ sequences * left := fun h => Int.mul_pos (by omega) (by omega)
          refine code_seq (fun K15 hK15 => ?_)
          refine code_seq (fun K16 hK16 => ?_)
          refine code_region ?_
          refine list_cons rfl (op_q (q_move rfl (by decide)) ?_)
          refine list_cons rfl (op_q (q_gt rfl rfl (by decide)) ?_)
          refine list_nil ?_
          refine hK16 _ ?_; clear hK16 K16
          refine code_cond_d rfl (fun h3 => ?_) (fun h3 => ?_)
          · skip
            (try simp only [Decidable.not_not] at h3)
            refine code_skip ?_
            refine hK15 _ ?_; clear hK15 K15
            refine code_seq (fun K17 hK17 => ?_)
            refine code_block ?_
            refine code_region ?_
            refine list_cons rfl (op_q (q_move rfl (by decide)) ?_)
            refine list_cons rfl (op_q (q_move rfl (by decide)) ?_)
            refine list_cons rfl (op_q (by first | exact q_mulI rfl rfl (by decide) (by omega) (by omega) | exact q_ib rfl rfl rfl (by decide)) ?_)
            refine list_cons rfl (op_q (q_assign rfl (by decide)) ?_)
            refine list_nil ?_
            refine blk_n ?_
            refine hK17 _ ?_; clear hK17 K17
            refine code_region ?_
            refine list_cons rfl (op_q (q_move rfl (by decide)) ?_)
            refine list_cons rfl (op_q (by first | exact q_subI rfl rfl (by decide) (by omega) (by omega) | exact q_ib rfl rfl rfl (by decide)) ?_)
            refine list_cons rfl (op_q (q_assign rfl (by decide)) ?_)
            refine list_nil ?_
            refine then_n ⟨(_, _, _, _, _), imp_covers ⟨rfl, rfl, rfl, rfl, rfl, rfl, rfl, rfl, rfl, rfl, rfl, rfl, trivial⟩, ?_, ?_⟩
            · (try dsimp only)
              exact ⟨by omega, by omega, by rw [fac_step (by assumption)]; exact j3, hm2 (by assumption)⟩
            · (try dsimp only); omega
          (try simp only [Decidable.not_not] at h3)
          refine code_exit ?_
          refine then_x ?_; clear hK15 K15
          refine then_x ?_
          refine blk_hit ?_
          refine hK13 _ ?_; clear hK13 K13
          refine code_region ?_
          refine list_cons rfl (op_q (q_move rfl (by decide)) ?_)
          refine list_cons rfl (op_q (q_move rfl (by decide)) ?_)
          refine list_cons rfl (op_q (by first | exact q_addI rfl rfl (by decide) (by omega) (by omega) | exact q_ib rfl rfl rfl (by decide)) ?_)
          refine list_cons rfl (op_q (q_assign rfl (by decide)) ?_)
          refine list_nil ?_
          refine blk_n ?_
          refine hK10 _ ?_; clear hK10 K10
          refine code_region ?_
          refine list_cons rfl (op_q (by first | exact q_addI rfl rfl (by decide) (by omega) (by omega) | exact q_ib rfl rfl rfl (by decide)) ?_)
          refine list_cons rfl (op_q (q_move rfl (by decide)) ?_)
          refine list_nil ?_
          refine then_n ⟨(_, _, _, _, _, _), imp_covers ⟨rfl, rfl, rfl, rfl, rfl, rfl, rfl, rfl, rfl, rfl, trivial⟩, ?_, ?_⟩
          · (try dsimp only)
            have hz := hza (by omega)
            have e1 := fac_one (left := left) (by assumption) (by omega)
            rw [e1, Int.mul_one] at j3
            exact ⟨hW, by omega, by omega, rfl, by rw [show (t23 + 1).toNat = t23.toNat + 1 by omega, facS_succ (by omega), ← j3]⟩
          · (try dsimp only); omega
      (try simp only [Decidable.not_not] at h2)
      refine code_exit ?_
      refine then_x ?_; clear hK9 K9
      refine then_x ?_
      refine blk_hit ?_
      refine hK6 _ ?_; clear hK6 K6
      refine code_seq (fun K18 hK18 => ?_)
      refine code_region ?_
      refine list_cons rfl (op_q (q_move rfl (by decide)) ?_)
      refine list_cons rfl (op_q (q_assign rfl (by decide)) ?_)
      refine list_cons rfl (op_q (q_assign rfl (by decide)) ?_)
      refine list_nil ?_
      refine hK18 _ ?_; clear hK18 K18
      refine code_ret ?_
      refine ends_ret (cs := []) rfl rfl rfl rfl trivial ?_
      first
        | (have e : ¬ WayP c l := by assumption
           rw [if_neg e, decide_eq_false e]; done)
        | (rw [if_pos hW, decide_eq_true hW, ← plays_val hW, show t23.toNat = (szI l c).length by omega]; done)
  · skip
    refine list_cons rfl (op_call _ (impl_playSizesN c l (by omega) (by omega) (by omega) h1) rfl rfl (by decide) (by decide) (by decide) rfl ?_)
    rintro _ rfl
    refine list_cons rfl (op_q (q_move rfl (by decide)) ?_)
    refine list_cons rfl (op_q (q_extract rfl rfl (by decide)) ?_)
    refine list_cons rfl (op_q (q_extract rfl rfl (by decide)) ?_)
    refine list_cons rfl (op_q (q_assign rfl (by decide)) ?_)
    refine list_cons rfl (op_q (q_assign rfl (by decide)) ?_)
    refine list_nil ?_
    refine hK2 _ ?_; clear hK2 K2
    refine codeT.imp (σ' := [(0, .val (.int _ _)), (1, .par 1 _), (4, .val (.int .i64 _)), (5, .val (.bool _)), (6, .own 16 3 1 _ _), (7, .val (.bool _))]) ?_ (imp_covers ⟨rfl, rfl, rfl, rfl, rfl, rfl, trivial⟩)
    refine code_seq (fun K19 hK19 => ?_)
    refine code_seq (fun K20 hK20 => ?_)
    refine code_region ?_
    refine list_cons rfl (op_q (q_move rfl (by decide)) ?_)
    refine list_cons rfl (op_q (by first | exact q_notd rfl (by decide) | exact q_not rfl (by decide)) ?_)
    refine list_nil ?_
    refine hK20 _ ?_; clear hK20 K20
    refine code_cond_t rfl ?_
    refine code_seq (fun K21 hK21 => ?_)
    refine code_region ?_
    refine list_cons rfl (op_q (q_assign rfl (by decide)) ?_)
    refine list_cons rfl (op_q (q_assign rfl (by decide)) ?_)
    refine list_nil ?_
    refine hK21 _ ?_; clear hK21 K21
    refine code_ret ?_
    refine then_r ?_; clear hK19 K19
    refine ends_ret (cs := []) rfl rfl rfl rfl trivial ?_
    first
      | (have e : ¬ WayP c l := by assumption
         rw [if_neg e, decide_eq_false e]; done)
      | (rw [if_pos hW, decide_eq_true hW, ← plays_val hW, show t23.toNat = (szI l c).length by omega]; done)

end Go.Proofs.YtfagllolcalfiaaDoor
