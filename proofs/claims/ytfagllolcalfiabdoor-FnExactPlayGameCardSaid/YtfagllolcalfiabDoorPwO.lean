/- An interpreter over the pure state, for the kernel to run: operations that only compute or read. Whatever it answers is so. Own work; no conditions; nothing here is about one program. -/
import Derived.Test.YtfagllolcalfiabDoorPwT
namespace Go.Proofs.YtfagllolcalfiabDoor
open Go.RowKit
set_option linter.unusedVariables false
set_option linter.unusedSimpArgs false
/-! ### Tables -/
def lk {α : Type} : List (Nat × α) → Nat → Option α
  | [], _ => none
  | (k, a) :: r, t => bif Nat.beq k t then some a else lk r t
def AllT {α : Type} (Q : Nat → α → Prop) : List (Nat × α) → Prop
  | [] => True
  | (k, a) :: r => Q k a ∧ AllT Q r
theorem lk_ok {α : Type} {Q : Nat → α → Prop} : ∀ {l : List (Nat × α)} {t : Nat} {a : α}, AllT Q l → lk l t = some a → Q t a
  | [], t, a, _, h => by simp [lk] at h
  | (k, b) :: r, t, a, hA, h => by
    unfold lk at h
    cases hb : Nat.beq k t with
    | true =>
      rw [hb] at h
      simp only [cond_true, Option.some.injEq] at h
      subst h
      rw [← Nat.eq_of_beq_eq_true hb]; exact hA.1
    | false =>
      rw [hb] at h
      exact lk_ok hA.2 h
structure TF (P : Program) where
  kd : List (Nat × TK)
  sl : List (Nat × (Nat × Nat × Nat × List PV))
  one : List (Nat × Unit)
  agg : List (Nat × Nat)
  arr : List (Nat × (Nat × Nat))
  are : List (Nat × (Nat × Nat))
  fl : List (Nat × (List (Nat × Nat)))
  zt : List (Nat × List PV)
  bt : List (Nat × ((Nat → Option (Nat × Nat)) × List PV))
  mp : List (Nat × (Nat × Nat))
  zv : List (Nat × PV)
  mix : P.follows .mixedOrders = true
  mp_ok : AllT (fun t x => P.underlying t = some (.map x.1 x.2)) mp
  zv_ok : AllT (fun t p => ZvTy P t p) zv
  kd_ok : AllT (fun t k => k.is P t) kd
  sl_ok : AllT (fun t x => SlTy P t x.1 x.2.1 x.2.2.1 x.2.2.2) sl
  one_ok : AllT (fun t _ => OneTy P t) one
  agg_ok : AllT (fun t k => AggTy P t k) agg
  arr_ok : AllT (fun t x => ArTy P t x.1 x.2) arr
  are_ok : AllT (fun t x => P.underlying t = some (.array x.1 x.2)) are
  fl_ok : AllT (fun t l => ∃ fs, P.underlying t = some (.struct fs) ∧ ∀ (f : Nat) (off ft : Nat), l[f]? = some (off, ft) → (∃ fd : Field, fs[f]? = some fd ∧ fd.offset = off ∧ fd.type = ft) ∧ FiTy P t f off) fl
  zt_ok : AllT (fun t z => ZeroTy P t z) zt
  bt_ok : AllT (fun t x => BuildTy P t x.1 x.2) bt
section
variable {P : Program} (T : TF P)
theorem TF.slOf {t e s b : Nat} {z : List PV} (h : lk T.sl t = some (e, s, b, z)) : SlTy P t e s b z := lk_ok (Q := fun t x => SlTy P t x.1 x.2.1 x.2.2.1 x.2.2.2) T.sl_ok h
theorem TF.oneOf {t : Nat} {u : Unit} (h : lk T.one t = some u) : OneTy P t := lk_ok (Q := fun t _ => OneTy P t) T.one_ok h
theorem TF.aggOf {t k : Nat} (h : lk T.agg t = some k) : AggTy P t k := lk_ok (Q := fun t k => AggTy P t k) T.agg_ok h
theorem TF.arrOf {t l s : Nat} (h : lk T.arr t = some (l, s)) : ArTy P t l s := lk_ok (Q := fun t x => ArTy P t x.1 x.2) T.arr_ok h
theorem TF.areOf {t l e : Nat} (h : lk T.are t = some (l, e)) : P.underlying t = some (.array l e) := lk_ok (Q := fun t x => P.underlying t = some (.array x.1 x.2)) T.are_ok h
theorem TF.flOf {t : Nat} {l : List (Nat × Nat)} (h : lk T.fl t = some l) : ∃ fs, P.underlying t = some (.struct fs) ∧ ∀ (f : Nat) (off ft : Nat), l[f]? = some (off, ft) → (∃ fd : Field, fs[f]? = some fd ∧ fd.offset = off ∧ fd.type = ft) ∧ FiTy P t f off := lk_ok (Q := fun t l => ∃ fs, P.underlying t = some (.struct fs) ∧ ∀ (f : Nat) (off ft : Nat), l[f]? = some (off, ft) → (∃ fd : Field, fs[f]? = some fd ∧ fd.offset = off ∧ fd.type = ft) ∧ FiTy P t f off) T.fl_ok h
theorem TF.ztOf {t : Nat} {z : List PV} (h : lk T.zt t = some z) : ZeroTy P t z := lk_ok (Q := fun t z => ZeroTy P t z) T.zt_ok h
theorem TF.btOf {t : Nat} {p : Nat → Option (Nat × Nat)} {z : List PV} (h : lk T.bt t = some (p, z)) : BuildTy P t p z := lk_ok (Q := fun t x => BuildTy P t x.1 x.2) T.bt_ok h
theorem TF.mpOf {t k e : Nat} (h : lk T.mp t = some (k, e)) : P.underlying t = some (.map k e) := lk_ok (Q := fun t x => P.underlying t = some (.map x.1 x.2)) T.mp_ok h
theorem TF.zvOf {t : Nat} {p : PV} (h : lk T.zv t = some p) : ZvTy P t p := lk_ok (Q := fun t p => ZvTy P t p) T.zv_ok h
theorem TF.kdOf {t : Nat} {k : TK} (h : lk T.kd t = some k) : k.is P t := lk_ok (Q := fun t k => k.is P t) T.kd_ok h
end
/-! ### The state -/
noncomputable def St.get (σ : St) (s : Nat) : Option SV :=
  List.rec (motive := fun _ => Option SV) none (fun e _ g => cond (Nat.beq e.1 s) (some e.2) g) σ
theorem St.get_cons (t : Nat) (x : SV) (r : St) (s : Nat) : St.get ((t, x) :: r) s = bif Nat.beq t s then some x else St.get r s := rfl
theorem get_eq : ∀ (σ : St) (s : Nat), σ.get s = σ.at s
  | [], s => rfl
  | (t, x) :: r, s => by
    rw [St.get_cons]; unfold St.at
    by_cases h : t = s
    · subst h; simp
    · rw [if_neg h]
      have : Nat.beq t s = false := by
        cases hb : Nat.beq t s with
        | true => exact absurd (Nat.eq_of_beq_eq_true hb) h
        | false => rfl
      rw [this]; exact get_eq r s
noncomputable def St.del (d : Nat) (σ : St) : St :=
  List.rec (motive := fun _ => St) [] (fun e _ g => cond (Nat.beq e.1 d) g (e :: g)) σ
theorem St.del_cons (d t : Nat) (x : SV) (r : St) : St.del d ((t, x) :: r) = bif Nat.beq t d then St.del d r else (t, x) :: St.del d r := rfl
theorem beq_ne {t d : Nat} (h : t ≠ d) : Nat.beq t d = false := by
  cases hb : Nat.beq t d with
  | true => exact absurd (Nat.eq_of_beq_eq_true hb) h
  | false => rfl
theorem del_at (d : Nat) : ∀ (σ : St) (s : Nat), (σ.del d).at s = if s = d then none else σ.at s
  | [], s => by simp [show St.del d [] = [] from rfl, St.at]
  | (t, x) :: r, s => by
    rw [St.del_cons]
    by_cases h : t = d
    · subst h
      have := del_at t r s
      simp only [Nat.beq_refl, cond_true]
      rw [this]
      by_cases hs : s = t
      · rw [if_pos hs, if_pos hs]
      · rw [if_neg hs, if_neg hs]; simp only [St.at]; rw [if_neg (fun e => hs e.symm)]
    · rw [beq_ne h]
      simp only [cond_false, St.at]
      by_cases hs : t = s
      · subst hs; rw [if_pos rfl, if_neg h, if_pos rfl]
      · rw [if_neg hs, if_neg hs]; exact del_at d r s
theorem imp_del {n : Nat} {σ : St} (d : Nat) : Imp n σ (σ.del d) := fun C a w hS => hS.weaken fun s x hx => by
  rw [del_at] at hx
  split at hx
  · cases hx
  · exact hx
noncomputable def St.set (σ : St) (d : Nat) (x : SV) : St :=
  List.rec (motive := fun _ => St) [(d, x)] (fun e r g => cond (Nat.beq e.1 d) ((d, x) :: r) (e :: g)) σ
theorem St.set_cons (d t : Nat) (x y : SV) (r : St) : St.set ((t, y) :: r) d x = bif Nat.beq t d then (d, x) :: r else (t, y) :: St.set r d x := rfl
theorem set_at (d : Nat) (x : SV) : ∀ (σ : St) (s : Nat), (σ.set d x).at s = if d = s then some x else σ.at s
  | [], s => rfl
  | (t, y) :: r, s => by
    rw [St.set_cons]
    by_cases h : t = d
    · subst h
      simp only [Nat.beq_refl, cond_true, St.at]
      split <;> rfl
    · rw [beq_ne h]
      simp only [cond_false, St.at]
      by_cases hs : t = s
      · subst hs; rw [if_pos rfl, if_neg (fun e => h e.symm), if_pos rfl]
      · rw [if_neg hs, if_neg hs]; exact set_at d x r s
theorem imp_put {n : Nat} {σ : St} (d : Nat) (x : SV) : Imp n ((d, x) :: σ) (σ.set d x) := fun C a w hS => hS.weaken fun s y hy => by
  rw [set_at] at hy
  exact hy
theorem imp_put2 {n : Nat} {σ : St} (d : Nat) (x : SV) : Imp n ((d, x) :: σ.del d) (σ.set d x) := fun C a w hS => hS.weaken fun s y hy => by
  rw [set_at] at hy
  simp only [St.at]
  split at hy
  · rename_i h; rw [if_pos h]; exact hy
  · rename_i h; rw [if_neg h, del_at, if_neg (fun e => h e.symm)]; exact hy
noncomputable def St.evq (σ : St) : Operand → Option SV
  | .tmp t => σ.get t
  | .const v => (cv v).map .val
  | .func f => some (.fn f)
  | .global _ => none
theorem evq_eq (σ : St) (x : Operand) : σ.evq x = σ.ev x := by
  cases x <;> simp [St.evq, St.ev, get_eq]
/-! ### Operations that compute -/
def wrapF : IntKind → Int → Int
  | .i64, .ofNat n => cond (Nat.blt n 9223372036854775808) (.ofNat n) (IntKind.i64.wrap (.ofNat n))
  | .i64, .negSucc n => cond (Nat.blt n 9223372036854775808) (.negSucc n) (IntKind.i64.wrap (.negSucc n))
  | k, i => k.wrap i
theorem cond_self {n B : Nat} {x w : Int} (h : n < B → x = w) : cond (Nat.blt n B) x w = w := by
  cases hb : Nat.blt n B with
  | false => rfl
  | true => exact h (Nat.le_of_ble_eq_true hb)
theorem wrap_pos {n B : Nat} (hB : (B : Int) = 9223372036854775808) (h : n < B) : Int.ofNat n = IntKind.i64.wrap (Int.ofNat n) := by
  have h1 : (-9223372036854775808 : Int) ≤ Int.ofNat n := by rw [Int.ofNat_eq_natCast]; omega
  have h2 : Int.ofNat n ≤ 9223372036854775807 := by rw [Int.ofNat_eq_natCast]; omega
  exact (wrap_in h1 h2).symm
theorem wrap_negs {n B : Nat} (hB : (B : Int) = 9223372036854775808) (h : n < B) : Int.negSucc n = IntKind.i64.wrap (Int.negSucc n) := by
  have h1 : (-9223372036854775808 : Int) ≤ Int.negSucc n := by omega
  have h2 : Int.negSucc n ≤ 9223372036854775807 := by omega
  exact (wrap_in h1 h2).symm
theorem wrapF_eq : ∀ (k : IntKind) (i : Int), wrapF k i = k.wrap i
  | .i64, .ofNat n => cond_self (wrap_pos rfl)
  | .i64, .negSucc n => cond_self (wrap_negs rfl)
  | .i8, _ => rfl
  | .i16, _ => rfl
  | .i32, _ => rfl
  | .u8, _ => rfl
  | .u16, _ => rfl
  | .u32, _ => rfl
  | .u64, _ => rfl
structure IF where
  h : IntKind → Int → Int → Option PV
noncomputable def ibc : BinOp → IF
  | .add => ⟨fun k x y => some (.int k (wrapF k (Int.add x y)))⟩
  | .sub => ⟨fun k x y => some (.int k (wrapF k (Int.sub x y)))⟩
  | .mul => ⟨fun k x y => some (.int k (wrapF k (Int.mul x y)))⟩
  | .quo => ⟨fun k x y => bif y == 0 then none else some (.int k (wrapF k (x.tdiv y)))⟩
  | .rem => ⟨fun k x y => bif y == 0 then none else some (.int k (x.tmod y))⟩
  | op => ⟨ib op⟩
structure BF where
  g : SV → SV → Option SV
noncomputable def bopc {P : Program} (T : TF P) (op : BinOp) (t : Nat) : BF :=
  match op with
  | .shl => ⟨fun a b => match a, b with
    | .val (.int k i), .val (.int _ j) => if 0 ≤ j then some (.val (.int k (k.wrap (i * 2 ^ (min j.toNat k.bits))))) else none
    | _, _ => none⟩
  | .shr => ⟨fun a b => match a, b with
    | .val (.int k i), .val (.int _ j) => if 0 ≤ j then some (.val (.int k (i.fdiv (2 ^ (min j.toNat k.bits))))) else none
    | _, _ => none⟩
  | op => ⟨fun a b => match a, b with
    | .val (.int k i), .val (.int k' j) => cond (kEq k k') (match (ibc op).h k i j with
      | some p => some (.val p)
      | none => none) none
    | .val (.str i), .val (.str j) =>
      match op with
      | .add => bif Nat.ble (i.length + j.length) 9223372036854775807 then some (.val (.str (i ++ j))) else none
      | op => (sb op i j).map .val
    | .val (.bool i), .val (.bool j) =>
      match lk T.kd t with
      | some .bool => match op with
        | .eql => some (.val (.bool (i == j)))
        | .neq => some (.val (.bool (i != j)))
        | _ => none
      | _ => none
    | _, _ => none⟩
noncomputable def bop {P : Program} (T : TF P) (op : BinOp) (t : Nat) (a b : SV) : Option SV := (bopc T op t).g a b
section
variable {P : Program} {n : Nat} {σ : St} {K : St → Prop} {d : Nat} {ty : TypeId} {pos : String} {af : Array Edge} {gd : Option (Nat × Bool)}
theorem ibc_ok {op : BinOp} {t t' : TypeId} {x y : Operand} {k : IntKind} {i j : Int} {p : PV} (hx : σ.ev x = some (.val (.int k i))) (hy : σ.ev y = some (.val (.int k j))) (h : (ibc op).h k i j = some p) (hd : d < n) : quietT P n ⟨some d, .binOp op t x y t', ty, pos, af, gd⟩ σ d (.val p) := by
  unfold ibc at h
  split at h
  · simp only [wrapF_eq] at h; exact q_ib hx hy h hd
  · simp only [wrapF_eq] at h; exact q_ib hx hy h hd
  · simp only [wrapF_eq] at h; exact q_ib hx hy h hd
  · by_cases hj : j = 0
    · subst hj; simp at h
    · have : (j == 0) = false := by simpa using hj
      simp only [this, cond_false, wrapF_eq, Option.some.injEq] at h; subst h
      exact q_quo hx hy hj hd
  · by_cases hj : j = 0
    · subst hj; simp at h
    · have : (j == 0) = false := by simpa using hj
      simp only [this, cond_false, Option.some.injEq] at h; subst h
      exact q_rem hx hy hj hd
  · exact q_ib hx hy h hd
theorem bop_ok (T : TF P) {op : BinOp} {t t' : TypeId} {x y : Operand} {a b s : SV} (hx : σ.ev x = some a) (hy : σ.ev y = some b) (h : bop T op t a b = some s) (hd : d < n) : quietT P n ⟨some d, .binOp op t x y t', ty, pos, af, gd⟩ σ d s := by
  unfold bop bopc at h
  split at h
  · dsimp only at h
    split at h
    · split at h
      · rename_i hj; simp only [Option.some.injEq] at h; subst h; exact q_shl hx hy hj hd
      · cases h
    · cases h
  · dsimp only at h
    split at h
    · split at h
      · rename_i hj; simp only [Option.some.injEq] at h; subst h; exact q_shr hx hy hj hd
      · cases h
    · cases h
  · dsimp only at h
    split at h
    · rename_i k i k' j
      cases hk : kEq k k' with
      | false => rw [hk] at h; cases h
      | true =>
        rw [hk] at h
        simp only [cond_true] at h
        obtain rfl := kEq_ok hk
        split at h
        · rename_i p hp
          simp only [Option.some.injEq] at h; subst h
          exact ibc_ok hx hy hp hd
        · cases h
    · rename_i i j
      split at h
      · cases hb : Nat.ble (i.length + j.length) 9223372036854775807 with
        | false => rw [hb] at h; cases h
        | true =>
          rw [hb] at h
          simp only [cond_true, Option.some.injEq] at h; subst h
          exact q_cat hx hy (Nat.le_of_ble_eq_true hb) hd
      · obtain ⟨p, hp, rfl⟩ := Option.map_eq_some_iff.1 h
        exact q_sb hx hy hp hd
    · split at h
      · rename_i hk
        have ht := T.kdOf hk
        split at h
        · simp only [Option.some.injEq] at h; subst h
          exact q_bb ht (.inl rfl) hx hy hd
        · simp only [Option.some.injEq] at h; subst h
          exact q_bb ht (.inr rfl) hx hy hd
        · cases h
      · cases h
    · cases h
def uop : UnOp → SV → Option SV
  | .not, .val (.bool b) => some (.val (.bool (!b)))
  | .neg, .val (.int k i) => some (.val (.int k (k.wrap (0 - i))))
  | _, _ => none
theorem uop_ok {op : UnOp} {t : TypeId} {x : Operand} {a s : SV} (hx : σ.ev x = some a) (h : uop op a = some s) (hd : d < n) : quietT P n ⟨some d, .unOp op t x, ty, pos, af, gd⟩ σ d s := by
  unfold uop at h
  split at h
  · simp only [Option.some.injEq] at h; subst h; exact q_not hx hd
  · simp only [Option.some.injEq] at h; subst h; exact q_neg hx hd
  · cases h
def unbytes : List PV → Option (List UInt8)
  | [] => some []
  | .int .u8 (.ofNat m) :: r => bif Nat.blt m 256 then (unbytes r).map (UInt8.ofNat m :: ·) else none
  | _ => none
theorem unbytes_ok : ∀ {cs : List PV} {bs : List UInt8}, unbytes cs = some bs → cs = bytesP bs
  | [], bs, h => by simp only [unbytes, Option.some.injEq] at h; subst h; rfl
  | c :: r, bs, h => by
    unfold unbytes at h
    split at h
    · rename_i he; cases he
    · rename_i m r' he
      cases he
      cases hb : Nat.blt m 256 with
      | false => rw [hb] at h; cases h
      | true =>
        rw [hb] at h
        simp only [cond_true] at h
        obtain ⟨bs', h1, rfl⟩ := Option.map_eq_some_iff.1 h
        have hm : m < 256 := Nat.le_of_ble_eq_true hb
        rw [unbytes_ok h1]
        have : (UInt8.ofNat m).toNat = m := by rw [UInt8.toNat_ofNat']; omega
        simp [bytesP, this]
    · cases h
def cop {P : Program} (T : TF P) (t t' : Nat) (s : SV) : Option SV :=
  match s with
  | .val (.int _ i) => match lk T.kd t, lk T.kd t' with
    | some _, some (.int k') => some (.val (.int k' (k'.wrap i)))
    | _, _ => none
  | s => match s.pv with
    | some (.sl m cs) => match lk T.sl t, lk T.kd t', unbytes cs with
      | some (e, _, _, _), some .str, some bs => match lk T.kd e with
        | some (.int .u8) => bif Nat.beq bs.length m then some (.val (.str bs)) else none
        | _ => none
      | _, _, _ => none
    | _ => none
theorem cop_ok (T : TF P) {t t' : TypeId} {x : Operand} {a s : SV} (hx : σ.ev x = some a) (h : cop T t t' a = some s) (hd : d < n) : quietT P n ⟨some d, .convert t t' x, ty, pos, af, gd⟩ σ d s := by
  unfold cop at h
  split at h
  · split at h
    · rename_i k hk hk'
      simp only [Option.some.injEq] at h; subst h
      have h1 := T.kdOf hk
      refine q_conv ?_ (T.kdOf hk') hx hd
      exact h1.isSome
    · cases h
  · split at h
    · rename_i m cs hpv
      split at h
      · rename_i bs hsl hk hb
        split at h
        · rename_i hk2
          cases hl : Nat.beq bs.length m with
          | false => rw [hl] at h; cases h
          | true =>
            rw [hl] at h
            simp only [cond_true, Option.some.injEq] at h; subst h
            rw [unbytes_ok hb] at hpv
            exact q_bytes_str (T.slOf hsl).1 (T.kdOf hk2) (T.kdOf hk) hx hpv (Nat.eq_of_beq_eq_true hl) hd
        · cases h
      · cases h
    · cases h
def inb : Int → Nat → Option Nat
  | .ofNat i, m => bif Nat.blt i m then some i else none
  | .negSucc _, _ => none
theorem inb_ok {i : Int} {m k : Nat} (h : inb i m = some k) : 0 ≤ i ∧ i < m ∧ i.toNat = k := by
  unfold inb at h
  split at h
  · rename_i j
    cases hb : Nat.blt j m with
    | false => rw [hb] at h; cases h
    | true =>
      rw [hb] at h
      simp only [cond_true, Option.some.injEq] at h; subst h
      have : j < m := Nat.le_of_ble_eq_true hb
      exact ⟨Int.natCast_nonneg j, by show (j : Int) < m; omega, rfl⟩
  · cases h
def iop {P : Program} (T : TF P) (t : Nat) : SV → SV → Option SV
  | .val (.str s), .val (.int _ i) => match lk T.kd t, inb i s.length with
    | some .str, some k => some (.val (.int .u8 (s.getD k 0).toNat))
    | _, _ => none
  | .val (.agg cs), .val (.int _ i) => match lk T.are t with
    | some (len, e) => match lk T.one e, inb i len with
      | some _, some k => (cs[k]?).map .val
      | _, _ => none
    | none => none
  | _, _ => none
theorem iop_ok (T : TF P) {t : TypeId} {x y : Operand} {a b s : SV} (hx : σ.ev x = some a) (hy : σ.ev y = some b) (h : iop T t a b = some s) (hd : d < n) : quietT P n ⟨some d, .index t x y, ty, pos, af, gd⟩ σ d s := by
  unfold iop at h
  split at h
  · split at h
    · rename_i k hk hi
      simp only [Option.some.injEq] at h; subst h
      obtain ⟨h1, h2, rfl⟩ := inb_ok hi
      exact q_index_str (T.kdOf hk) hx hy h1 h2 hd
    · cases h
  · split at h
    · rename_i len e he
      split at h
      · rename_i k ho hi
        obtain ⟨c, hc, rfl⟩ := Option.map_eq_some_iff.1 h
        obtain ⟨h1, h2, rfl⟩ := inb_ok hi
        have h3 := T.oneOf ho
        exact q_index_arr (size := 1) (T.areOf he) h3.2 h3 hx hy h1 h2 hc hd rfl
      · cases h
    · cases h
  · cases h
noncomputable def bnd (σ : St) (dflt : Nat) : Option Operand → Option Nat
  | none => some dflt
  | some x => match σ.evq x with
    | some (.val (.int _ (.ofNat i))) => some i
    | _ => none
theorem bnd_lo {lo : Option Operand} {i : Nat} : bnd σ 0 lo = some i → match lo with | none => ((i : Nat) : Int) = 0 | some l => ∃ k, σ.ev l = some (.val (.int k i)) := by
  intro h
  cases lo with
  | none => simp only [bnd, Option.some.injEq] at h; subst h; rfl
  | some x =>
    simp only [bnd] at h
    split at h
    · rename_i he
      simp only [Option.some.injEq] at h; subst h
      rw [evq_eq] at he; exact ⟨_, he⟩
    · cases h
theorem bnd_hi {hi : Option Operand} {m j : Nat} : bnd σ m hi = some j → match hi with | none => ((j : Nat) : Int) = m | some l => ∃ k, σ.ev l = some (.val (.int k j)) := by
  intro h
  cases hi with
  | none => simp only [bnd, Option.some.injEq] at h; subst h; rfl
  | some x =>
    simp only [bnd] at h
    split at h
    · rename_i he
      simp only [Option.some.injEq] at h; subst h
      rw [evq_eq] at he; exact ⟨_, he⟩
    · cases h
noncomputable def sop {P : Program} (T : TF P) (σ : St) (t : Nat) (lo hi : Option Operand) (s : SV) : Option SV :=
  match s with
  | .val (.str l) => match lk T.kd t, bnd σ 0 lo, bnd σ l.length hi with
    | some .str, some i, some j => bif Nat.ble i j && Nat.ble j l.length then some (.val (.str ((l.drop i).take (j - i)))) else none
    | _, _, _ => none
  | s => match s.pv, lk T.sl t with
    | some (.sl m cs), some (_, size, _, _) => match bnd σ 0 lo, bnd σ m hi with
      | some i, some j => bif Nat.ble i j && Nat.ble j m then s.part (j - i) ((cs.drop (i * size)).take ((j - i) * size)) else none
      | _, _ => none
    | _, _ => none
theorem sop_ok (T : TF P) {t : TypeId} {x : Operand} {lo hi : Option Operand} {a s : SV} (hx : σ.ev x = some a) (h : sop T σ t lo hi a = some s) (hd : d < n) : quietT P n ⟨some d, .slice t x lo hi none, ty, pos, af, gd⟩ σ d s := by
  unfold sop at h
  split at h
  · rename_i l
    split at h
    · rename_i i j hk hi hj
      cases hb : (Nat.ble i j && Nat.ble j l.length) with
      | false => rw [hb] at h; cases h
      | true =>
        rw [hb] at h
        simp only [cond_true, Option.some.injEq] at h; subst h
        simp only [Bool.and_eq_true] at hb
        have h1 := Nat.le_of_ble_eq_true hb.1
        have h2 := Nat.le_of_ble_eq_true hb.2
        have := q_slice_str (P := P) (n := n) (ty := ty) (pos := pos) (af := af) (gd := gd) (i := (i : Int)) (j := (j : Int)) (T.kdOf hk) hx (bnd_lo hi) (bnd_hi hj) (by omega) (by omega) (by omega) hd
        simpa using this
    · cases h
  · split at h
    · rename_i m cs e size b z hpv hsl
      split at h
      · rename_i i j hi hj
        cases hb : (Nat.ble i j && Nat.ble j m) with
        | false => rw [hb] at h; cases h
        | true =>
          rw [hb] at h
          simp only [cond_true] at h
          simp only [Bool.and_eq_true] at hb
          have h1 := Nat.le_of_ble_eq_true hb.1
          have h2 := Nat.le_of_ble_eq_true hb.2
          exact q_slice_sl (i := (i : Int)) (j := (j : Int)) (T.slOf hsl) hx hpv (bnd_lo hi) (bnd_hi hj) (by omega) (by omega) (by omega) (by simpa using h) hd
      · cases h
    · cases h
/-! ### Addresses and loads -/
def aop {P : Program} (T : TF P) (t : Nat) (a : SV) : SV → Option SV
  | .val (.int _ i) => match lk T.sl t with
    | some (_, size, _, _) => match a with
      | .own l _ _ m _ => (inb i m).map fun k => .adr l (k * size)
      | .par q (.sl m cs) => (inb i m).map fun k => .rpar q (cs.drop (k * size))
      | .bor l (.sl m cs) => (inb i m).map fun k => .rbor l (cs.drop (k * size))
      | _ => none
    | none => match lk T.arr t with
      | some (len, size) => (inb i len).bind fun k => a.move (k * size)
      | none => none
  | _ => none
theorem aop_ok (T : TF P) {t : TypeId} {x y : Operand} {a b s : SV} (hx : σ.ev x = some a) (hy : σ.ev y = some b) (h : aop T t a b = some s) (hd : d < n) : quietT P n ⟨some d, .indexAddr t x y, ty, pos, af, gd⟩ σ d s := by
  unfold aop at h
  split at h
  · split at h
    · rename_i e size bb z hsl
      have hty := T.slOf hsl
      split at h
      · obtain ⟨k, hk, rfl⟩ := Option.map_eq_some_iff.1 h
        obtain ⟨h1, h2, rfl⟩ := inb_ok hk
        exact q_indexAddr_own hty hx hy h1 h2 hd
      · obtain ⟨k, hk, rfl⟩ := Option.map_eq_some_iff.1 h
        obtain ⟨h1, h2, rfl⟩ := inb_ok hk
        exact q_indexAddr_rd hty hx (.inl ⟨_, rfl, rfl⟩) hy h1 h2 hd
      · obtain ⟨k, hk, rfl⟩ := Option.map_eq_some_iff.1 h
        obtain ⟨h1, h2, rfl⟩ := inb_ok hk
        exact q_indexAddr_rd hty hx (.inr ⟨_, rfl, rfl⟩) hy h1 h2 hd
      · cases h
    · split at h
      · rename_i len size har
        obtain ⟨k, hk, hm⟩ := Option.bind_eq_some_iff.1 h
        obtain ⟨h1, h2, rfl⟩ := inb_ok hk
        exact q_indexAddr_arr (T.arrOf har) hx hy hm h1 h2 hd
      · cases h
  · cases h
noncomputable def St.hand (l : Nat) : St → Option Nat → Option Nat
  | [], r => r
  | (t, s) :: σ, r => match s.root with
    | some (l', _) => bif Nat.beq l' l then St.hand l σ (match r with | none => some t | some u => bif Nat.blt t u then some t else some u) else St.hand l σ r
    | none => St.hand l σ r
noncomputable def St.cellsOf (σ : St) (l : Nat) : Option (Nat × SV × List PV) :=
  match σ.hand l none with
  | none => none
  | some h => match σ.get h with
    | none => none
    | some s => match s.root with
      | some (l', cs) => bif Nat.beq l' l then some (h, s, cs) else none
      | none => none
theorem cellsOf_ok {l h : Nat} {s : SV} {cs : List PV} (e : σ.cellsOf l = some (h, s, cs)) : σ.at h = some s ∧ s.root = some (l, cs) := by
  unfold St.cellsOf at e
  split at e
  · cases e
  · split at e
    · cases e
    · rename_i hg
      split at e
      · rename_i l' cs' hr
        cases hb : Nat.beq l' l with
        | false => rw [hb] at e; cases e
        | true =>
          rw [hb] at e
          simp only [cond_true, Option.some.injEq, Prod.mk.injEq] at e
          obtain ⟨rfl, rfl, rfl⟩ := e
          rw [get_eq] at hg
          rw [Nat.eq_of_beq_eq_true hb] at hr
          exact ⟨hg, hr⟩
      · cases e
def SV.spot : SV → Option (Nat × Nat)
  | .adr l o => some (l, o)
  | .box l _ _ => some (l, 0)
  | _ => none
theorem q_load_box {t : TypeId} (ht : OneTy P t) {x : Operand} {l e : Nat} {c : PV} {cs : List PV} (hx : σ.ev x = some (.box l e (c :: cs))) (hd : d < n) : quietT P n ⟨some d, .load t x, ty, pos, af, gd⟩ σ d (if c.flat then .val c else .bor l c) := by
  refine ⟨rfl, hd, fun C a w G hS hG hE => ?_⟩
  obtain ⟨vs, hv, hg, hh, hr⟩ := hE.ev hx
  obtain ⟨v, h3, _, h4⟩ := hr.get 0 c rfl
  have hc : w.cell? ⟨G.r l, 0, none⟩ = some v := by rw [cell_of_row w _ 0 _ e (0, 0) hh]; simpa using h3
  refine ⟨v, fun w2 hw2 => ?_, ?_⟩
  · have hc2 := (hw2.cell (p := ⟨G.r l, 0, none⟩) (World.block_lt_of_cell? w _ hc)).trans hc
    simp [execOp, hv, Instr.loadAt, Instr.sureAddr, run_loadVar_one ht hc2]
  · split
    · rename_i hf; exact Rep.flat c v hf h4
    · exact Rep.mono (fun b hb => hb.imp (fun h => h.1) id) (fun _ _ => rfl) c v h4
theorem ev_box {x : Operand} {l e : Nat} {cs : List PV} (h : σ.ev x = some (.box l e cs)) : ∃ s, x = .tmp s ∧ σ.at s = some (.box l e cs) := by
  cases x with
  | tmp s => exact ⟨s, rfl, h⟩
  | const v => obtain ⟨p, _, hp⟩ := Option.map_eq_some_iff.1 h; cases hp
  | func f => simp [St.ev] at h
  | global g => simp [St.ev] at h
def ldv {P : Program} (T : TF P) (t : Nat) (cs : List PV) (own : PV → SV) : Option SV :=
  match lk T.one t with
  | some _ => match cs with
    | c :: _ => some (if c.flat then .val c else own c)
    | [] => none
  | none => match lk T.agg t with
    | some k => bif Nat.ble k cs.length && PV.flatL (cs.take k) then some (.val (.agg (cs.take k))) else none
    | none => none
noncomputable def lop {P : Program} (T : TF P) (σ : St) (t : Nat) : SV → Option SV
  | .rpar i cs => ldv T t cs (.par i)
  | .rbor l cs => ldv T t cs (.bor l)
  | .adr l off => match σ.cellsOf l with
    | some (_, _, cs) => bif Nat.ble off cs.length then ldv T t (cs.drop off) (.bor l) else none
    | none => none
  | .box l _ cs => ldv T t cs (.bor l)
  | _ => none
theorem ldv_ok (T : TF P) {t : Nat} {cs : List PV} {own : PV → SV} {s : SV} (h : ldv T t cs own = some s) :
    (OneTy P t ∧ ∃ c r, cs = c :: r ∧ s = if c.flat then .val c else own c) ∨ ∃ k, AggTy P t k ∧ k ≤ cs.length ∧ PV.flatL (cs.take k) = true ∧ s = .val (.agg (cs.take k)) := by
  unfold ldv at h
  split at h
  · rename_i ho
    left
    refine ⟨T.oneOf ho, ?_⟩
    split at h
    · rename_i c r
      simp only [Option.some.injEq] at h
      exact ⟨c, r, rfl, h.symm⟩
    · cases h
  · split at h
    · rename_i k hk
      cases hb : (Nat.ble k cs.length && PV.flatL (cs.take k)) with
      | false => rw [hb] at h; cases h
      | true =>
        rw [hb] at h
        simp only [cond_true, Option.some.injEq] at h
        simp only [Bool.and_eq_true] at hb
        exact .inr ⟨k, T.aggOf hk, Nat.le_of_ble_eq_true hb.1, hb.2, h.symm⟩
    · cases h
theorem lop_ok (T : TF P) {t : TypeId} {x : Operand} {a s : SV} (hx : σ.ev x = some a) (h : lop T σ t a = some s) (hd : d < n) : quietT P n ⟨some d, .load t x, ty, pos, af, gd⟩ σ d s := by
  unfold lop at h
  split at h
  · rcases ldv_ok T h with ⟨h1, c, r, rfl, rfl⟩ | ⟨k, h1, h2, h3, rfl⟩
    · exact q_load_rd h1 hx (.inl ⟨_, rfl, rfl⟩) hd
    · exact q_load_rd_agg h1 hx (.inl ⟨_, rfl⟩) h2 h3 hd
  · rcases ldv_ok T h with ⟨h1, c, r, rfl, rfl⟩ | ⟨k, h1, h2, h3, rfl⟩
    · exact q_load_rd h1 hx (.inr ⟨_, rfl, rfl⟩) hd
    · exact q_load_rd_agg h1 hx (.inr ⟨_, rfl⟩) h2 h3 hd
  · split at h
    · rename_i l off _ hh ss cs hc
      obtain ⟨h4, h5⟩ := cellsOf_ok hc
      cases hb : Nat.ble off cs.length with
      | false => rw [hb] at h; cases h
      | true =>
        rw [hb] at h
        simp only [cond_true] at h
        have hle := Nat.le_of_ble_eq_true hb
        rcases ldv_ok T h with ⟨h1, c, r, hcr, rfl⟩ | ⟨k, h1, h2, h3, rfl⟩
        · refine q_load h1 hh hx h4 h5 ?_ hd
          have := congrArg (·[0]?) hcr
          simpa using this
        · refine q_load_agg h1 hh (.inl hx) h4 h5 ?_ h3 hd
          simp at h2; omega
    · cases h
  · rename_i l e cs
    rcases ldv_ok T h with ⟨h1, c, r, rfl, rfl⟩ | ⟨k, h1, h2, h3, rfl⟩
    · exact q_load_box h1 hx hd
    · obtain ⟨s0, rfl, h4⟩ := ev_box hx
      have := q_load_agg (P := P) (n := n) (ty := ty) (pos := pos) (af := af) (gd := gd) h1 s0 (off := 0) (.inr ⟨rfl, _, hx⟩) h4 rfl (by omega) (by simpa using h3) hd
      simpa using this
  · cases h
/-! ### All that only computes or reads -/
noncomputable def St.evpq (σ : St) : List (Nat × Operand) → Option (List (Nat × PV))
  | [] => some []
  | (i, x) :: r => match (σ.evq x).bind SV.pv, St.evpq σ r with
    | some p, some ps => if p.flat then some ((i, p) :: ps) else none
    | _, _ => none
theorem evpq_eq (σ : St) : ∀ l : List (Nat × Operand), σ.evpq l = σ.evp l
  | [] => rfl
  | (i, x) :: r => by
    unfold St.evpq St.evp; rw [evq_eq, evpq_eq σ r]
    cases (σ.ev x).bind SV.pv <;> cases σ.evp r <;> rfl
structure QF where
  f : St → Option SV
noncomputable def qc {P : Program} (T : TF P) : Op → QF
  | .move x => ⟨fun σ => σ.evq x⟩
  | .assign x => ⟨fun σ => σ.evq x⟩
  | .pick c x y => ⟨fun σ => match σ.evq c with
    | some (.val (.bool b)) => bif b then σ.evq x else σ.evq y
    | _ => none⟩
  | .binOp op t x y _ => ⟨fun σ => match σ.evq x, σ.evq y with
    | some a, some b => bop T op t a b
    | _, _ => none⟩
  | .unOp op _ x => ⟨fun σ => match σ.evq x with
    | some a => uop op a
    | none => none⟩
  | .convert t t' x => ⟨fun σ => match σ.evq x with
    | some a => cop T t t' a
    | none => none⟩
  | .extract x i => ⟨fun σ => match σ.evq x with
    | some (.tup ss) => ss[i]?
    | _ => none⟩
  | .index t x y => ⟨fun σ => match σ.evq x, σ.evq y with
    | some a, some b => iop T t a b
    | _, _ => none⟩
  | .slice t x lo hi none => ⟨fun σ => match σ.evq x with
    | some a => sop T σ t lo hi a
    | none => none⟩
  | .indexAddr t (.global g) y => ⟨fun σ => match glob g, lk T.arr t, σ.evq y with
    | some cs, some (len, size), some (.val (.int _ i)) => match inb i len with
      | some k => some (.rbor 2999 (cs.drop (k * size)))
      | none => none
    | _, _, _ => none⟩
  | .fieldAddr t (.global g) f => ⟨fun _ => match glob g, lk T.fl t with
    | some cs, some l => match l[f]? with
      | some (off, _) => some (.rbor 2999 (cs.drop off))
      | none => none
    | _, _ => none⟩
  | .load t (.global g) => ⟨fun _ => match glob g with
    | some cs => ldv T t cs (.bor 2999)
    | none => none⟩
  | .indexAddr t x y => ⟨fun σ => match σ.evq x, σ.evq y with
    | some a, some b => aop T t a b
    | _, _ => none⟩
  | .fieldAddr t x f => ⟨fun σ => match σ.evq x, lk T.fl t with
    | some a, some l => match l[f]? with
      | some (off, _) => a.move off
      | none => none
    | _, _ => none⟩
  | .nilCheck x => ⟨fun σ => match σ.evq x with
    | some a => match a.move 0 with
      | some _ => some a
      | none => none
    | none => none⟩
  | .load t x => ⟨fun σ => match σ.evq x with
    | some a => lop T σ t a
    | none => none⟩
  | .field t x f => ⟨fun σ => match σ.evq x, lk T.fl t with
    | some (.val (.agg cs)), some l => match l[f]? with
      | some (off, ft) => match lk T.one ft with
        | some _ => (cs[off]?).map .val
        | none => match lk T.agg ft with
          | some k => some (.val (.agg ((cs.drop off).take k)))
          | none => none
      | none => none
    | _, _ => none⟩
  | .build t parts => ⟨fun σ => match lk T.bt t, σ.evpq parts.toList with
    | some (pl, zc), some ps => match fillP pl zc ps with
      | some cs => some (.val (.agg cs))
      | none => none
    | _, _ => none⟩
  | .lookup t x y ok => ⟨fun σ => match lk T.mp t, σ.evq x, σ.evq y with
    | some (kt, et), some (.map _ es), some (.val k) => match lk T.kd kt, lk T.zv et with
      | some tk, some z => bif keyOk tk k then (match findE tk k es 0 with
        | some r => some (lkRes z ok r)
        | none => none) else none
      | _, _ => none
    | _, _, _ => none⟩
  | .call ⟨.builtin .len, ⟨[x]⟩, ⟨[t]⟩⟩ => ⟨fun σ => match σ.evq x with
    | some (.map _ es) => match lk T.mp t with
      | some _ => some (.val (.int .i64 es.length))
      | none => none
    | some (.val (.str s)) => match lk T.kd t with
      | some .str => some (.val (.int .i64 s.length))
      | _ => none
    | some s => match s.pv, lk T.sl t with
      | some (.sl m _), some _ => some (.val (.int .i64 m))
      | _, _ => none
    | none => none⟩
  | _ => ⟨fun σ => none⟩
noncomputable def qval {P : Program} (T : TF P) (σ : St) (op : Op) : Option SV := (qc T op).f σ
theorem qval_ok (T : TF P) {op : Op} {s : SV} (h : qval T σ op = some s) (hd : d < n) : quietT P n ⟨some d, op, ty, pos, af, gd⟩ σ d s := by
  unfold qval qc at h
  split at h <;> dsimp only at h
  · rw [evq_eq] at h; exact q_move h hd
  · rw [evq_eq] at h; exact q_assign h hd
  · split at h
    · rename_i b hc
      rw [evq_eq] at hc
      refine q_pick hc ?_ hd
      rw [evq_eq, evq_eq] at h
      cases b <;> simpa using h
    · cases h
  · split at h
    · rename_i a b ha hb
      rw [evq_eq] at ha hb
      exact bop_ok T ha hb h hd
    · cases h
  · split at h
    · rename_i a ha; rw [evq_eq] at ha; exact uop_ok ha h hd
    · cases h
  · split at h
    · rename_i a ha; rw [evq_eq] at ha; exact cop_ok T ha h hd
    · cases h
  · split at h
    · rename_i ss ha; rw [evq_eq] at ha; exact q_extract ha h hd
    · cases h
  · split at h
    · rename_i a b ha hb; rw [evq_eq] at ha hb; exact iop_ok T ha hb h hd
    · cases h
  · split at h
    · rename_i a ha; rw [evq_eq] at ha; exact sop_ok T ha h hd
    · cases h
  · split at h
    · rename_i cs len size k' i hg har hy
      rw [evq_eq] at hy
      split at h
      · rename_i k hk
        simp only [Option.some.injEq] at h; subst h
        obtain ⟨h1, h2, rfl⟩ := inb_ok hk
        exact q_indexAddr_g (T.arrOf har) hg hy h1 h2 hd
      · cases h
    · cases h
  · split at h
    · rename_i cs l hg hl
      split at h
      · rename_i off ft hf
        simp only [Option.some.injEq] at h; subst h
        obtain ⟨fs, h1, h2⟩ := T.flOf hl
        exact q_fieldAddr_g (h2 _ _ _ hf).2 hg hd
      · cases h
    · cases h
  · split at h
    · rename_i cs hg
      rcases ldv_ok T h with ⟨h1, c, r, rfl, rfl⟩ | ⟨k, h1, h2, h3, rfl⟩
      · exact q_load_g h1 hg hd
      · exact q_load_agg_g h1 hg h2 h3 hd
    · cases h
  · split at h
    · rename_i a b ha hb; rw [evq_eq] at ha hb; exact aop_ok T ha hb h hd
    · cases h
  · split at h
    · rename_i a l ha hl
      rw [evq_eq] at ha
      split at h
      · rename_i off ft hf
        obtain ⟨fs, h1, h2⟩ := T.flOf hl
        exact q_fieldAddr (h2 _ _ _ hf).2 ha h hd
      · cases h
    · cases h
  · split at h
    · rename_i a ha
      rw [evq_eq] at ha
      split at h
      · rename_i r hm
        simp only [Option.some.injEq] at h; subst h
        exact q_nilCheck ha hm hd
      · cases h
    · cases h
  · split at h
    · rename_i a ha; rw [evq_eq] at ha; exact lop_ok T ha h hd
    · cases h
  · split at h
    · rename_i cs l ha hl
      rw [evq_eq] at ha
      split at h
      · rename_i off ft hf
        obtain ⟨fs, h1, h2⟩ := T.flOf hl
        obtain ⟨⟨fd, h3, h4, h5⟩, _⟩ := h2 _ _ _ hf
        split at h
        · rename_i ho
          obtain ⟨c, hc, rfl⟩ := Option.map_eq_some_iff.1 h
          exact q_field h1 h3 h4 (by rw [h5]; exact T.oneOf ho) ha hc hd
        · split at h
          · rename_i k hk
            simp only [Option.some.injEq] at h; subst h
            exact q_field_agg h1 h3 h4 (by rw [h5]; exact T.aggOf hk) ha hd
          · cases h
      · cases h
    · cases h
  · split at h
    · rename_i t parts pl zc ps hb hp
      split at h
      · rename_i cs hf
        simp only [Option.some.injEq] at h; subst h
        rw [evpq_eq] at hp
        have := q_build (P := P) (n := n) (ty := ty) (pos := pos) (af := af) (gd := gd) (T.btOf hb) hp hf hd
        simpa using this
      · cases h
    · cases h
  · split at h
    · rename_i kt et l es k hm ha hb
      rw [evq_eq] at ha hb
      split at h
      · rename_i tk z hk hz
        cases hko : keyOk tk k with
        | false => rw [hko] at h; cases h
        | true =>
          rw [hko] at h
          simp only [cond_true] at h
          split at h
          · rename_i r hf
            simp only [Option.some.injEq] at h; subst h
            exact q_lookup (T.mpOf hm) (T.kdOf hk) (T.zvOf hz) ha hb hko hf hd
          · cases h
      · cases h
    · cases h
  · split at h
    · rename_i l es ha
      rw [evq_eq] at ha
      split at h
      · rename_i x hm
        simp only [Option.some.injEq] at h; subst h
        exact q_len_map (T.mpOf (k := x.1) (e := x.2) hm) ha hd
      · cases h
    · rename_i s' ha
      rw [evq_eq] at ha
      split at h
      · rename_i hk
        simp only [Option.some.injEq] at h; subst h
        exact q_len_str (T.kdOf hk) ha hd
      · cases h
    · rename_i s' _ _ ha
      rw [evq_eq] at ha
      split at h
      · rename_i m cs x hpv hsl
        simp only [Option.some.injEq] at h; subst h
        exact q_len_sl (T.slOf (e := x.1) (s := x.2.1) (b := x.2.2.1) (z := x.2.2.2) hsl).1 ha hpv hd
      · cases h
    · cases h
  · cases h
end
end Go.Proofs.YtfagllolcalfiabDoor
