/- The operations on numbers, bools and texts over the pure state; calls of the builtin len; a tuple's parts. Own work; no conditions; nothing here is about one program. -/
import Derived.Test.YtfagllolcalfiabDoorPwB
namespace Go.Proofs.YtfagllolcalfiabDoor
open Go.RowKit
section
variable {P : Program} {n : Nat} {σ : St} {K : St → Prop}
theorem Sim.put {C : Ctx} {a : Act} {w : World} {G : Gh} (hS : Sim n C σ a w) (hG : G.fits C w) (hE : Env C σ a w G) {d : Nat} (hd : d < n) {x : SV} {v : Value} (hv : Ok C w G x v) :
    Sim n C ((d, x) :: σ) (a.put (some d) v) w := by
  refine ⟨hS.fp, hS.below, hS.dfs, by simpa [Act.put] using hS.size, G, hG, fun s y hy => ?_⟩
  have hsz : d < a.tmps.size := by rw [hS.size]; exact hd
  simp only [St.at] at hy
  split at hy
  · rename_i he; subst he
    cases hy
    simpa [Act.put, Array.getD_eq_getD_getElem?, Array.getElem?_setIfInBounds, hsz] using hv
  · rename_i hne
    have := hE s y hy
    simp only [Act.put, Array.getD_eq_getD_getElem?] at this ⊢
    rw [Array.getElem?_setIfInBounds_ne hne]
    exact this
def quietT (P : Program) (n : Nat) (o : Oper) (σ : St) (d : Nat) (x : SV) : Prop :=
  o.dst = some d ∧ d < n ∧ ∀ C a w G, Sim n C σ a w → G.fits C w → Env C σ a w G →
    ∃ v, (∀ w2, Below w.heap.size w w2 → (execOp a.eval o).run P w2 = .ok (.value v) w2) ∧ Ok C w G x v
theorem op_q {o : Oper} {d : Nat} {x : SV} (h : quietT P n o σ d x) (hK : K ((d, x) :: σ)) : opT P n o σ K := by
  intro C a w hS K' Q hK'
  obtain ⟨hd, hdn, hrun⟩ := h
  obtain ⟨G, hG, hE⟩ := hS.gh
  obtain ⟨v, hr, hv⟩ := hrun C a w G hS hG hE
  unfold Oper.wp
  rw [hr w (Below.refl _ _), Oper.upon_value, hd]
  exact hK' _ _ _ hK (hS.put hG hE hdn hv)
variable {d : Nat} {ty : TypeId} {pos : String} {af : Array Edge} {gd : Option (Nat × Bool)}
theorem q_move {x : Operand} {s : SV} (hx : σ.ev x = some s) (hd : d < n) : quietT P n ⟨some d, .move x, ty, pos, af, gd⟩ σ d (s) :=
  ⟨rfl, hd, fun _ a _ _ _ _ hE => ⟨a.eval x, fun _ _ => rfl, hE.ev hx⟩⟩
theorem q_assign {x : Operand} {s : SV} (hx : σ.ev x = some s) (hd : d < n) : quietT P n ⟨some d, .assign x, ty, pos, af, gd⟩ σ d (s) :=
  ⟨rfl, hd, fun _ a _ _ _ _ hE => ⟨a.eval x, fun _ _ => rfl, hE.ev hx⟩⟩
theorem q_pick {c x y : Operand} {b : Bool} {s : SV} (hc : σ.ev c = some (.val (.bool b))) (hx : σ.ev (if b then x else y) = some s) (hd : d < n) : quietT P n ⟨some d, .pick c x y, ty, pos, af, gd⟩ σ d s := by
  refine ⟨rfl, hd, fun C a w G hS hG hE => ⟨a.eval (if b then x else y), fun _ _ => ?_, hE.ev hx⟩⟩
  have h := hE.ev hc
  simp only [Ok, Rep] at h
  cases b <;> simp [execOp, h, asBool]
def iand (k : IntKind) (x y : Int) : Int := k.wrap (BitVec.ofInt k.bits x &&& BitVec.ofInt k.bits y).toNat
def ior (k : IntKind) (x y : Int) : Int := k.wrap (BitVec.ofInt k.bits x ||| BitVec.ofInt k.bits y).toNat
def ixor (k : IntKind) (x y : Int) : Int := k.wrap (BitVec.ofInt k.bits x ^^^ BitVec.ofInt k.bits y).toNat
def iandNot (k : IntKind) (x y : Int) : Int := k.wrap (BitVec.ofInt k.bits x &&& ~~~ BitVec.ofInt k.bits y).toNat
def ib : BinOp → IntKind → Int → Int → Option PV
  | .add, k, x, y => some (.int k (k.wrap (x + y)))
  | .sub, k, x, y => some (.int k (k.wrap (x - y)))
  | .mul, k, x, y => some (.int k (k.wrap (x * y)))
  | .and, k, x, y => some (.int k (iand k x y))
  | .or, k, x, y => some (.int k (ior k x y))
  | .xor, k, x, y => some (.int k (ixor k x y))
  | .andNot, k, x, y => some (.int k (iandNot k x y))
  | .eql, _, x, y => some (.bool (x == y))
  | .neq, _, x, y => some (.bool (x != y))
  | .lss, _, x, y => some (.bool (x < y))
  | .leq, _, x, y => some (.bool (x ≤ y))
  | .gtr, _, x, y => some (.bool (x > y))
  | .geq, _, x, y => some (.bool (x ≥ y))
  | _, _, _, _ => none
theorem q_ib {op : BinOp} {t t' : TypeId} {x y : Operand} {k : IntKind} {i j : Int} {p : PV} (hx : σ.ev x = some (.val (.int k i))) (hy : σ.ev y = some (.val (.int k j))) (hp : ib op k i j = some p) (hd : d < n) : quietT P n ⟨some d, .binOp op t x y t', ty, pos, af, gd⟩ σ d (.val p) := by
  refine ⟨rfl, hd, fun C a w G hS hG hE => ?_⟩
  have h1 := hE.ev hx
  have h2 := hE.ev hy
  simp only [Ok, Rep] at h1 h2
  cases op <;> simp only [ib, Option.some.injEq, reduceCtorEq] at hp <;> subst hp <;>
    exact ⟨_, fun _ _ => by simp [execOp, h1, h2, eqGuard, binOp, Op.intArith, Op.intBits, Op.intCmp]; rfl, by simp [Ok, Rep, iand, ior, ixor, iandNot]⟩
theorem q_quo {t t' : TypeId} {x y : Operand} {k : IntKind} {i j : Int} (hx : σ.ev x = some (.val (.int k i))) (hy : σ.ev y = some (.val (.int k j))) (hj : j ≠ 0) (hd : d < n) : quietT P n ⟨some d, .binOp .quo t x y t', ty, pos, af, gd⟩ σ d (.val (.int k (k.wrap (i.tdiv j)))) := by
  refine ⟨rfl, hd, fun C a w G hS hG hE => ?_⟩
  have h1 := hE.ev hx
  have h2 := hE.ev hy
  simp only [Ok, Rep] at h1 h2
  exact ⟨_, fun _ _ => by simp [execOp, h1, h2, eqGuard, binOp, Op.intDiv, hj]; rfl, by simp [Ok, Rep]⟩
theorem q_rem {t t' : TypeId} {x y : Operand} {k : IntKind} {i j : Int} (hx : σ.ev x = some (.val (.int k i))) (hy : σ.ev y = some (.val (.int k j))) (hj : j ≠ 0) (hd : d < n) : quietT P n ⟨some d, .binOp .rem t x y t', ty, pos, af, gd⟩ σ d (.val (.int k (i.tmod j))) := by
  refine ⟨rfl, hd, fun C a w G hS hG hE => ?_⟩
  have h1 := hE.ev hx
  have h2 := hE.ev hy
  simp only [Ok, Rep] at h1 h2
  exact ⟨_, fun _ _ => by simp [execOp, h1, h2, eqGuard, binOp, Op.intDiv, hj]; rfl, by simp [Ok, Rep]⟩
theorem q_shl {t t' : TypeId} {x y : Operand} {k k' : IntKind} {i j : Int} (hx : σ.ev x = some (.val (.int k i))) (hy : σ.ev y = some (.val (.int k' j))) (hj : 0 ≤ j) (hd : d < n) : quietT P n ⟨some d, .binOp .shl t x y t', ty, pos, af, gd⟩ σ d (.val (.int k (k.wrap (i * 2 ^ (min j.toNat k.bits))))) := by
  refine ⟨rfl, hd, fun C a w G hS hG hE => ?_⟩
  have h1 := hE.ev hx
  have h2 := hE.ev hy
  simp only [Ok, Rep] at h1 h2
  exact ⟨_, fun _ _ => by simp [execOp, h1, h2, eqGuard, binOp, Op.shift, show ¬ j < 0 by omega]; rfl, by simp [Ok, Rep]⟩
theorem q_shr {t t' : TypeId} {x y : Operand} {k k' : IntKind} {i j : Int} (hx : σ.ev x = some (.val (.int k i))) (hy : σ.ev y = some (.val (.int k' j))) (hj : 0 ≤ j) (hd : d < n) : quietT P n ⟨some d, .binOp .shr t x y t', ty, pos, af, gd⟩ σ d (.val (.int k (i.fdiv (2 ^ (min j.toNat k.bits))))) := by
  refine ⟨rfl, hd, fun C a w G hS hG hE => ?_⟩
  have h1 := hE.ev hx
  have h2 := hE.ev hy
  simp only [Ok, Rep] at h1 h2
  exact ⟨_, fun _ _ => by simp [execOp, h1, h2, eqGuard, binOp, Op.shift, show ¬ j < 0 by omega]; rfl, by simp [Ok, Rep]⟩
def sb : BinOp → List UInt8 → List UInt8 → Option PV
  | .eql, x, y => some (.bool (x == y))
  | .neq, x, y => some (.bool (!(x == y)))
  | .lss, x, y => some (.bool (Op.bytesLess x y))
  | .leq, x, y => some (.bool (Op.bytesLess x y || x == y))
  | .gtr, x, y => some (.bool !(Op.bytesLess x y || x == y))
  | .geq, x, y => some (.bool !(Op.bytesLess x y))
  | _, _, _ => none
theorem q_sb {op : BinOp} {t t' : TypeId} {x y : Operand} {i j : List UInt8} {p : PV} (hx : σ.ev x = some (.val (.str i))) (hy : σ.ev y = some (.val (.str j))) (hp : sb op i j = some p) (hd : d < n) : quietT P n ⟨some d, .binOp op t x y t', ty, pos, af, gd⟩ σ d (.val p) := by
  refine ⟨rfl, hd, fun C a w G hS hG hE => ?_⟩
  have h1 := hE.ev hx
  have h2 := hE.ev hy
  simp only [Ok, Rep] at h1 h2
  cases op <;> simp only [sb, Option.some.injEq, reduceCtorEq] at hp <;> subst hp <;>
    exact ⟨_, fun _ _ => by simp [execOp, h1, h2, eqGuard, binOp, Op.stringOp]; rfl, by simp [Ok, Rep]⟩
theorem q_cat {t t' : TypeId} {x y : Operand} {i j : List UInt8} (hx : σ.ev x = some (.val (.str i))) (hy : σ.ev y = some (.val (.str j))) (hlen : i.length + j.length ≤ 9223372036854775807) (hd : d < n) : quietT P n ⟨some d, .binOp .add t x y t', ty, pos, af, gd⟩ σ d (.val (.str (i ++ j))) := by
  refine ⟨rfl, hd, fun C a w G hS hG hE => ?_⟩
  have h1 := hE.ev hx
  have h2 := hE.ev hy
  simp only [Ok, Rep] at h1 h2
  refine ⟨.string (.mk (i ++ j).toArray), fun _ _ => ?_, by simp [Ok, Rep]⟩
  have he : (ByteArray.mk i.toArray ++ ByteArray.mk j.toArray) = ByteArray.mk (i ++ j).toArray := by
    apply ByteArray.ext; simp
  simp [execOp, h1, h2, eqGuard, binOp, Op.stringOp, ByteArray.size, he]
  omega
theorem q_bb {op : BinOp} {t t' : TypeId} {x y : Operand} {i j : Bool} (ht : P.underlying t = some .bool) (hop : op = .eql ∨ op = .neq) (hx : σ.ev x = some (.val (.bool i))) (hy : σ.ev y = some (.val (.bool j))) (hd : d < n) : quietT P n ⟨some d, .binOp op t x y t', ty, pos, af, gd⟩ σ d (.val (.bool (if op = .eql then i == j else i != j))) := by
  refine ⟨rfl, hd, fun C a w G hS hG hE => ?_⟩
  have h1 := hE.ev hx
  have h2 := hE.ev hy
  simp only [Ok, Rep] at h1 h2
  have he := fun w => run_equal_bool (P := P) w t i j ht
  rcases hop with rfl | rfl
  · exact ⟨.bool (i == j), fun _ _ => by simp [execOp, h1, h2, eqGuard, binOp, he], by simp [Ok, Rep]⟩
  · exact ⟨.bool (!(i == j)), fun _ _ => by simp [execOp, h1, h2, eqGuard, binOp, he], by simp [Ok, Rep, bne]⟩
theorem q_not {t : TypeId} {x : Operand} {b : Bool} (hx : σ.ev x = some (.val (.bool b))) (hd : d < n) : quietT P n ⟨some d, .unOp .not t x, ty, pos, af, gd⟩ σ d (.val (.bool (!b))) := by
  refine ⟨rfl, hd, fun C a w G hS hG hE => ?_⟩
  have h1 := hE.ev hx
  simp only [Ok, Rep] at h1
  exact ⟨_, fun _ _ => by simp [execOp, h1, Op.unary]; rfl, by simp [Ok, Rep]⟩
theorem q_neg {t : TypeId} {x : Operand} {k : IntKind} {i : Int} (hx : σ.ev x = some (.val (.int k i))) (hd : d < n) : quietT P n ⟨some d, .unOp .neg t x, ty, pos, af, gd⟩ σ d (.val (.int k (k.wrap (0 - i)))) := by
  refine ⟨rfl, hd, fun C a w G hS hG hE => ?_⟩
  have h1 := hE.ev hx
  simp only [Ok, Rep] at h1
  exact ⟨_, fun _ _ => by simp [execOp, h1, Op.unary, Op.intArith]; rfl, by simp [Ok, Rep]⟩
theorem q_conv {t t' : TypeId} {x : Operand} {k k' : IntKind} {i : Int} (hs : (P.underlying t).isSome = true) (ht : P.underlying t' = some (.int k')) (hx : σ.ev x = some (.val (.int k i))) (hd : d < n) : quietT P n ⟨some d, .convert t t' x, ty, pos, af, gd⟩ σ d (.val (.int k' (k'.wrap i))) := by
  refine ⟨rfl, hd, fun C a w G hS hG hE => ?_⟩
  have h1 := hE.ev hx
  simp only [Ok, Rep] at h1
  obtain ⟨u, hu⟩ := Option.isSome_iff_exists.mp hs
  exact ⟨_, fun _ _ => by simp [execOp, h1, convert, run_underlying hu, run_underlying ht, Conv.intToInt]; rfl, by simp [Ok, Rep]⟩
theorem q_len_str {t : TypeId} {x : Operand} {s : List UInt8} (ht : P.underlying t = some .string) (hx : σ.ev x = some (.val (.str s))) (hd : d < n) : quietT P n ⟨some d, .call { callee := .builtin .len, args := #[x], argTypes := #[t] }, ty, pos, af, gd⟩ σ d (.val (.int .i64 s.length)) := by
  refine ⟨rfl, hd, fun C a w G hS hG hE => ?_⟩
  have h1 := hE.ev hx
  simp only [Ok, Rep] at h1
  exact ⟨_, fun _ _ => by simp [execOp, resolve, invoke, builtin, h1, run_len_string _ t ty _ ht, goInt]; rfl, by simp [Ok, Rep, ByteArray.size]⟩
theorem q_index_str {t : TypeId} {x y : Operand} {k : IntKind} {s : List UInt8} {i : Int} (ht : P.underlying t = some .string) (hx : σ.ev x = some (.val (.str s))) (hy : σ.ev y = some (.val (.int k i))) (h0 : 0 ≤ i) (h1 : i < s.length) (hd : d < n) : quietT P n ⟨some d, .index t x y, ty, pos, af, gd⟩ σ d (.val (.int .u8 (s.getD i.toNat 0).toNat)) := by
  refine ⟨rfl, hd, fun C a w G hS hG hE => ?_⟩
  have e1 := hE.ev hx
  have e2 := hE.ev hy
  simp only [Ok, Rep] at e1 e2
  have hlt : i.toNat < s.length := by omega
  refine ⟨.int .u8 (s.getD i.toNat 0).toNat, fun w2 _ => ?_, by simp [Ok, Rep]⟩
  simp only [execOp, e1, e2, Sem.run_bind, run_index_string w2 t _ k i ht]
  have hc : 0 ≤ i ∧ i < ((ByteArray.mk s.toArray).size : Int) := ⟨h0, by simpa [ByteArray.size] using h1⟩
  rw [dif_pos hc]
  simp only [Result.andThen_ok, Sem.run_pure]
  have : (ByteArray.mk s.toArray)[i.toNat]'(by simpa [ByteArray.size] using hlt) = s.getD i.toNat 0 := by
    show s.toArray[i.toNat]'_ = _
    simp [hlt]
  rw [this]
theorem q_slice_str {t : TypeId} {x : Operand} {lo hi : Option Operand} {s : List UInt8} {i j : Int} (ht : P.underlying t = some .string) (hx : σ.ev x = some (.val (.str s)))
    (hl : match lo with | none => i = 0 | some l => ∃ k, σ.ev l = some (.val (.int k i))) (hh : match hi with | none => j = s.length | some h => ∃ k, σ.ev h = some (.val (.int k j)))
    (h0 : 0 ≤ i) (h1 : i ≤ j) (h2 : j ≤ s.length) (hd : d < n) : quietT P n ⟨some d, .slice t x lo hi none, ty, pos, af, gd⟩ σ d (.val (.str ((s.drop i.toNat).take (j.toNat - i.toNat)))) := by
  refine ⟨rfl, hd, fun C a w G hS hG hE => ?_⟩
  have e1 := hE.ev hx
  simp only [Ok, Rep] at e1
  refine ⟨.string (.mk ((s.drop i.toNat).take (j.toNat - i.toNat)).toArray), fun w _ => ?_, by simp [Ok, Rep]⟩
  have hsz : (ByteArray.mk s.toArray).size = s.length := by simp [ByteArray.size]
  have hj : 0 ≤ j ∧ j ≤ (s.length : Int) := ⟨by omega, h2⟩
  have hi' : 0 ≤ i ∧ i ≤ ((j.toNat : Nat) : Int) := ⟨h0, by omega⟩
  have hx' := ByteArray.extract_mk s i.toNat j.toNat
  have hlb : ∀ (y : Nat), i ≤ y → ∀ code, match lo with | none => True | some l => (Instr.sliceBound (a.eval l) y code).run P w = .ok i.toNat w := by
    intro y hy code
    cases lo with
    | none => trivial
    | some l =>
      obtain ⟨k, hk⟩ := hl
      have e2 := hE.ev hk
      simp only [Ok, Rep] at e2
      simp [Instr.sliceBound, asIntOf, e2, h0, hy]
  have hhb : ∀ code, match hi with | none => True | some h => (Instr.sliceBound (a.eval h) s.length code).run P w = .ok j.toNat w := by
    intro code
    cases hi with
    | none => trivial
    | some h =>
      obtain ⟨k, hk⟩ := hh
      have e2 := hE.ev hk
      simp only [Ok, Rep] at e2
      simp [Instr.sliceBound, asIntOf, e2, hj]
  cases lo <;> cases hi <;> simp only at hl hh hlb hhb
  · subst hl; subst hh
    simp [execOp, e1, Instr.sliceAt, Instr.slice, Instr.sliceBounds, run_underlying ht] at hx' ⊢
  · subst hl
    simp [execOp, e1, Instr.sliceAt, Instr.slice, Instr.sliceBounds, run_underlying ht, hsz, hhb] at hx' ⊢
    simpa using hx'
  · subst hh
    have := hlb s.length h1
    simp at this hx'
    simp [execOp, e1, Instr.sliceAt, Instr.slice, Instr.sliceBounds, run_underlying ht, hsz, this]
    exact hx'
  · have := hlb j.toNat hi'.2
    simp [execOp, e1, Instr.sliceAt, Instr.slice, Instr.sliceBounds, run_underlying ht, hsz, hhb, this]
    exact hx'
theorem q_extract {x : Operand} {ss : List SV} {i : Nat} {s : SV} (hx : σ.ev x = some (.tup ss)) (hi : ss[i]? = some s) (hd : d < n) : quietT P n ⟨some d, .extract x i, ty, pos, af, gd⟩ σ d (s) := by
  refine ⟨rfl, hd, fun C a w G hS hG hE => ?_⟩
  have h1 := hE.ev hx
  simp only [Ok] at h1
  obtain ⟨vs, hv, hL⟩ := h1
  have key : ∀ (ss : List SV) (vs : List Value) (i : Nat), OkL C w G ss vs → ss[i]? = some s → ∃ v, vs[i]? = some v ∧ Ok C w G s v := by
    intro ss
    induction ss with
    | nil => intro vs i _ h; simp at h
    | cons y ys ih =>
      intro vs i h hs
      obtain ⟨v, r, rfl, h1, h2⟩ := h
      cases i with
      | zero => simp at hs; subst hs; exact ⟨v, rfl, h1⟩
      | succ i => simpa using ih r i h2 (by simpa using hs)
  obtain ⟨v, hv', hok⟩ := key ss vs i hL hi
  exact ⟨v, fun _ _ => by simp [execOp, hv, Instr.extract, hv'], hok⟩
end
end Go.Proofs.YtfagllolcalfiabDoor
