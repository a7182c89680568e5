/- A layer over the walk's calculus in which a slice is a list: pure values, what a slot of a frame holds, and the relation between such a state and the model's frame and world. Own work; no conditions; nothing here is about one program. -/
import Derived.Test.YtfagllolcalfiabDoorPwZ
import Derived.WalkKit
import Derived.WalkSpells
import Derived.WalkLawsBesides
import Derived.Lib.Hide
import Derived.Lib.FrozenHead
namespace Go.Proofs.YtfagllolcalfiabDoor
open Go.RowKit
def PV.one : PV → Bool
  | .agg _ => false
  | _ => true
def cstV : Nat → Value
  | 0 => .slice none 0 0
  | 1 => .nilIface
  | 3 => .map none
  | _ => .nilFunc
def entV : List MapEntry → List Value
  | [] => []
  | e :: r => e.key :: e.val :: entV r
mutual
def Rep (w : World) (F : Nat → Prop) : PV → Value → Prop
  | .bool b, v => v = .bool b
  | .int k n, v => v = .int k n
  | .str s, v => v = .string (.mk s.toArray)
  | .sl n cs, v => (v = .slice none 0 0 ∧ n = 0 ∧ cs = []) ∨
      ∃ b off cap vs, v = .slice (some ⟨b, off, none⟩) n cap ∧ F b ∧ n ≤ cap ∧
        (∀ j u, vs[j]? = some u → w.cell? ⟨b, off + j, none⟩ = some u) ∧ RepL w F cs vs
  | .agg cs, v => ∃ vs, v = .agg vs.toArray ∧ RepL w F cs vs
  | .ptr cs, v => ∃ b off vs, v = .pointer (some ⟨b, off, none⟩) ∧ F b ∧ (∀ j u, vs[j]? = some u → w.cell? ⟨b, off + j, none⟩ = some u) ∧ RepL w F cs vs
  | .clo f cs, v => ∃ vs, v = .func (.func f) #[] vs.toArray ∧ RepL w F cs vs
  | .cst k, v => v = cstV k
  | .ifc, v => ∃ t u, v = .iface t u
  | .mth f cs, v => ∃ vs, v = .func (.func f) vs.toArray #[] ∧ RepL w F cs vs
  | .mp cs, v => ∃ b arr clock, v = .map (some b) ∧ F b ∧ w.heap[b]? = some (.map arr clock) ∧ RepL w F cs (entV arr.toList)
def RepL (w : World) (F : Nat → Prop) : List PV → List Value → Prop
  | [], vs => vs = []
  | c :: cs, vs => ∃ v r, vs = v :: r ∧ c.one = true ∧ Rep w F c v ∧ RepL w F cs r
end
mutual
theorem Rep.mono {w w' : World} {F F' : Nat → Prop} (hF : ∀ b, F b → F' b) (hw : ∀ b, F b → w'.heap[b]? = w.heap[b]?) :
    ∀ (p : PV) (v : Value), Rep w F p v → Rep w' F' p v
  | .bool b, v, h => by simpa [Rep] using h
  | .int k n, v, h => by simpa [Rep] using h
  | .str s, v, h => by simpa [Rep] using h
  | .sl n cs, v, h => by
    simp only [Rep] at h ⊢
    rcases h with h | ⟨b, off, cap, vs, hv, hb, hn, hc, hr⟩
    · exact .inl h
    · refine .inr ⟨b, off, cap, vs, hv, hF _ hb, hn, fun j u hu => ?_, RepL.mono hF hw cs vs hr⟩
      rw [← hc j u hu]; exact World.cell?_of_block (hw b hb)
  | .agg cs, v, h => by
    simp only [Rep] at h ⊢
    obtain ⟨vs, hv, hr⟩ := h
    exact ⟨vs, hv, RepL.mono hF hw cs vs hr⟩
  | .ptr cs, v, h => by
    simp only [Rep] at h ⊢
    obtain ⟨b, off, vs, hv, hb, hc, hr⟩ := h
    exact ⟨b, off, vs, hv, hF _ hb, fun j u hu => by rw [← hc j u hu]; exact World.cell?_of_block (hw b hb), RepL.mono hF hw cs vs hr⟩
  | .clo f cs, v, h => by
    simp only [Rep] at h ⊢
    obtain ⟨vs, hv, hr⟩ := h
    exact ⟨vs, hv, RepL.mono hF hw cs vs hr⟩
  | .cst k, v, h => by simpa [Rep] using h
  | .ifc, v, h => by simpa [Rep] using h
  | .mth f cs, v, h => by
    simp only [Rep] at h ⊢
    obtain ⟨vs, hv, hr⟩ := h
    exact ⟨vs, hv, RepL.mono hF hw cs vs hr⟩
  | .mp cs, v, h => by
    simp only [Rep] at h ⊢
    obtain ⟨b, arr, clock, hv, hb, hh, hr⟩ := h
    exact ⟨b, arr, clock, hv, hF _ hb, by rw [hw b hb]; exact hh, RepL.mono hF hw cs _ hr⟩
theorem RepL.mono {w w' : World} {F F' : Nat → Prop} (hF : ∀ b, F b → F' b) (hw : ∀ b, F b → w'.heap[b]? = w.heap[b]?) :
    ∀ (cs : List PV) (vs : List Value), RepL w F cs vs → RepL w' F' cs vs
  | [], vs, h => by simpa [RepL] using h
  | c :: cs, vs, h => by
    simp only [RepL] at h ⊢
    obtain ⟨v, r, hv, ho, h1, h2⟩ := h
    exact ⟨v, r, hv, ho, Rep.mono hF hw c v h1, RepL.mono hF hw cs r h2⟩
end
theorem RepL.length {w : World} {F : Nat → Prop} : ∀ {cs : List PV} {vs : List Value}, RepL w F cs vs → vs.length = cs.length
  | [], vs, h => by simp only [RepL] at h; simp [h]
  | c :: cs, vs, h => by
    simp only [RepL] at h
    obtain ⟨v, r, rfl, _, _, h2⟩ := h
    simp [RepL.length h2]
theorem RepL.append {w : World} {F : Nat → Prop} : ∀ {cs ds : List PV} {vs us : List Value}, RepL w F cs vs → RepL w F ds us → RepL w F (cs ++ ds) (vs ++ us)
  | [], ds, vs, us, h, k => by simp only [RepL] at h; subst h; simpa using k
  | c :: cs, ds, vs, us, h, k => by
    simp only [RepL] at h
    obtain ⟨v, r, rfl, ho, h1, h2⟩ := h
    exact ⟨v, r ++ us, rfl, ho, h1, RepL.append h2 k⟩
theorem RepL.get {w : World} {F : Nat → Prop} : ∀ {cs : List PV} {vs : List Value}, RepL w F cs vs → ∀ (j : Nat) (c : PV), cs[j]? = some c →
    ∃ v, vs[j]? = some v ∧ c.one = true ∧ Rep w F c v
  | [], vs, h, j, c, hc => by simp at hc
  | c :: cs, vs, h, j, d, hd => by
    simp only [RepL] at h
    obtain ⟨v, r, rfl, ho, h1, h2⟩ := h
    cases j with
    | zero => simp at hd; subst hd; exact ⟨v, rfl, ho, h1⟩
    | succ j => simpa using RepL.get h2 j d (by simpa using hd)
theorem RepL.drop {w : World} {F : Nat → Prop} : ∀ {cs : List PV} {vs : List Value}, RepL w F cs vs → ∀ k, RepL w F (cs.drop k) (vs.drop k)
  | cs, vs, h, 0 => by simpa using h
  | [], vs, h, k + 1 => by simp only [RepL] at h; subst h; simp [RepL]
  | c :: cs, vs, h, k + 1 => by
    simp only [RepL] at h
    obtain ⟨v, r, rfl, ho, h1, h2⟩ := h
    simpa using RepL.drop h2 k
theorem RepL.take {w : World} {F : Nat → Prop} : ∀ {cs : List PV} {vs : List Value}, RepL w F cs vs → ∀ k, RepL w F (cs.take k) (vs.take k)
  | cs, vs, h, 0 => by simp [RepL]
  | [], vs, h, k + 1 => by simp only [RepL] at h; subst h; simp [RepL]
  | c :: cs, vs, h, k + 1 => by
    simp only [RepL] at h
    obtain ⟨v, r, rfl, ho, h1, h2⟩ := h
    exact ⟨v, r.take k, rfl, ho, h1, RepL.take h2 k⟩
theorem RepL.set {w : World} {F : Nat → Prop} : ∀ {cs : List PV} {vs : List Value}, RepL w F cs vs → ∀ k (c : PV) (v : Value), c.one = true → Rep w F c v → RepL w F (cs.set k c) (vs.set k v)
  | [], vs, h, k, c, v, _, _ => by simp only [RepL] at h; subst h; simp [RepL]
  | d :: cs, vs, h, 0, c, v, ho', hr => by
    simp only [RepL] at h
    obtain ⟨u, r, rfl, ho, h1, h2⟩ := h
    exact ⟨v, r, rfl, ho', hr, h2⟩
  | d :: cs, vs, h, k + 1, c, v, ho', hr => by
    simp only [RepL] at h
    obtain ⟨u, r, rfl, ho, h1, h2⟩ := h
    exact ⟨u, r.set k v, rfl, ho, h1, RepL.set h2 k c v ho' hr⟩
theorem Rep.oneCell {w : World} {F : Nat → Prop} {p : PV} {v : Value} (h : Rep w F p v) (ho : p.one = true) : v.oneCell' = true := by
  cases p with
  | bool b => simp only [Rep] at h; subst h; rfl
  | int k n => simp only [Rep] at h; subst h; rfl
  | str s => simp only [Rep] at h; subst h; rfl
  | sl n cs => simp only [Rep] at h; rcases h with ⟨rfl, _⟩ | ⟨b, off, cap, vs, rfl, _⟩ <;> rfl
  | agg cs => simp [PV.one] at ho
  | ptr cs => simp only [Rep] at h; obtain ⟨b, off, vs, rfl, _⟩ := h; rfl
  | clo f cs => simp only [Rep] at h; obtain ⟨vs, rfl, _⟩ := h; rfl
  | cst k => simp only [Rep] at h; subst h; unfold cstV; split <;> rfl
  | ifc => simp only [Rep] at h; obtain ⟨t, u, rfl⟩ := h; rfl
  | mth f cs => simp only [Rep] at h; obtain ⟨vs, rfl, _⟩ := h; rfl
  | mp cs => simp only [Rep] at h; obtain ⟨b, arr, clock, rfl, _⟩ := h; rfl
theorem RepL.oneCells {w : World} {F : Nat → Prop} : ∀ {cs : List PV} {vs : List Value}, RepL w F cs vs → ∀ u ∈ vs, u.oneCell' = true
  | [], vs, h, u, hu => by simp only [RepL] at h; subst h; simp at hu
  | c :: cs, vs, h, u, hu => by
    simp only [RepL] at h
    obtain ⟨v, r, rfl, ho, h1, h2⟩ := h
    rcases List.mem_cons.1 hu with rfl | hu
    · exact h1.oneCell ho
    · exact RepL.oneCells h2 u hu
def PV.cells : PV → List PV
  | .agg cs => cs
  | p => [p]
theorem Rep.cells {w : World} {F : Nat → Prop} {p : PV} {v : Value} (h : Rep w F p v) : RepL w F p.cells v.cells.toList := by
  cases p with
  | bool b => simp only [Rep] at h; subst h; simp [PV.cells, Value.cells, RepL, PV.one, Rep]
  | int k n => simp only [Rep] at h; subst h; simp [PV.cells, Value.cells, RepL, PV.one, Rep]
  | str s => simp only [Rep] at h; subst h; simp [PV.cells, Value.cells, RepL, PV.one, Rep]
  | sl n cs =>
    have h' := h
    simp only [Rep] at h'
    have hc : v.cells = #[v] := by rcases h' with ⟨rfl, _⟩ | ⟨b, off, cap, vs, rfl, _⟩ <;> rfl
    rw [hc]
    exact ⟨v, [], rfl, rfl, h, rfl⟩
  | agg cs =>
    simp only [Rep] at h
    obtain ⟨vs, rfl, hr⟩ := h
    simpa [PV.cells, Value.cells] using hr
  | ptr cs =>
    have h' := h
    simp only [Rep] at h'
    have hc : v.cells = #[v] := by obtain ⟨b, off, vs, rfl, _⟩ := h'; rfl
    rw [hc]
    exact ⟨v, [], rfl, rfl, h, rfl⟩
  | clo f cs =>
    have h' := h
    simp only [Rep] at h'
    have hc : v.cells = #[v] := by obtain ⟨vs, rfl, _⟩ := h'; rfl
    rw [hc]
    exact ⟨v, [], rfl, rfl, h, rfl⟩
  | cst k =>
    have h' := h
    simp only [Rep] at h'
    have hc : v.cells = #[v] := by subst h'; unfold cstV; split <;> rfl
    rw [hc]
    exact ⟨v, [], rfl, rfl, h, rfl⟩
  | ifc =>
    have h' := h
    simp only [Rep] at h'
    have hc : v.cells = #[v] := by obtain ⟨t, u, rfl⟩ := h'; rfl
    rw [hc]
    exact ⟨v, [], rfl, rfl, h, rfl⟩
  | mth f cs =>
    have h' := h
    simp only [Rep] at h'
    have hc : v.cells = #[v] := by obtain ⟨vs, rfl, _⟩ := h'; rfl
    rw [hc]
    exact ⟨v, [], rfl, rfl, h, rfl⟩
  | mp cs =>
    have h' := h
    simp only [Rep] at h'
    have hc : v.cells = #[v] := by obtain ⟨b, arr, clock, rfl, _⟩ := h'; rfl
    rw [hc]
    exact ⟨v, [], rfl, rfl, h, rfl⟩
def GlP (w : World) (ex : Nat → Prop) : Prop := ∀ g cs, glob g = some cs → ∃ vs, (∃ e fr, w.heap[g]? = some (.cells vs.toArray e fr)) ∧ ex g ∧ RepL w ex cs vs
theorem GlP.mono {w w' : World} {ex ex' : Nat → Prop} (h : GlP w ex) (hw : ∀ b, ex b → w'.heap[b]? = w.heap[b]?) (he : ∀ b, ex b → ex' b) : GlP w' ex' := fun g cs hg => by
  obtain ⟨vs, ⟨e, fr, h1⟩, h2, h3⟩ := h g cs hg
  exact ⟨vs, ⟨e, fr, by rw [hw g h2]; exact h1⟩, he g h2, RepL.mono he hw cs vs h3⟩
structure Ctx where
  w0 : World
  X : Nat → Prop
  X0 : Nat → Prop
  Fp : Nat → Nat → Prop
  ex : Nat → Prop
  pin : Nat
  D : List Nat
  ro : Option Nat
  gl : GlP w0 ex
  xlt : ∀ b, X b → b < w0.heap.size
  x0 : ∀ b, X0 b → X b
  dn : D.Nodup
  dok : ∀ b ∈ D, w0.heap[b]? = some (.deferred (some [])) ∧ ¬ X b
  rok : ∀ l, ro = some l → (∃ r, w0.heap[l]? = some (.loop r)) ∧ ¬ X l
abbrev Ctx.B (C : Ctx) : Nat := C.w0.heap.size
def Ctx.marks (C : Ctx) : List Deferred := C.D.map fun b => { target := .collected b, args := #[] }
def Ctx.plain (C : Ctx) : Prop := C.D = [] ∧ C.ro = none ∧ ∀ b, C.X b → C.X0 b
def Ctx.old (C : Ctx) (b : Nat) : Prop := b < C.B ∧ ¬ C.X b
def rowForm : Option Obj → Option (Nat × TypeId × Nat × Nat)
  | some (.cells c e fr) => some (c.size, e, fr)
  | _ => none
structure Stays (S : Nat → Prop) (w w' : World) : Prop where
  os : w'.os = w.os
  tape : w'.tape = w.tape
  output : w'.output = w.output
  size : w.heap.size ≤ w'.heap.size
  block : ∀ k, S k → w'.heap[k]? = w.heap[k]?
  form : ∀ k, k < w.heap.size → rowForm w'.heap[k]? = rowForm w.heap[k]?
theorem Stays.refl (S : Nat → Prop) (w : World) : Stays S w w := ⟨rfl, rfl, rfl, Nat.le_refl _, fun _ _ => rfl, fun _ _ => rfl⟩
theorem Stays.trans {S : Nat → Prop} {a b c : World} (h : Stays S a b) (k : Stays S b c) : Stays S a c :=
  ⟨k.os.trans h.os, k.tape.trans h.tape, k.output.trans h.output, Nat.le_trans h.size k.size, fun i hi => (k.block i hi).trans (h.block i hi), fun i hi => (k.form i (Nat.lt_of_lt_of_le hi h.size)).trans (h.form i hi)⟩
theorem Stays.mono {S S' : Nat → Prop} {w w' : World} (h : Stays S w w') (hS : ∀ k, S' k → S k) : Stays S' w w' := ⟨h.os, h.tape, h.output, h.size, fun k hk => h.block k (hS k hk), h.form⟩
theorem Stays.of_below {S : Nat → Prop} {w w' : World} (h : Below w.heap.size w w') (hS : ∀ k, S k → k < w.heap.size) : Stays S w w' := ⟨h.os, h.tape, h.output, h.size, fun k hk => h.block k (hS k hk), fun k hk => by rw [h.block k hk]⟩
theorem Stays.below {B : Nat} {w w' : World} (h : Stays (· < B) w w') : Below B w w' := ⟨h.os, h.tape, h.output, h.size, h.block⟩
def RepE (w : World) : List (PV × PV) → List MapEntry → Prop
  | [], es => es = []
  | (k, p) :: r, es => ∃ e s, es = e :: s ∧ Rep w (fun _ => False) k e.key ∧ Rep w (fun _ => False) p e.val ∧ RepE w r s
theorem RepE.mono {w w' : World} : ∀ {es : List (PV × PV)} {xs : List MapEntry}, RepE w es xs → RepE w' es xs
  | [], xs, h => by simpa [RepE] using h
  | (k, p) :: r, xs, h => by
    obtain ⟨e, s, rfl, h1, h2, h3⟩ := h
    exact ⟨e, s, rfl, Rep.mono (fun _ => id) (fun _ h => h.elim) k _ h1, Rep.mono (fun _ => id) (fun _ h => h.elim) p _ h2, RepE.mono h3⟩
inductive SV where
  | dead
  | val (p : PV)
  | par (i : Nat) (p : PV)
  | ext (p : PV)
  | bor (l : Nat) (p : PV)
  | own (l e size n : Nat) (cs : List PV)
  | box (l e : Nat) (cs : List PV)
  | adr (l off : Nat)
  | rpar (i : Nat) (cs : List PV)
  | rbor (l : Nat) (cs : List PV)
  | fn (f : FuncId)
  | yld (l : Nat)
  | map (l : Nat) (es : List (PV × PV))
  | sit (l : Nat) (s : List UInt8) (i : Nat)
  | bld (l T e : Nat) (s : List UInt8)
  | gmap (l e : Nat) (b : Bool) (es : List (PV × Option (Nat × List PV)))
  | ownL (l : Nat) (qs : List Nat) (e size n : Nat) (cs : List PV)
  | inl (l : Nat) (p : PV)
  | frz (l : Nat) (p : PV)
  | arr (l e size : Nat) (es : List (Option (Nat × List PV)))
  | boxR (l t e size : Nat) (es : List (Option (Nat × List PV)))
  | boxS (l t q e size n : Nat) (cs : List PV)
  | view (l off n : Nat)
  | vbox (l T off n : Nat) (cs : List PV)
  | iop (p : PV)
  | iow (e size n : Nat) (cs : List PV)
  | tup (ss : List SV)
structure Gh where
  g : Nat → Option Nat
  r : Nat → Nat
def Gh.inn (G : Gh) (l b : Nat) : Prop := G.g b = some l ∧ b ≠ G.r l
def Gh.see (C : Ctx) (G : Gh) (l b : Nat) : Prop := G.g b = some l ∨ C.ex b
def Gh.bx (C : Ctx) (G : Gh) (l b : Nat) : Prop := G.inn l b ∨ C.ex b
def Gh.innL (G : Gh) (l : Nat) (qs : List Nat) (b : Nat) : Prop := (∃ q ∈ qs, G.g b = some q) ∧ b ≠ G.r l
def RowG (w : World) (G : Gh) (l e n : Nat) (cs : List PV) (v : Value) : Prop :=
  ∃ vs, w.ownsRow 0 e 1 v n vs ∧ (∀ b, v.ownBlock = some b → G.g b = some l ∧ b ≠ G.r l) ∧ RepL w (fun _ => False) cs vs
structure RepG (w : World) (G : Gh) (l e : Nat) (es : List (PV × Option (Nat × List PV))) (xs : List MapEntry) : Prop where
  len : xs.length = es.length
  key : ∀ (i : Nat) k o x, es[i]? = some (k, o) → xs[i]? = some x → Rep w (fun _ => False) k x.key
  row : ∀ (i : Nat) k n cs x, es[i]? = some (k, some (n, cs)) → xs[i]? = some x → RowG w G l e n cs x.val
  apart : ∀ (i j : Nat) k k' o o' x y b, i ≠ j → es[i]? = some (k, some o) → es[j]? = some (k', some o') → xs[i]? = some x → xs[j]? = some y → x.val.ownBlock = some b → y.val.ownBlock ≠ some b
theorem RowG.keep {w w' : World} {G G' : Gh} {l l' e n : Nat} {cs : List PV} {v : Value} (h : RowG w G l e n cs v) (hr : G'.r l' = G.r l) (hg : ∀ b, G.g b = some l → G'.g b = some l') (hw : ∀ b, G.g b = some l → b ≠ G.r l → w'.heap[b]? = w.heap[b]?) : RowG w' G' l' e n cs v := by
  obtain ⟨vs, ho, hb, hc⟩ := h
  refine ⟨vs, ⟨ho.1, ?_⟩, fun b hv => ⟨hg b (hb b hv).1, by rw [hr]; exact (hb b hv).2⟩, RepL.mono (fun _ => id) (fun _ h => h.elim) cs vs hc⟩
  rcases ho.2 with hn | ⟨g, cap, cur, rfl, hbg, hgg, rest⟩
  · exact .inl hn
  · exact .inr ⟨g, cap, cur, rfl, hbg, by rw [hw g (hb g rfl).1 (hb g rfl).2]; exact hgg, rest⟩
theorem RepG.keep {w w' : World} {G G' : Gh} {l l' e : Nat} {es : List (PV × Option (Nat × List PV))} {xs : List MapEntry} (h : RepG w G l e es xs) (hr : G'.r l' = G.r l) (hg : ∀ b, G.g b = some l → G'.g b = some l') (hw : ∀ b, G.g b = some l → b ≠ G.r l → w'.heap[b]? = w.heap[b]?) : RepG w' G' l' e es xs :=
  ⟨h.len, fun i k o x h1 h2 => Rep.mono (fun _ => id) (fun _ h => h.elim) k _ (h.key i k o x h1 h2), fun i k n cs x h1 h2 => (h.row i k n cs x h1 h2).keep hr hg hw, h.apart⟩
def RowS (w : World) (G : Gh) (l e size n : Nat) (cs : List PV) (v : Value) : Prop :=
  ∃ vs, w.ownsRow 0 e size v n vs ∧ (∀ b, v.ownBlock = some b → G.g b = some l ∧ b ≠ G.r l) ∧ RepL w (fun _ => False) cs vs
structure RepS (w : World) (G : Gh) (l e size : Nat) (es : List (Option (Nat × List PV))) (xs : List Value) : Prop where
  len : xs.length = es.length
  one : ∀ x ∈ xs, x.oneCell' = true
  row : ∀ (i : Nat) n cs x, es[i]? = some (some (n, cs)) → xs[i]? = some x → RowS w G l e size n cs x
  apart : ∀ (i j : Nat) o o' x y b, i ≠ j → es[i]? = some (some o) → es[j]? = some (some o') → xs[i]? = some x → xs[j]? = some y → x.ownBlock = some b → y.ownBlock ≠ some b
theorem RowS.keep {w w' : World} {G G' : Gh} {l l' e size n : Nat} {cs : List PV} {v : Value} (h : RowS w G l e size n cs v) (hr : G'.r l' = G.r l) (hg : ∀ b, G.g b = some l → G'.g b = some l') (hw : ∀ b, G.g b = some l → b ≠ G.r l → w'.heap[b]? = w.heap[b]?) : RowS w' G' l' e size n cs v := by
  obtain ⟨vs, ho, hb, hc⟩ := h
  refine ⟨vs, ⟨ho.1, ?_⟩, fun b hv => ⟨hg b (hb b hv).1, by rw [hr]; exact (hb b hv).2⟩, RepL.mono (fun _ => id) (fun _ h => h.elim) cs vs hc⟩
  rcases ho.2 with hn | ⟨g, cap, cur, rfl, hbg, hgg, rest⟩
  · exact .inl hn
  · exact .inr ⟨g, cap, cur, rfl, hbg, by rw [hw g (hb g rfl).1 (hb g rfl).2]; exact hgg, rest⟩
theorem RepS.keep {w w' : World} {G G' : Gh} {l l' e size : Nat} {es : List (Option (Nat × List PV))} {xs : List Value} (h : RepS w G l e size es xs) (hr : G'.r l' = G.r l) (hg : ∀ b, G.g b = some l → G'.g b = some l') (hw : ∀ b, G.g b = some l → b ≠ G.r l → w'.heap[b]? = w.heap[b]?) : RepS w' G' l' e size es xs :=
  ⟨h.len, h.one, fun i n cs x h1 h2 => (h.row i n cs x h1 h2).keep hr hg hw, h.apart⟩
mutual
def Ok (C : Ctx) (w : World) (G : Gh) : SV → Value → Prop
  | .dead, _ => True
  | .val p, v => Rep w (fun _ => False) p v
  | .par i p, v => Rep w (C.Fp i) p v
  | .ext p, v => Rep w C.ex p v
  | .bor l p, v => Rep w (G.see C l) p v
  | .own l e size n cs, v => ∃ vs, w.ownsRow 0 e size v n vs ∧ (∀ b, v.ownBlock = some b → b = G.r l ∧ G.g b = some l) ∧ RepL w (G.inn l) cs vs
  | .box l e cs, v => ∃ vs, v = .pointer (some ⟨G.r l, 0, none⟩) ∧ G.g (G.r l) = some l ∧ w.heap[G.r l]? = some (.cells vs.toArray e (0, 0)) ∧ RepL w (G.bx C l) cs vs
  | .adr l off, v => v = .pointer (some ⟨G.r l, off, none⟩)
  | .rpar i cs, v => ∃ b off vs, v = .pointer (some ⟨b, off, none⟩) ∧ (∀ j u, vs[j]? = some u → w.cell? ⟨b, off + j, none⟩ = some u) ∧ C.Fp i b ∧ RepL w (C.Fp i) cs vs
  | .rbor l cs, v => ∃ b off vs, v = .pointer (some ⟨b, off, none⟩) ∧ (∀ j u, vs[j]? = some u → w.cell? ⟨b, off + j, none⟩ = some u) ∧ G.see C l b ∧ RepL w (G.see C l) cs vs
  | .fn f, v => v = .func (.func f) #[] #[]
  | .yld l, v => v = .func (.yield l) #[] #[]
  | .map l es, v => ∃ arr clock, v = .map (some (G.r l)) ∧ G.g (G.r l) = some l ∧ w.heap[G.r l]? = some (.map arr clock) ∧ RepE w es arr.toList
  | .sit l s i, v => v = .pointer (some ⟨G.r l, 0, none⟩) ∧ G.g (G.r l) = some l ∧ w.heap[G.r l]? = some (.stringIter ⟨s.toArray⟩ i)
  | .bld l T e s, v => v = .pointer (some ⟨G.r l, 0, none⟩) ∧ G.g (G.r l) = some l ∧ C.B ≤ G.r l ∧ ∃ p u, w.heap[G.r l]? = some (.cells #[p, u] T (0, 0)) ∧ (p = .pointer none ∨ p = .pointer (some ⟨G.r l, 0, none⟩)) ∧
      w.ownsRowF C.B e 1 u s.length (Lib.byteCells s) ∧ u.ownBlock ≠ some (G.r l) ∧ ∀ g, u.ownBlock = some g → G.g g = some l
  | .gmap l e b es, v => (b = false ∧ v = .map none ∧ es = []) ∨ ∃ arr clock, v = .map (some (G.r l)) ∧ G.g (G.r l) = some l ∧ w.heap[G.r l]? = some (.map arr clock) ∧ RepG w G l e es arr.toList
  | .ownL l qs e size n cs, v => ∃ vs, w.ownsRow 0 e size v n vs ∧ (∀ b, v.ownBlock = some b → b = G.r l ∧ G.g b = some l) ∧ RepL w (G.innL l qs) cs vs
  | .inl l p, v => Rep w (G.inn l) p v
  | .frz l p, v => Rep w (fun b => G.g b = some l) p v
  | .arr l e size es, v => ∃ vs, v = .agg vs.toArray ∧ RepS w G l e size es vs
  | .boxR l t e size es, v => ∃ vs, v = .pointer (some ⟨G.r l, 0, none⟩) ∧ G.g (G.r l) = some l ∧ w.heap[G.r l]? = some (.cells vs.toArray t (0, 0)) ∧ RepS w G l e size es vs
  | .boxS l t q e size n cs, v => ∃ u, v = .pointer (some ⟨G.r l, 0, none⟩) ∧ G.g (G.r l) = some l ∧ w.heap[G.r l]? = some (.cells #[u] t (0, 0)) ∧ l ≠ q ∧ ∃ vs, w.ownsRow 0 e size u n vs ∧ (∀ b, u.ownBlock = some b → b = G.r q ∧ G.g b = some q) ∧ RepL w (G.inn q) cs vs
  | .iop p, v => Rep w (G.see C 2000) p v
  | .iow e size n cs, v => ∃ vs, w.ownsRow 0 e size v n vs ∧ (∀ b, v.ownBlock = some b → b = G.r 2000 ∧ G.g b = some 2000) ∧ RepL w (G.inn 2000) cs vs
  | .view l off n, v => ∃ off' cap, v = .slice (some ⟨G.r l, off', none⟩) n cap ∧ n ≤ cap ∧ (n ≠ 0 → off' = off)
  | .vbox l T off n cs, v => ∃ off' cap vs, v = .slice (some ⟨G.r l, off', none⟩) n cap ∧ n ≤ cap ∧ (n ≠ 0 → off' = off) ∧ G.g (G.r l) = some l ∧ w.heap[G.r l]? = some (.cells vs.toArray T (0, 0)) ∧ RepL w (G.bx C l) cs vs
  | .tup ss, v => ∃ vs, v = .tuple vs.toArray ∧ OkL C w G ss vs
def OkL (C : Ctx) (w : World) (G : Gh) : List SV → List Value → Prop
  | [], vs => vs = []
  | s :: ss, vs => ∃ v r, vs = v :: r ∧ Ok C w G s v ∧ OkL C w G ss r
end
mutual
def SV.labels : SV → List Nat
  | .dead => []
  | .val _ => []
  | .par _ _ => []
  | .ext _ => []
  | .bor l _ => [l]
  | .own l _ _ _ _ => [l]
  | .box l _ _ => [l]
  | .adr l _ => [l]
  | .rpar _ _ => []
  | .rbor l _ => [l]
  | .fn _ => []
  | .yld _ => []
  | .map l _ => [l]
  | .sit l _ _ => [l]
  | .bld l _ _ _ => [l]
  | .gmap l _ _ _ => [l]
  | .ownL l qs _ _ _ _ => l :: qs
  | .inl l _ => [l]
  | .frz l _ => [l]
  | .arr l _ _ _ => [l]
  | .boxR l _ _ _ _ => [l]
  | .boxS l _ q _ _ _ _ => [l, q]
  | .view l _ _ => [l]
  | .vbox l _ _ _ _ => [l]
  | .iop _ => [2000]
  | .iow _ _ _ _ => [2000]
  | .tup ss => SV.labelsL ss
def SV.labelsL : List SV → List Nat
  | [] => []
  | s :: ss => s.labels ++ SV.labelsL ss
end
def Gh.fits (G : Gh) (C : Ctx) (w : World) : Prop := (∀ b l, G.g b = some l → ¬ C.old b ∧ b < w.heap.size) ∧ G.r 2000 = C.pin ∧ ∀ b, C.X0 b → G.g b = some 2000
mutual
def SV.noB : SV → Bool
  | .bld _ _ _ _ => false
  | .tup ss => SV.noBL ss
  | _ => true
def SV.noBL : List SV → Bool
  | [] => true
  | s :: ss => s.noB && SV.noBL ss
end
mutual
theorem Ok.keepC {C C' : Ctx} {w w' : World} {G G' : Gh} (hFp : C'.Fp = C.Fp) (hEx : C'.ex = C.ex) (hP : ∀ i b, C.Fp i b → w'.heap[b]? = w.heap[b]?) (hX : ∀ b, C.ex b → w'.heap[b]? = w.heap[b]?) :
    ∀ (s : SV) (v : Value), (C'.B ≤ C.B ∨ s.noB = true) → (∀ l ∈ s.labels, G'.r l = G.r l ∧ (∀ b, G.g b = some l → G'.g b = some l) ∧ ∀ b, G.g b = some l → w'.heap[b]? = w.heap[b]?) → Ok C w G s v → Ok C' w' G' s v
  | .dead, v, _, _, _ => trivial
  | .val p, v, _, _, h => Rep.mono (fun _ => id) (fun _ h => h.elim) p v h
  | .par i p, v, _, _, h => by
    simp only [Ok] at h ⊢
    rw [hFp]
    exact Rep.mono (fun _ => id) (fun b hb => hP i b hb) p v h
  | .ext p, v, _, _, h => by
    simp only [Ok] at h ⊢
    rw [hEx]
    exact Rep.mono (fun _ => id) (fun b hb => hX b hb) p v h
  | .bor l p, v, _, hl, h => by
    obtain ⟨h1, h2, h3⟩ := hl l (by simp [SV.labels])
    exact Rep.mono (fun b hb => hb.imp (h2 b) (fun hb => by rw [hEx]; exact hb)) (fun b hb => hb.elim (h3 b) (fun hb => hX b hb)) p v h
  | .own l e size n cs, v, _, hl, h => by
    obtain ⟨h1, h2, h3⟩ := hl l (by simp [SV.labels])
    simp only [Ok] at h ⊢
    obtain ⟨vs, ho, hb, hr⟩ := h
    refine ⟨vs, ?_, fun b hv => ?_, RepL.mono (fun b ⟨hb, hn⟩ => ⟨h2 b hb, by rw [h1]; exact hn⟩) (fun b ⟨hb, _⟩ => h3 b hb) cs vs hr⟩
    · refine ⟨ho.1, ?_⟩
      rcases ho.2 with hn | ⟨g, cap, cur, rfl, hbg, hg, rest⟩
      · exact .inl hn
      · exact .inr ⟨g, cap, cur, rfl, hbg, by rw [h3 g (hb g rfl).2]; exact hg, rest⟩
    · rw [h1]; exact ⟨(hb b hv).1, h2 b (hb b hv).2⟩
  | .box l e cs, v, _, hl, h => by
    obtain ⟨h1, h2, h3⟩ := hl l (by simp [SV.labels])
    simp only [Ok] at h ⊢
    obtain ⟨vs, hv, hg, hh, hr⟩ := h
    rw [h1]
    exact ⟨vs, hv, h2 _ hg, by rw [h3 _ hg]; exact hh, RepL.mono (fun b hb => hb.imp (fun ⟨hb, hn⟩ => ⟨h2 b hb, by rw [h1]; exact hn⟩) (fun hb => by rw [hEx]; exact hb)) (fun b hb => hb.elim (fun hb => h3 b hb.1) (fun hb => hX b hb)) cs vs hr⟩
  | .adr l off, v, _, hl, h => by
    obtain ⟨h1, h2, h3⟩ := hl l (by simp [SV.labels])
    simp only [Ok] at h ⊢
    rw [h1]; exact h
  | .rpar i cs, v, _, _, h => by
    simp only [Ok] at h ⊢
    obtain ⟨b, off, vs, hv, hc, hb, hr⟩ := h
    rw [hFp]
    exact ⟨b, off, vs, hv, fun j u hu => by rw [← hc j u hu]; exact World.cell?_of_block (hP i b hb), hb, RepL.mono (fun _ => id) (fun b hb => hP i b hb) cs vs hr⟩
  | .rbor l cs, v, _, hl, h => by
    obtain ⟨h1, h2, h3⟩ := hl l (by simp [SV.labels])
    simp only [Ok] at h ⊢
    obtain ⟨b, off, vs, hv, hc, hb, hr⟩ := h
    exact ⟨b, off, vs, hv, fun j u hu => by rw [← hc j u hu]; exact World.cell?_of_block (hb.elim (h3 b) (fun hb => hX b hb)), hb.imp (h2 b) (fun hb => by rw [hEx]; exact hb), RepL.mono (fun b hb => hb.imp (h2 b) (fun hb => by rw [hEx]; exact hb)) (fun b hb => hb.elim (h3 b) (fun hb => hX b hb)) cs vs hr⟩
  | .fn f, v, _, _, h => by simpa [Ok] using h
  | .yld l, v, _, _, h => by simpa [Ok] using h
  | .map l es, v, _, hl, h => by
    obtain ⟨h1, h2, h3⟩ := hl l (by simp [SV.labels])
    simp only [Ok] at h ⊢
    obtain ⟨arr, clock, hv, hg, hh, hr⟩ := h
    rw [h1]
    exact ⟨arr, clock, hv, h2 _ hg, by rw [h3 _ hg]; exact hh, hr.mono⟩
  | .sit l s i, v, _, hl, h => by
    obtain ⟨h1, h2, h3⟩ := hl l (by simp [SV.labels])
    simp only [Ok] at h ⊢
    obtain ⟨hv, hg, hh⟩ := h
    rw [h1]
    exact ⟨hv, h2 _ hg, by rw [h3 _ hg]; exact hh⟩
  | .bld l T e s, v, hN, hl, h => by
    obtain ⟨h1, h2, h3⟩ := hl l (by simp [SV.labels])
    simp only [Ok] at h ⊢
    obtain ⟨hv, hg, hB0, p, u, hh, hp, ho, hne, hu⟩ := h
    rw [h1]
    have hle : C'.B ≤ C.B := hN.resolve_right (by simp [SV.noB])
    refine ⟨hv, h2 _ hg, Nat.le_trans hle hB0, p, u, by rw [h3 _ hg]; exact hh, hp, ⟨ho.1, ?_⟩, hne, fun g hgu => h2 g (hu g hgu)⟩
    rcases ho.2 with hn | ⟨g, cap, cur, fz, rfl, hbg, hgg, rest⟩
    · exact .inl hn
    · exact .inr ⟨g, cap, cur, fz, rfl, Nat.le_trans hle hbg, by rw [h3 g (hu g rfl)]; exact hgg, rest⟩
  | .gmap l e b es, v, _, hl, h => by
    obtain ⟨h1, h2, h3⟩ := hl l (by simp [SV.labels])
    simp only [Ok] at h ⊢
    rcases h with h | ⟨arr, clock, hv, hg, hh, hr⟩
    · exact .inl h
    right
    rw [h1]
    exact ⟨arr, clock, hv, h2 _ hg, by rw [h3 _ hg]; exact hh, hr.keep h1 h2 (fun b hb _ => h3 b hb)⟩
  | .ownL l qs e size n cs, v, _, hl, h => by
    obtain ⟨h1, h2, h3⟩ := hl l (by simp [SV.labels])
    have hq : ∀ q ∈ qs, (∀ b, G.g b = some q → G'.g b = some q) ∧ ∀ b, G.g b = some q → w'.heap[b]? = w.heap[b]? := fun q hq => (hl q (by simp [SV.labels, hq])).2
    simp only [Ok] at h ⊢
    obtain ⟨vs, ho, hb, hr⟩ := h
    refine ⟨vs, ⟨ho.1, ?_⟩, fun b hv => ?_, RepL.mono (fun b ⟨⟨q, hq1, hq2⟩, hn⟩ => ⟨⟨q, hq1, (hq q hq1).1 b hq2⟩, by rw [h1]; exact hn⟩) (fun b ⟨⟨q, hq1, hq2⟩, hn⟩ => (hq q hq1).2 b hq2) cs vs hr⟩
    · rcases ho.2 with hn | ⟨g, cap, cur, rfl, hbg, hgg, rest⟩
      · exact .inl hn
      · exact .inr ⟨g, cap, cur, rfl, hbg, by rw [h3 g (hb g rfl).2]; exact hgg, rest⟩
    · rw [h1]; exact ⟨(hb b hv).1, h2 b (hb b hv).2⟩
  | .inl l p, v, _, hl, h => by
    obtain ⟨h1, h2, h3⟩ := hl l (by simp [SV.labels])
    exact Rep.mono (fun b ⟨hb, hn⟩ => ⟨h2 b hb, by rw [h1]; exact hn⟩) (fun b hb => h3 b hb.1) p v h
  | .frz l p, v, _, hl, h => by
    obtain ⟨h1, h2, h3⟩ := hl l (by simp [SV.labels])
    exact Rep.mono h2 h3 p v h
  | .arr l e size es, v, _, hl, h => by
    obtain ⟨h1, h2, h3⟩ := hl l (by simp [SV.labels])
    simp only [Ok] at h ⊢
    obtain ⟨vs, hv, hr⟩ := h
    exact ⟨vs, hv, hr.keep h1 h2 (fun b hb _ => h3 b hb)⟩
  | .boxR l t e size es, v, _, hl, h => by
    obtain ⟨h1, h2, h3⟩ := hl l (by simp [SV.labels])
    simp only [Ok] at h ⊢
    obtain ⟨vs, hv, hg, hh, hr⟩ := h
    rw [h1]
    exact ⟨vs, hv, h2 _ hg, by rw [h3 _ hg]; exact hh, hr.keep h1 h2 (fun b hb _ => h3 b hb)⟩
  | .boxS l t q e size n cs, v, _, hl, h => by
    obtain ⟨h1, h2, h3⟩ := hl l (by simp [SV.labels])
    obtain ⟨k1, k2, k3⟩ := hl q (by simp [SV.labels])
    simp only [Ok] at h ⊢
    obtain ⟨u, hv, hg, hh, hne, vs, ho, hb, hr⟩ := h
    rw [h1]
    refine ⟨u, hv, h2 _ hg, by rw [h3 _ hg]; exact hh, hne, vs, ⟨ho.1, ?_⟩, fun b hu => ?_, RepL.mono (fun b ⟨hb, hn⟩ => ⟨k2 b hb, by rw [k1]; exact hn⟩) (fun b ⟨hb, _⟩ => k3 b hb) cs vs hr⟩
    · rcases ho.2 with hn | ⟨g, cap, cur, rfl, hbg, hgg, rest⟩
      · exact .inl hn
      · exact .inr ⟨g, cap, cur, rfl, hbg, by rw [k3 g (hb g rfl).2]; exact hgg, rest⟩
    · rw [k1]; exact ⟨(hb b hu).1, k2 b (hb b hu).2⟩
  | .iop p, v, _, hl, h => by
    obtain ⟨h1, h2, h3⟩ := hl 2000 (by simp [SV.labels])
    exact Rep.mono (fun b hb => hb.imp (h2 b) (fun hb => by rw [hEx]; exact hb)) (fun b hb => hb.elim (fun hb => h3 b hb) (fun hb => hX b hb)) p v h
  | .iow e size n cs, v, _, hl, h => by
    obtain ⟨h1, h2, h3⟩ := hl 2000 (by simp [SV.labels])
    simp only [Ok] at h ⊢
    obtain ⟨vs, ho, hb, hr⟩ := h
    refine ⟨vs, ⟨ho.1, ?_⟩, fun b hv => ?_, RepL.mono (fun b ⟨hb, hn⟩ => ⟨h2 b hb, by rw [h1]; exact hn⟩) (fun b ⟨hb, _⟩ => h3 b hb) cs vs hr⟩
    · rcases ho.2 with hn | ⟨g, cap, cur, rfl, hbg, hgg, rest⟩
      · exact .inl hn
      · exact .inr ⟨g, cap, cur, rfl, hbg, by rw [h3 g (hb g rfl).2]; exact hgg, rest⟩
    · rw [h1]; exact ⟨(hb b hv).1, h2 b (hb b hv).2⟩
  | .view l off n, v, _, hl, h => by
    obtain ⟨h1, h2, h3⟩ := hl l (by simp [SV.labels])
    simp only [Ok] at h ⊢
    rw [h1]; exact h
  | .vbox l T off n cs, v, _, hl, h => by
    obtain ⟨h1, h2, h3⟩ := hl l (by simp [SV.labels])
    simp only [Ok] at h ⊢
    obtain ⟨off', cap, vs, hv, hc, ho, hg, hh, hr⟩ := h
    rw [h1]
    exact ⟨off', cap, vs, hv, hc, ho, h2 _ hg, by rw [h3 _ hg]; exact hh, RepL.mono (fun b hb => hb.imp (fun ⟨hb, hn⟩ => ⟨h2 b hb, by rw [h1]; exact hn⟩) (fun hb => by rw [hEx]; exact hb)) (fun b hb => hb.elim (fun hb => h3 b hb.1) (fun hb => hX b hb)) cs vs hr⟩
  | .tup ss, v, hN, hl, h => by
    simp only [Ok] at h ⊢
    obtain ⟨vs, hv, h⟩ := h
    exact ⟨vs, hv, OkL.keepC hFp hEx hP hX ss vs (hN.imp id (by simp [SV.noB])) (by simpa [SV.labels] using hl) h⟩
theorem OkL.keepC {C C' : Ctx} {w w' : World} {G G' : Gh} (hFp : C'.Fp = C.Fp) (hEx : C'.ex = C.ex) (hP : ∀ i b, C.Fp i b → w'.heap[b]? = w.heap[b]?) (hX : ∀ b, C.ex b → w'.heap[b]? = w.heap[b]?) :
    ∀ (ss : List SV) (vs : List Value), (C'.B ≤ C.B ∨ SV.noBL ss = true) → (∀ l ∈ SV.labelsL ss, G'.r l = G.r l ∧ (∀ b, G.g b = some l → G'.g b = some l) ∧ ∀ b, G.g b = some l → w'.heap[b]? = w.heap[b]?) → OkL C w G ss vs → OkL C' w' G' ss vs
  | [], vs, _, _, h => by simpa [OkL] using h
  | s :: ss, vs, hN, hl, h => by
    simp only [OkL] at h ⊢
    simp only [SV.labelsL, List.mem_append] at hl
    obtain ⟨v, r, hv, h1, h2⟩ := h
    exact ⟨v, r, hv, Ok.keepC hFp hEx hP hX s v (hN.imp id (fun h => by simp only [SV.noBL, Bool.and_eq_true] at h; exact h.1)) (fun l hm => hl l (.inl hm)) h1, OkL.keepC hFp hEx hP hX ss r (hN.imp id (fun h => by simp only [SV.noBL, Bool.and_eq_true] at h; exact h.2)) (fun l hm => hl l (.inr hm)) h2⟩
end
theorem Ok.keep {C : Ctx} {w w' : World} {G G' : Gh} (hFp : (∀ i b, C.Fp i b → C.old b) ∧ ∀ b, C.ex b → C.old b) (hB : Stays C.old w w') (s : SV) (v : Value)
    (hl : ∀ l ∈ s.labels, G'.r l = G.r l ∧ (∀ b, G.g b = some l → G'.g b = some l) ∧ ∀ b, G.g b = some l → w'.heap[b]? = w.heap[b]?) (h : Ok C w G s v) : Ok C w' G' s v :=
  Ok.keepC rfl rfl (fun i b hb => hB.block b (hFp.1 i b hb)) (fun b hb => hB.block b (hFp.2 b hb)) s v (.inl (Nat.le_refl _)) hl h
theorem OkL.keep {C : Ctx} {w w' : World} {G G' : Gh} (hFp : (∀ i b, C.Fp i b → C.old b) ∧ ∀ b, C.ex b → C.old b) (hB : Stays C.old w w') (ss : List SV) (vs : List Value)
    (hl : ∀ l ∈ SV.labelsL ss, G'.r l = G.r l ∧ (∀ b, G.g b = some l → G'.g b = some l) ∧ ∀ b, G.g b = some l → w'.heap[b]? = w.heap[b]?) (h : OkL C w G ss vs) : OkL C w' G' ss vs :=
  OkL.keepC rfl rfl (fun i b hb => hB.block b (hFp.1 i b hb)) (fun b hb => hB.block b (hFp.2 b hb)) ss vs (.inl (Nat.le_refl _)) hl h
end Go.Proofs.YtfagllolcalfiabDoor
