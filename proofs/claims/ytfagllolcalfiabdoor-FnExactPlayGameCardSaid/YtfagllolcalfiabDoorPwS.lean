/- Maps that the call has made, and ranges over texts, in the pure state. Own work; no conditions; nothing here is about one program. -/
import Derived.Test.YtfagllolcalfiabDoorPwN
import Derived.MapKept
import Derived.Laws.RangeString
namespace Go.Proofs.YtfagllolcalfiabDoor
open Go.RowKit Go.MapKept
set_option linter.unusedVariables false
set_option linter.unusedSimpArgs false
inductive TK where
  | bool
  | int (k : IntKind)
  | str
def TK.desc : TK → TypeDesc
  | .bool => .bool
  | .int k => .int k
  | .str => .string
def TK.is (P : Program) (t : TypeId) (k : TK) : Prop := P.underlying t = some k.desc
theorem TK.is.isSome {P : Program} {t : TypeId} {k : TK} (h : k.is P t) : (P.underlying t).isSome = true := by
  rw [show P.underlying t = _ from h]; rfl
def kEq (a b : IntKind) : Bool := Nat.beq a.ctorIdx b.ctorIdx
theorem kEq_ok {a b : IntKind} (h : kEq a b = true) : a = b := by
  have := Nat.eq_of_beq_eq_true h
  cases a <;> cases b <;> first | rfl | (exact absurd this (by decide))
def intEq : Int → Int → Bool
  | .ofNat a, .ofNat b => Nat.beq a b
  | .negSucc a, .negSucc b => Nat.beq a b
  | _, _ => false
theorem intEq_eq (a b : Int) : intEq a b = (a == b) := by
  have hb : ∀ x y : Nat, Nat.beq x y = decide (x = y) := fun x y => by
    by_cases h : x = y
    · subst h; simp
    · rw [decide_eq_false h]
      cases hb : Nat.beq x y with
      | true => exact absurd (Nat.eq_of_beq_eq_true hb) h
      | false => rfl
  cases a with
  | ofNat x => cases b with
    | ofNat y =>
      show Nat.beq x y = _
      rw [hb]
      by_cases h : x = y
      · subst h; simp
      · rw [decide_eq_false h]
        exact (beq_eq_false_iff_ne.mpr (fun e => h (Int.ofNat.inj e))).symm
    | negSucc y => rfl
  | negSucc x => cases b with
    | ofNat y => rfl
    | negSucc y =>
      show Nat.beq x y = _
      rw [hb]
      by_cases h : x = y
      · subst h; simp
      · rw [decide_eq_false h]
        exact (beq_eq_false_iff_ne.mpr (fun e => h (Int.negSucc.inj e))).symm
def keyEq : TK → PV → PV → Option Bool
  | .int _, .int k a, .int k' b => bif kEq k k' then some (intEq a b) else none
  | .str, .str a, .str b => some (a == b)
  | .bool, .bool a, .bool b => some (a == b)
  | _, _, _ => none
def findE (t : TK) (k : PV) : List (PV × PV) → Nat → Option (Option (Nat × PV))
  | [], _ => some none
  | (k', p) :: r, i => match keyEq t k k' with
    | some true => some (some (i, p))
    | some false => findE t k r (i + 1)
    | none => none
def keyOk : TK → PV → Bool
  | .int k, .int k' _ => kEq k k'
  | .str, .str _ => true
  | .bool, .bool _ => true
  | _, _ => false
theorem keyEq_ok {t : TK} {a b : PV} {x y : Value} {r : Bool} {w : World} {F F' : Nat → Prop} (h : keyEq t a b = some r) (hx : Rep w F a x) (hy : Rep w F' b y) : Instr.sameNow t.desc x y = some r := by
  unfold keyEq at h
  split at h
  · rename_i k0 k a k' b
    cases hk : kEq k k' with
    | false => rw [hk] at h; cases h
    | true =>
      rw [hk] at h
      obtain rfl := kEq_ok hk
      simp only [cond_true, Option.some.injEq] at h
      simp only [Rep] at hx hy
      subst hx; subst hy; subst h
      simp [Instr.sameNow, TK.desc, intEq_eq]
  · simp only [Rep] at hx hy
    simp only [Option.some.injEq] at h
    subst hx; subst hy; subst h
    rename_i a b
    simp only [Instr.sameNow, TK.desc, Option.some.injEq]
    rw [Bool.eq_iff_iff, bytes_beq]
    simp
  · simp only [Rep] at hx hy
    simp only [Option.some.injEq] at h
    subst hx; subst hy; subst h
    simp [Instr.sameNow, TK.desc]
  · cases h
theorem findE_ok {t : TK} {k : PV} {kv : Value} {w : World} {F : Nat → Prop} (hk : Rep w F k kv) : ∀ {es : List (PV × PV)} {xs : List MapEntry} {i : Nat} {r : Option (Nat × PV)}, RepE w es xs → findE t k es i = some r →
    match r with
    | none => Instr.findNow t.desc kv xs i = some none
    | some (j, p) => ∃ v, Instr.findNow t.desc kv xs i = some (some (j, v)) ∧ Rep w (fun _ => False) p v ∧ i ≤ j ∧ ∃ k', es[j - i]? = some (k', p)
  | [], xs, i, r, h, hf => by
    simp only [RepE] at h; subst h
    simp only [findE, Option.some.injEq] at hf; subst hf
    rfl
  | (k', p) :: es, xs, i, r, h, hf => by
    obtain ⟨e, s, rfl, h1, h2, h3⟩ := h
    unfold findE at hf
    split at hf
    · rename_i he
      simp only [Option.some.injEq] at hf; subst hf
      exact ⟨e.val, by simp [Instr.findNow, keyEq_ok he hk h1], h2, Nat.le_refl _, k', by simp⟩
    · rename_i he
      have := findE_ok hk h3 hf
      have hn := keyEq_ok he hk h1
      cases r with
      | none => simpa [Instr.findNow, hn] using this
      | some x =>
        obtain ⟨j, q⟩ := x
        obtain ⟨v, g1, g2, g3, k2, g4⟩ := this
        refine ⟨v, by simpa [Instr.findNow, hn] using g1, g2, by omega, k2, ?_⟩
        rw [show j - i = (j - (i + 1)) + 1 by omega]; simpa using g4
    · cases hf
theorem keyOk_isKey {t : TK} {k : PV} {kv : Value} {w : World} {F : Nat → Prop} (h : keyOk t k = true) (hk : Rep w F k kv) : IsKey t.desc kv := by
  unfold keyOk at h
  split at h
  · simp only [Rep] at hk; subst hk; obtain rfl := kEq_ok h; simp [IsKey, TK.desc]
  · simp only [Rep] at hk; subst hk; simp [IsKey, TK.desc]
  · simp only [Rep] at hk; subst hk; simp [IsKey, TK.desc]
  · cases h
def ZvTy (P : Program) (t : TypeId) (p : PV) : Prop := ∃ z, (∀ w, (zeroValue t).run P w = .ok z w) ∧ cv z = some p
theorem zvTy_of {P : Program} {t : TypeId} {z : Value} {p : PV} (h : (P.info? t).map (·.zero) = some (some z)) (h2 : cv z = some p) : ZvTy P t p := by
  obtain ⟨i, hi, hz⟩ := Option.map_eq_some_iff.1 h
  exact ⟨z, fun w => by simp [zeroValue, typeInfo, hi, hz], h2⟩
def lkRes (z : PV) (ok : Bool) : Option (Nat × PV) → SV
  | some (_, p) => if ok then .tup [.val p, .val (.bool true)] else .val p
  | none => if ok then .tup [.val z, .val (.bool false)] else .val z
section
variable {P : Program} {n : Nat} {σ : St} {K : St → Prop} {d : Nat} {ty : TypeId} {pos : String} {af : Array Edge} {gd : Option (Nat × Bool)}
theorem q_lookup {t kt et : TypeId} {tk : TK} {z k : PV} {x y : Operand} {l : Nat} {es : List (PV × PV)} {ok : Bool} {r : Option (Nat × PV)} (ht : P.underlying t = some (.map kt et)) (hkt : tk.is P kt) (hz : ZvTy P et z)
    (hx : σ.ev x = some (.map l es)) (hy : σ.ev y = some (.val k)) (hk : keyOk tk k = true) (hf : findE tk k es 0 = some r) (hd : d < n) : quietT P n ⟨some d, .lookup t x y ok, ty, pos, af, gd⟩ σ d (lkRes z ok r) := by
  refine ⟨rfl, hd, fun C a w G hS hG hE => ?_⟩
  obtain ⟨arr, clock, hv, hg, hh, hr⟩ := hE.ev hx
  have hkv := hE.ev hy
  simp only [Ok] at hkv
  obtain ⟨z', hz1, hz2⟩ := hz
  have hfe := findE_ok hkv hr hf
  have hlt := (hG.1 _ _ hg).2
  have hkey := keyOk_isKey hk hkv
  have hw2 : ∀ w2, Below w.heap.size w w2 → w2.heap[G.r l]? = some (.map arr clock) := fun w2 hb => by rw [hb.block _ hlt]; exact hh
  cases r with
  | none =>
    cases ok with
    | true =>
      refine ⟨.tuple #[z', .bool false], fun w2 hb => ?_, ⟨[z', .bool false], rfl, z', [.bool false], rfl, cv_ok hz2, .bool false, [], rfl, by simp [Ok, Rep], rfl⟩⟩
      simp [execOp, hv, Instr.lookup, run_underlying ht, MapKept.run_getObj_map (hw2 w2 hb), Result.andThen, MapKept.run_checkKey hkt hkey, MapKept.run_findKey hkt hfe, hz1]
    | false =>
      refine ⟨z', fun w2 hb => ?_, cv_ok hz2⟩
      simp [execOp, hv, Instr.lookup, run_underlying ht, MapKept.run_getObj_map (hw2 w2 hb), Result.andThen, MapKept.run_checkKey hkt hkey, MapKept.run_findKey hkt hfe, hz1]
  | some xx =>
    obtain ⟨j, p⟩ := xx
    obtain ⟨v, g1, g2, _⟩ := hfe
    cases ok with
    | true =>
      refine ⟨.tuple #[v, .bool true], fun w2 hb => ?_, ⟨[v, .bool true], rfl, v, [.bool true], rfl, g2, .bool true, [], rfl, by simp [Ok, Rep], rfl⟩⟩
      simp [execOp, hv, Instr.lookup, run_underlying ht, MapKept.run_getObj_map (hw2 w2 hb), Result.andThen, MapKept.run_checkKey hkt hkey, MapKept.run_findKey hkt g1]
    | false =>
      refine ⟨v, fun w2 hb => ?_, g2⟩
      simp [execOp, hv, Instr.lookup, run_underlying ht, MapKept.run_getObj_map (hw2 w2 hb), Result.andThen, MapKept.run_checkKey hkt hkey, MapKept.run_findKey hkt g1]
theorem RepE.length {w : World} : ∀ {es : List (PV × PV)} {xs : List MapEntry}, RepE w es xs → xs.length = es.length
  | [], xs, h => by simp only [RepE] at h; simp [h]
  | (k, p) :: r, xs, h => by
    obtain ⟨e, s, rfl, _, _, h3⟩ := h
    simp [RepE.length h3]
theorem q_len_map {t kt et : TypeId} {x : Operand} {l : Nat} {es : List (PV × PV)} (ht : P.underlying t = some (.map kt et)) (hx : σ.ev x = some (.map l es)) (hd : d < n) : quietT P n ⟨some d, .call { callee := .builtin .len, args := #[x], argTypes := #[t] }, ty, pos, af, gd⟩ σ d (.val (.int .i64 es.length)) := by
  refine ⟨rfl, hd, fun C a w G hS hG hE => ?_⟩
  obtain ⟨arr, clock, hv, hg, hh, hr⟩ := hE.ev hx
  have hlt := (hG.1 _ _ hg).2
  refine ⟨.int .i64 es.length, fun w2 hb => ?_, by simp [Ok, Rep]⟩
  have hw2 : w2.heap[G.r l]? = some (.map arr clock) := by rw [hb.block _ hlt]; exact hh
  have hl : arr.size = es.length := by rw [← Array.length_toList, hr.length]
  simp [execOp, resolve, invoke, builtin, Builtin.len_, hv, MapKept.run_getObj_map hw2, run_underlying ht, Result.andThen, goInt, hl]
def SV.isObj (l : Nat) : SV → Bool
  | .map l' _ => Nat.beq l' l
  | _ => false
def St.setl (h l : Nat) (y : SV) (σ : St) : St := σ.map fun e => (e.1, bif Nat.beq e.1 h then y else bif e.2.labels.contains l then .dead else e.2)
theorem setl_at {h l : Nat} {y : SV} : ∀ {σ : St} {s : Nat} {x : SV}, (σ.setl h l y).at s = some x → (s = h ∧ x = y) ∨ (s ≠ h ∧ x = .dead) ∨ (s ≠ h ∧ σ.at s = some x ∧ l ∉ x.labels)
  | [], s, x, hx => by simp [St.setl, St.at] at hx
  | (t, z) :: r, s, x, hx => by
    simp only [St.setl, List.map_cons, St.at] at hx ⊢
    split at hx
    · rename_i he; subst he
      simp only [Option.some.injEq] at hx
      cases hb : Nat.beq t h with
      | true => rw [hb] at hx; exact .inl ⟨Nat.eq_of_beq_eq_true hb, hx.symm⟩
      | false =>
        rw [hb] at hx
        have hne : t ≠ h := fun e => by subst e; simp at hb
        cases hc : z.labels.contains l with
        | true => rw [hc] at hx; exact .inr (.inl ⟨hne, hx.symm⟩)
        | false =>
          rw [hc] at hx
          simp only [cond_false] at hx
          subst hx
          exact .inr (.inr ⟨hne, by simp, by simpa using hc⟩)
    · rename_i hne
      rw [if_neg hne]
      exact setl_at (σ := r) hx
theorem set_core {C : Ctx} {a : Act} {w : World} {G : Gh} (hS : Sim n C σ a w) (hG : G.fits C w) (hE : Env C σ a w G) {l h : Nat} {y' : SV} {o o' : Obj} (hob : w.heap[G.r l]? = some o) (hgl : G.g (G.r l) = some l)
    (ho : rowForm (some o) = none) (ho' : rowForm (some o') = none) (hok : Ok C { w with heap := w.heap.setIfInBounds (G.r l) o' } G y' (a.tmps.getD h undef)) :
    G.fits C { w with heap := w.heap.setIfInBounds (G.r l) o' } ∧ Env C (σ.setl h l y') a { w with heap := w.heap.setIfInBounds (G.r l) o' } G ∧ Stays C.old C.w0 { w with heap := w.heap.setIfInBounds (G.r l) o' } := by
  have hB : C.B ≤ w.heap.size := hS.below.size
  obtain ⟨hs1, hs2⟩ := heap_set (o' := o') hob
  have hst : Stays C.old w { w with heap := w.heap.setIfInBounds (G.r l) o' } := ⟨rfl, rfl, rfl, by simp, fun k hk => hs2 k (fun e => (hG.1 _ _ hgl).1 (e ▸ hk)), fun k hk => by
    by_cases e : k = G.r l
    · subst e
      show rowForm (w.heap.setIfInBounds (G.r l) o')[G.r l]? = _
      rw [hs1, hob, ho, ho']
    · show rowForm (w.heap.setIfInBounds (G.r l) o')[k]? = _
      rw [hs2 k e]⟩
  refine ⟨⟨fun b m hb => ?_, hG.2.1, hG.2.2⟩, fun s x hx => ?_, hS.below.trans hst⟩
  · obtain ⟨h1, h2⟩ := hG.1 b m hb
    exact ⟨h1, by simpa using h2⟩
  · rcases setl_at hx with ⟨rfl, rfl⟩ | ⟨_, rfl⟩ | ⟨_, hx', hl⟩
    · exact hok
    · trivial
    · refine Ok.keep hS.fp hst x _ (fun m hm => ⟨rfl, fun b hb => hb, fun b hb => hs2 b (fun e => ?_)⟩) (hE s x hx')
      subst e
      rw [hgl] at hb
      exact hl (Option.some.inj hb ▸ hm)
theorem op_obj {op : Op} (hd : d < n) (hd0 : d ≠ 2000) (hfr : σ.labels.all (· != d) = true) (x : SV) (o : Obj)
    (hrun : ∀ C a w G, Sim n C σ a w → G.fits C w → Env C σ a w G → ∃ v, (execOp a.eval ⟨some d, op, ty, pos, af, gd⟩).run P w = .ok (.value v) (w.alloc o) ∧ Ok C (w.alloc o) (G.new w.heap.size d) x v)
    (hK : K ((d, x) :: σ)) : opT P n ⟨some d, op, ty, pos, af, gd⟩ σ K := by
  intro C a w hS K' Q hK'
  obtain ⟨G, hG, hE⟩ := hS.gh
  obtain ⟨v, h1, h2⟩ := hrun C a w G hS hG hE
  unfold Oper.wp
  rw [h1, Oper.upon_value]
  obtain ⟨hG', hE', hbel⟩ := new_env (w' := w.alloc o) hS hG hE (World.grownBy_alloc w _ none) (by simp) hd0 hfr
  refine hK' _ _ _ hK ?_
  have hS' : Sim n C σ a (w.alloc o) := ⟨hS.fp, hbel, hS.dfs, hS.size, _, hG', hE'⟩
  exact hS'.put hG' hE' hd h2
theorem op_makeMap {t kt et : TypeId} {r : Option Operand} (ht : P.underlying t = some (.map kt et)) (hr : r = none ∨ ∃ x i, r = some x ∧ σ.ev x = some (.val (.int .i64 i))) (hd : d < n) (hd0 : d ≠ 2000) (hfr : σ.labels.all (· != d) = true)
    (hK : K ((d, .map d []) :: σ)) : opT P n ⟨some d, .makeMap t r, ty, pos, af, gd⟩ σ K := by
  refine op_obj hd hd0 hfr (.map d []) (.map #[] 0) (fun C a w G hS hG hE => ?_) hK
  have hroot := new_root (G := G) (b0 := w.heap.size) (d := d)
  refine ⟨.map (some w.heap.size), ?_, ⟨#[], 0, by rw [hroot.1], by rw [hroot.1]; exact hroot.2, by rw [hroot.1]; exact heap_alloc_new w _, rfl⟩⟩
  rcases hr with rfl | ⟨x, i, rfl, hx⟩
  · simp [execOp, Instr.makeMap, newObj, Sem.run]
  · have e1 := hE.ev hx
    simp only [Ok, Rep] at e1
    simp [execOp, Instr.makeMap, newObj, e1, asInt, run_underlying ht, Result.andThen]
    rfl
theorem RepE.set {w : World} : ∀ {es : List (PV × PV)} {xs : List MapEntry} (j : Nat) {k p : PV} {e : MapEntry}, RepE w es xs → Rep w (fun _ => False) k e.key → Rep w (fun _ => False) p e.val → RepE w (es.set j (k, p)) (xs.set j e)
  | [], xs, j, k, p, e, h, _, _ => by simp only [RepE] at h; subst h; simp [RepE]
  | (k', p') :: r, xs, 0, k, p, e, h, h1, h2 => by
    obtain ⟨e', s, rfl, _, _, h3⟩ := h
    exact ⟨e, s, rfl, h1, h2, h3⟩
  | (k', p') :: r, xs, j + 1, k, p, e, h, h1, h2 => by
    obtain ⟨e', s, rfl, g1, g2, h3⟩ := h
    exact ⟨e', s.set j e, rfl, g1, g2, RepE.set j h3 h1 h2⟩
theorem RepE.get {w : World} : ∀ {es : List (PV × PV)} {xs : List MapEntry} (j : Nat), RepE w es xs → ∀ k p, es[j]? = some (k, p) → ∃ e, xs[j]? = some e ∧ Rep w (fun _ => False) k e.key ∧ Rep w (fun _ => False) p e.val
  | [], xs, j, h, k, p, hj => by simp at hj
  | (k', p') :: r, xs, 0, h, k, p, hj => by
    obtain ⟨e', s, rfl, g1, g2, h3⟩ := h
    simp at hj; obtain ⟨rfl, rfl⟩ := hj
    exact ⟨e', rfl, g1, g2⟩
  | (k', p') :: r, xs, j + 1, h, k, p, hj => by
    obtain ⟨e', s, rfl, g1, g2, h3⟩ := h
    simpa using RepE.get j h3 k p (by simpa using hj)
theorem RepE.append {w : World} : ∀ {es : List (PV × PV)} {xs : List MapEntry} {k p : PV} {e : MapEntry}, RepE w es xs → Rep w (fun _ => False) k e.key → Rep w (fun _ => False) p e.val → RepE w (es ++ [(k, p)]) (xs ++ [e])
  | [], xs, k, p, e, h, h1, h2 => by simp only [RepE] at h; subst h; exact ⟨e, [], rfl, h1, h2, rfl⟩
  | (k', p') :: r, xs, k, p, e, h, h1, h2 => by
    obtain ⟨e', s, rfl, g1, g2, h3⟩ := h
    exact ⟨e', s ++ [e], rfl, g1, g2, RepE.append h3 h1 h2⟩
def putE (es : List (PV × PV)) (k p : PV) : Option (Nat × PV) → List (PV × PV)
  | some (i, _) => es.set i (k, p)
  | none => es ++ [(k, p)]
theorem keyEq_same {t : TK} {a b : PV} {x y : Value} {w : World} {F F' : Nat → Prop} (h : keyEq t a b = some true) (hx : Rep w F a x) (hy : Rep w F' b y) (m : Nat) : Instr.sameBits m y x = true := by
  unfold keyEq at h
  split at h
  · rename_i k0 k a k' b
    cases hk : kEq k k' with
    | false => rw [hk] at h; cases h
    | true =>
      rw [hk] at h
      obtain rfl := kEq_ok hk
      simp only [cond_true, Option.some.injEq, intEq_eq, beq_iff_eq] at h
      simp only [Rep] at hx hy
      subst hx; subst hy; subst h
      unfold Instr.sameBits; simp
  · simp only [Rep] at hx hy
    simp only [Option.some.injEq, beq_iff_eq] at h
    subst hx; subst hy; subst h
    unfold Instr.sameBits
    first | exact (bytes_beq _ _).mpr rfl | simp
  · simp only [Rep] at hx hy
    simp only [Option.some.injEq, beq_iff_eq] at h
    subst hx; subst hy; subst h
    unfold Instr.sameBits
    first | exact (bytes_beq _ _).mpr rfl | simp
  · cases h
theorem findE_hit {t : TK} {k : PV} : ∀ {es : List (PV × PV)} {i j : Nat} {p : PV}, findE t k es i = some (some (j, p)) → i ≤ j ∧ ∃ k', es[j - i]? = some (k', p) ∧ keyEq t k k' = some true
  | [], i, j, p, h => by simp [findE] at h
  | (k', p') :: es, i, j, p, h => by
    unfold findE at h
    split at h
    · rename_i he
      simp only [Option.some.injEq, Prod.mk.injEq] at h
      obtain ⟨rfl, rfl⟩ := h
      exact ⟨Nat.le_refl _, k', by simp, he⟩
    · obtain ⟨h1, k2, h2, h3⟩ := findE_hit h
      refine ⟨by omega, k2, ?_, h3⟩
      rw [show j - i = (j - (i + 1)) + 1 by omega]; simpa using h2
    · cases h
theorem op_mapset {t kt et : TypeId} {tk : TK} {k p : PV} {x y v : Operand} {l h : Nat} {es0 es : List (PV × PV)} {r : Option (Nat × PV)} {op : Op} {dst : Option Nat} (hop : op = .mapUpdate t x y v ∨ op = .insert t x y v) (hdst : dst = none) (ht : P.underlying t = some (.map kt et)) (hkt : tk.is P kt)
    {sv : SV} (hx : σ.ev x = some (.map l es0)) (hh : σ.at h = some (.map l es)) (hy : σ.ev y = some (.val k)) (hv : σ.ev v = some sv) (hsv : sv.pv = some p) (hp : p.flat = true) (hk : keyOk tk k = true) (hf : findE tk k es 0 = some r) (hK : K (σ.setl h l (.map l (putE es k p r)))) :
    opT P n ⟨dst, op, ty, pos, af, gd⟩ σ K := by
  subst hdst
  intro C a w hS K' Q hK'
  obtain ⟨G, hG, hE⟩ := hS.gh
  obtain ⟨_, _, hxv, _, _, _⟩ := hE.ev hx
  obtain ⟨arr, clock, hhv, hg, hhb, hr⟩ := hE h _ hh
  have hkv := hE.ev hy
  simp only [Ok] at hkv
  have hpv : Rep w (fun _ => False) p (a.eval v) := Rep.flat p _ hp ((hE.ev hv).rep hsv)
  have hfe := findE_ok hkv hr hf
  have hkey := keyOk_isKey hk hkv
  have key : ∃ arr' clock', (Instr.mapUpdate t (a.eval x) (a.eval y) (a.eval v)).run P w = .ok () { w with heap := w.heap.setIfInBounds (G.r l) (.map arr' clock') } ∧ RepE w (putE es k p r) arr'.toList := by
    cases r with
    | none =>
      refine ⟨arr.push { key := a.eval y, val := a.eval v, born := clock }, clock + 1, ?_, by simpa [putE] using hr.append (e := { key := a.eval y, val := a.eval v, born := clock }) hkv hpv⟩
      simp [Instr.mapUpdate, run_underlying ht, hxv, MapKept.run_getObj_map hhb, Result.andThen, MapKept.run_checkKey hkt hkey, MapKept.run_findKey hkt hfe, MapKept.run_setObj_map _ hhb]
    | some q =>
      obtain ⟨j, p0⟩ := q
      obtain ⟨v0, g1, g2, _⟩ := hfe
      obtain ⟨_, k', h2, h3⟩ := findE_hit hf
      simp only [Nat.sub_zero] at h2
      obtain ⟨e0, h4, h5, h6⟩ := RepE.get j hr k' p0 h2
      have hsame : Instr.sameBits 10000 e0.key (a.eval y) = true := keyEq_same h3 hkv h5 10000
      have hold : (arr[j]?).map (·.key) = some e0.key := by
        have : arr[j]? = some e0 := by simpa using h4
        rw [this]; rfl
      refine ⟨arr.modify j fun e => { e with key := a.eval y, val := a.eval v }, clock, ?_, ?_⟩
      · simp [Instr.mapUpdate, run_underlying ht, hxv, MapKept.run_getObj_map hhb, Result.andThen, MapKept.run_checkKey hkt hkey, MapKept.run_findKey hkt g1, MapKept.run_setObj_map _ hhb, hold, Instr.keyThatStays, hsame]
      · have hjl : j < arr.toList.length := (List.getElem?_eq_some_iff.1 h4).1
        have e1 : (arr.modify j fun e => { e with key := a.eval y, val := a.eval v }).toList = arr.toList.set j { e0 with key := a.eval y, val := a.eval v } := by
          rw [Array.toList_modify]
          have h7 : arr.toList[j] = e0 := by rw [List.getElem?_eq_getElem hjl] at h4; exact Option.some.inj h4
          apply List.ext_getElem (by simp)
          intro q q1 q2
          simp only [List.getElem_modify, List.getElem_set]
          by_cases hq : j = q
          · subst hq; simp [h7]
          · simp [hq]
        rw [e1]
        exact hr.set (e := { e0 with key := a.eval y, val := a.eval v }) j hkv hpv
  obtain ⟨arr', clock', hrun, hr'⟩ := key
  have hop' : (execOp a.eval ⟨none, op, ty, pos, af, gd⟩).run P w = .ok .skip { w with heap := w.heap.setIfInBounds (G.r l) (.map arr' clock') } := by
    rcases hop with rfl | rfl <;> simp [execOp, hrun, Result.andThen]
  unfold Oper.wp
  rw [hop']
  have hlt := (hG.1 _ _ hg).2
  obtain ⟨hG', hE', hbel⟩ := set_core (h := h) (o' := .map arr' clock') (y' := .map l (putE es k p r)) hS hG hE hhb hg rfl rfl ⟨arr', clock', hhv, hg, by show (w.heap.setIfInBounds (G.r l) _)[G.r l]? = _; exact (heap_set hhb).1, hr'.mono⟩
  exact hK' _ _ _ hK ⟨hS.fp, hbel, hS.dfs, hS.size, G, hG', hE'⟩
/-! ### A range over a text -/
theorem op_range_str {t : TypeId} {x : Operand} {s : List UInt8} (ht : P.underlying t = some .string) (hx : σ.ev x = some (.val (.str s))) (hd : d < n) (hd0 : d ≠ 2000) (hfr : σ.labels.all (· != d) = true)
    (hK : K ((d, .sit d s 0) :: σ)) : opT P n ⟨some d, .range t x, ty, pos, af, gd⟩ σ K := by
  refine op_obj hd hd0 hfr (.sit d s 0) (.stringIter ⟨s.toArray⟩ 0) (fun C a w G hS hG hE => ?_) hK
  have hroot := new_root (G := G) (b0 := w.heap.size) (d := d)
  have e1 := hE.ev hx
  simp only [Ok, Rep] at e1
  refine ⟨.pointer (some ⟨w.heap.size, 0, none⟩), ?_, ⟨by rw [hroot.1], by rw [hroot.1]; exact hroot.2, by rw [hroot.1]; exact heap_alloc_new w _⟩⟩
  simp only [execOp, e1, Sem.run_bind, run_range_string w t _ ht, Result.andThen, Sem.run_pure]
  rfl
def runeAt (s : List UInt8) (i : Nat) : Nat × Nat := Utf8.decode ⟨s.toArray⟩ i
theorem op_next_end {x : Operand} {l i : Nat} {s : List UInt8} (hx : σ.ev x = some (.sit l s i)) (hi : s.length ≤ i) (hd : d < n) (hK : K ((d, .tup [.val (.bool false)]) :: σ)) : opT P n ⟨some d, .next x true, ty, pos, af, gd⟩ σ K := by
  intro C a w hS K' Q hK'
  obtain ⟨G, hG, hE⟩ := hS.gh
  obtain ⟨hv, hg, hh⟩ := hE.ev hx
  have hop : (execOp a.eval ⟨some d, .next x true, ty, pos, af, gd⟩).run P w = .ok (.value (.tuple #[.bool false])) w := by
    have hsz : ¬ i < (ByteArray.mk s.toArray).size := by simp [ByteArray.size]; omega
    simp [execOp, hv, Instr.next, getObj, Sem.run, hh, hsz]
  unfold Oper.wp
  rw [hop, Oper.upon_value]
  exact hK' _ _ _ hK (hS.put hG hE hd ⟨[.bool false], rfl, .bool false, [], rfl, by simp [Ok, Rep], rfl⟩)
theorem op_next_str {x : Operand} {l h i : Nat} {s : List UInt8} (hx : σ.ev x = some (.sit l s i)) (hh : σ.at h = some (.sit l s i)) (hi : i < s.length) (hd : d < n)
    (hK : K ((d, .tup [.val (.bool true), .val (.int .i64 i), .val (.int .i32 (runeAt s i).1)]) :: σ.setl h l (.sit l s (i + (runeAt s i).2)))) : opT P n ⟨some d, .next x true, ty, pos, af, gd⟩ σ K := by
  intro C a w hS K' Q hK'
  obtain ⟨G, hG, hE⟩ := hS.gh
  obtain ⟨hv, hg, hob⟩ := hE.ev hx
  obtain ⟨hhv, _, _⟩ := hE h _ hh
  have hop : (execOp a.eval ⟨some d, .next x true, ty, pos, af, gd⟩).run P w = .ok (.value (.tuple #[.bool true, .int .i64 i, .int .i32 (runeAt s i).1])) { w with heap := w.heap.setIfInBounds (G.r l) (.stringIter ⟨s.toArray⟩ (i + (runeAt s i).2)) } := by
    have hsz : i < (ByteArray.mk s.toArray).size := by simpa [ByteArray.size] using hi
    simp [execOp, hv, Instr.next, getObj, setObj, Sem.run, hob, hsz, runeAt, goInt]
  unfold Oper.wp
  rw [hop, Oper.upon_value]
  obtain ⟨hG', hE', hbel⟩ := set_core (h := h) (o' := .stringIter ⟨s.toArray⟩ (i + (runeAt s i).2)) (y' := .sit l s (i + (runeAt s i).2)) hS hG hE hob hg rfl rfl ⟨hhv, hg, by show (w.heap.setIfInBounds (G.r l) _)[G.r l]? = _; exact (heap_set hob).1⟩
  have hS' : Sim n C (σ.setl h l (.sit l s (i + (runeAt s i).2))) a { w with heap := w.heap.setIfInBounds (G.r l) (.stringIter ⟨s.toArray⟩ (i + (runeAt s i).2)) } := ⟨hS.fp, hbel, hS.dfs, hS.size, G, hG', hE'⟩
  refine hK' _ _ _ hK (hS'.put hG' hE' hd ⟨[.bool true, .int .i64 i, .int .i32 (runeAt s i).1], rfl, ?_⟩)
  exact ⟨_, _, rfl, by simp [Ok, Rep], _, _, rfl, by simp [Ok, Rep], _, _, rfl, by simp [Ok, Rep], rfl⟩
theorem runeAt_ascii {s : List UInt8} {i : Nat} (h : i < s.length) (ha : (s.getD i 0).toNat < 128) : runeAt s i = ((s.getD i 0).toNat, 1) := by
  have hsz : i < (ByteArray.mk s.toArray).size := by simpa [ByteArray.size] using h
  have e : (ByteArray.mk s.toArray)[i]'hsz = s.getD i 0 := by
    show s.toArray[i]'_ = _
    simp [h]
  have := decode_ascii ⟨s.toArray⟩ i hsz (by rw [e]; exact ha)
  rw [e] at this
  exact this
end
end Go.Proofs.YtfagllolcalfiabDoor
