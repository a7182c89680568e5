/- Maps whose values are rows; slices whose elements lie in other rows; loads with an equality. Own work; no conditions; nothing here is about one program. -/
import Derived.Test.YtfagllolcalfiaaDoorPwX
namespace Go.Proofs.YtfagllolcalfiaaDoor
open Go.RowKit Go.MapKept
set_option linter.unusedVariables false
set_option linter.unusedSimpArgs false

section
variable {P : Program} {n : Nat} {σ : St} {K : St → Prop} {d : Nat} {ty : TypeId} {pos : String} {af : Array Edge} {gd : Option (Nat × Bool)}

theorem q_load_rd_aggE {t : TypeId} {k : Nat} (ht : AggTy P t k) {x : Operand} {s : SV} {cs ds : List PV} (hx : σ.ev x = some s) (hs : (∃ i, s = .rpar i cs) ∨ ∃ l, s = .rbor l cs) (hk : k ≤ cs.length) (he : cs.take k = ds) (hf : PV.flatL ds = true) (hd : d < n) : quietT P n ⟨some d, .load t x, ty, pos, af, gd⟩ σ d (.val (.agg ds)) :=
  he ▸ q_load_rd_agg ht hx hs hk (he ▸ hf) hd

/-! ### Maps of rows -/

def findG (t : TK) (k : PV) : List (PV × Option (Nat × List PV)) → Nat → Option (Option Nat)
  | [], _ => some none
  | (k', _) :: r, i => match keyEq t k k' with
    | some true => some (some i)
    | some false => findG t k r (i + 1)
    | none => none

def KeysG (w : World) : List (PV × Option (Nat × List PV)) → List MapEntry → Prop
  | [], xs => xs = []
  | (k, _) :: r, xs => ∃ x s, xs = x :: s ∧ Rep w (fun _ => False) k x.key ∧ KeysG w r s

theorem keysG_of {w : World} : ∀ {es : List (PV × Option (Nat × List PV))} {xs : List MapEntry}, xs.length = es.length → (∀ (i : Nat) k o x, es[i]? = some (k, o) → xs[i]? = some x → Rep w (fun _ => False) k x.key) → KeysG w es xs
  | [], xs, h, _ => List.eq_nil_of_length_eq_zero (by simpa using h)
  | (k, o) :: r, [], h, _ => by simp at h
  | (k, o) :: r, x :: s, h, hk => ⟨x, s, rfl, hk 0 k o x rfl rfl, keysG_of (by simpa using h) (fun i k' o' x' h1 h2 => hk (i + 1) k' o' x' (by simpa using h1) (by simpa using h2))⟩

theorem RepG.keys {w : World} {G : Gh} {l e : Nat} {es : List (PV × Option (Nat × List PV))} {xs : List MapEntry} (h : RepG w G l e es xs) : KeysG w es xs := keysG_of h.len h.key

theorem findG_ok {t : TK} {k : PV} {kv : Value} {w : World} {F : Nat → Prop} (hk : Rep w F k kv) : ∀ {es : List (PV × Option (Nat × List PV))} {xs : List MapEntry} {i : Nat} {r : Option Nat}, KeysG w es xs → findG t k es i = some r →
    match r with
    | none => Instr.findNow t.desc kv xs i = some none
    | some j => ∃ x, xs[j - i]? = some x ∧ Instr.findNow t.desc kv xs i = some (some (j, x.val)) ∧ i ≤ j ∧ ∃ k' o, es[j - i]? = some (k', o) ∧ keyEq t k k' = some true
  | [], xs, i, r, h, hf => by
    simp only [KeysG] at h; subst h
    simp only [findG, Option.some.injEq] at hf; subst hf
    rfl
  | (k', o) :: es, xs, i, r, h, hf => by
    obtain ⟨x, s, rfl, h1, h3⟩ := h
    unfold findG at hf
    split at hf
    · rename_i he
      simp only [Option.some.injEq] at hf; subst hf
      exact ⟨x, by simp, by simp [Instr.findNow, keyEq_ok he hk h1], Nat.le_refl _, k', o, by simp, he⟩
    · rename_i he
      have := findG_ok hk h3 hf
      have hn := keyEq_ok he hk h1
      cases r with
      | none => simpa [Instr.findNow, hn] using this
      | some j =>
        obtain ⟨v, g0, g1, g3, k2, o2, g4, g5⟩ := this
        refine ⟨v, ?_, by simpa [Instr.findNow, hn] using g1, by omega, k2, o2, ?_, g5⟩
        · rw [show j - i = (j - (i + 1)) + 1 by omega]; simpa using g0
        · rw [show j - i = (j - (i + 1)) + 1 by omega]; simpa using g4
    · cases hf

theorem q_nilmapG {e : Nat} (hd : d < n) : quietT P n ⟨some d, .assign (.const (.map none)), ty, pos, af, gd⟩ σ d (.gmap d e false []) :=
  ⟨rfl, hd, fun C a w G hS hG hE => ⟨.map none, fun w2 _ => by simp [execOp, Act.eval], .inl ⟨rfl, rfl, rfl⟩⟩⟩

theorem q_lookupG_miss {t kt et : TypeId} {tk : TK} {z k : PV} {x y : Operand} {l e : Nat} {b : Bool} {es : List (PV × Option (Nat × List PV))} (ht : P.underlying t = some (.map kt et)) (hkt : tk.is P kt) (hz : ZvTy P et z)
    (hx : σ.ev x = some (.gmap l e b es)) (hy : σ.ev y = some (.val k)) (hk : keyOk tk k = true) (hf : findG tk k es 0 = some none) (hd : d < n) : quietT P n ⟨some d, .lookup t x y false, ty, pos, af, gd⟩ σ d (.val z) := by
  refine ⟨rfl, hd, fun C a w G hS hG hE => ?_⟩
  have hkv := hE.ev hy
  simp only [Ok] at hkv
  obtain ⟨z', hz1, hz2⟩ := hz
  have hkey := keyOk_isKey hk hkv
  refine ⟨z', fun w2 hb => ?_, cv_ok hz2⟩
  rcases hE.ev hx with ⟨_, hv, _⟩ | ⟨arr, clock, hv, hg, hh, hr⟩
  · simp [execOp, hv, Instr.lookup, run_underlying ht, Result.andThen, MapKept.run_checkKey hkt hkey, MapKept.run_findKey hkt (show Instr.findNow tk.desc (a.eval y) [] 0 = some none from rfl), hz1]
  · have hfe := findG_ok hkv hr.keys hf
    have hlt := (hG.1 _ _ hg).2
    have hw2 : w2.heap[G.r l]? = some (.map arr clock) := by rw [hb.block _ hlt]; exact hh
    simp [execOp, hv, Instr.lookup, run_underlying ht, MapKept.run_getObj_map hw2, Result.andThen, MapKept.run_checkKey hkt hkey, MapKept.run_findKey hkt hfe, hz1]

theorem q_lookupG_nil {t kt et e : TypeId} {tk : TK} {k : PV} {x y : Operand} {l e0 : Nat} {b : Bool} {es : List (PV × Option (Nat × List PV))} (ht : P.underlying t = some (.map kt et)) (hkt : tk.is P kt) (hz : ZvTy P et (.sl 0 []))
    (hx : σ.ev x = some (.gmap l e0 b es)) (hy : σ.ev y = some (.val k)) (hk : keyOk tk k = true) (hf : findG tk k es 0 = some none) (hd : d < n) : quietT P n ⟨some d, .lookup t x y false, ty, pos, af, gd⟩ σ d (.own d e 1 0 []) := by
  obtain ⟨h1, h2, h3⟩ := q_lookupG_miss (P := P) (n := n) (σ := σ) (ty := ty) (pos := pos) (af := af) (gd := gd) ht hkt hz hx hy hk hf hd
  refine ⟨h1, h2, fun C a w G hS hG hE => ?_⟩
  obtain ⟨v, g1, g2⟩ := h3 C a w G hS hG hE
  simp only [Ok, Rep] at g2
  rcases g2 with ⟨rfl, _⟩ | ⟨b, _, _, _, _, hf, _⟩
  · exact ⟨_, g1, [], World.ownsRow_nil _ _ _ _, fun b hb => by simp [Value.ownBlock] at hb, rfl⟩
  · exact hf.elim

theorem q_len_mapG {t kt et : TypeId} {x : Operand} {l e : Nat} {b : Bool} {es : List (PV × Option (Nat × List PV))} (ht : P.underlying t = some (.map kt et)) (hx : σ.ev x = some (.gmap l e b es)) (hd : d < n) : quietT P n ⟨some d, .call { callee := .builtin .len, args := #[x], argTypes := #[t] }, ty, pos, af, gd⟩ σ d (.val (.int .i64 es.length)) := by
  refine ⟨rfl, hd, fun C a w G hS hG hE => ?_⟩
  refine ⟨.int .i64 es.length, fun w2 hb => ?_, by simp [Ok, Rep]⟩
  rcases hE.ev hx with ⟨_, hv, rfl⟩ | ⟨arr, clock, hv, hg, hh, hr⟩
  · simp [execOp, resolve, invoke, builtin, Builtin.len_, hv, run_underlying ht, Result.andThen, goInt]
  · have hlt := (hG.1 _ _ hg).2
    have hw2 : w2.heap[G.r l]? = some (.map arr clock) := by rw [hb.block _ hlt]; exact hh
    have hl : arr.size = es.length := by rw [← Array.length_toList, hr.len]
    simp [execOp, resolve, invoke, builtin, Builtin.len_, hv, MapKept.run_getObj_map hw2, run_underlying ht, Result.andThen, goInt, hl]

theorem op_makeMapG {t kt et e : TypeId} {r : Option Operand} (ht : P.underlying t = some (.map kt et)) (hr : r = none ∨ ∃ x i, r = some x ∧ σ.ev x = some (.val (.int .i64 i))) (hd : d < n) (hd0 : d ≠ 2000) (hfr : σ.labels.all (· != d) = true)
    (hK : K ((d, .gmap d e true []) :: σ)) : opT P n ⟨some d, .makeMap t r, ty, pos, af, gd⟩ σ K := by
  refine op_obj hd hd0 hfr (.gmap d e true []) (.map #[] 0) (fun C a w G hS hG hE => ?_) hK
  have hroot := new_root (G := G) (b0 := w.heap.size) (d := d)
  refine ⟨.map (some w.heap.size), ?_, .inr ⟨#[], 0, by rw [hroot.1], by rw [hroot.1]; exact hroot.2, by rw [hroot.1]; exact heap_alloc_new w _, ⟨rfl, fun i k o x h => by simp at h, fun i k n cs x h => by simp at h, fun i j k k' o o' x y b _ h => by simp at h⟩⟩⟩
  rcases hr with rfl | ⟨x, i, rfl, hx⟩
  · simp [execOp, Instr.makeMap, newObj, Sem.run]
  · have e1 := hE.ev hx
    simp only [Ok, Rep] at e1
    simp [execOp, Instr.makeMap, newObj, e1, asInt, run_underlying ht, Result.andThen]
    rfl

theorem RepG.drop {w : World} {G : Gh} {l e : Nat} {es : List (PV × Option (Nat × List PV))} {xs : List MapEntry} (h : RepG w G l e es xs) {i : Nat} {k : PV} {o : Option (Nat × List PV)} (hi : es[i]? = some (k, o)) : RepG w G l e (es.set i (k, none)) xs := by
  have hil := (List.getElem?_eq_some_iff.1 hi).1
  have at_ : ∀ j p, (es.set i (k, none))[j]? = some p → (j = i ∧ p = (k, none)) ∨ (j ≠ i ∧ es[j]? = some p) := by
    intro j p hj
    by_cases e : j = i
    · subst e; rw [List.getElem?_set_self hil] at hj; exact .inl ⟨rfl, (Option.some.inj hj).symm⟩
    · rw [List.getElem?_set_ne (Ne.symm e)] at hj; exact .inr ⟨e, hj⟩
  refine ⟨by rw [h.len, List.length_set], fun j k' o' x h1 h2 => ?_, fun j k' n cs x h1 h2 => ?_, fun j j' k1 k2 o1 o2 x y b hne h1 h2 h3 h4 h5 => ?_⟩
  · rcases at_ j _ h1 with ⟨rfl, hp⟩ | ⟨_, hp⟩
    · cases hp; exact h.key j k o x hi h2
    · exact h.key j k' o' x hp h2
  · rcases at_ j _ h1 with ⟨_, hp⟩ | ⟨_, hp⟩
    · cases hp
    · exact h.row j k' n cs x hp h2
  · rcases at_ j _ h1 with ⟨_, hp⟩ | ⟨_, hp⟩
    · cases hp
    · rcases at_ j' _ h2 with ⟨_, hq⟩ | ⟨_, hq⟩
      · cases hq
      · exact h.apart j j' k1 k2 o1 o2 x y b hne hp hq h3 h4 h5

def SV.isG (l : Nat) : SV → Bool
  | .gmap l' _ b _ => Nat.beq l' l && b
  | _ => false

/-- The handles of a map hold y; what else hangs on its label is forgotten. -/
def St.setg (l : Nat) (y : SV) (σ : St) : St := σ.map fun e => (e.1, bif e.2.isG l then y else bif e.2.labels.contains l then .dead else e.2)

theorem setg_at {l : Nat} {y : SV} : ∀ {σ : St} {s : Nat} {x : SV}, (σ.setg l y).at s = some x → (x = y ∧ ∃ e es, σ.at s = some (.gmap l e true es)) ∨ x = .dead ∨ (σ.at s = some x ∧ l ∉ x.labels)
  | [], s, x, hx => by simp [St.setg, St.at] at hx
  | (t, z) :: r, s, x, hx => by
    simp only [St.setg, List.map_cons, St.at] at hx ⊢
    split at hx
    · rename_i he; subst he
      simp only [Option.some.injEq] at hx
      cases hb : z.isG l with
      | true =>
        rw [hb] at hx
        refine .inl ⟨hx.symm, ?_⟩
        cases z with
        | gmap l' e b es =>
          simp only [SV.isG, Bool.and_eq_true] at hb
          obtain ⟨h1, rfl⟩ := hb
          obtain rfl := Nat.eq_of_beq_eq_true h1
          exact ⟨e, es, by simp⟩
        | _ => simp [SV.isG] at hb
      | false =>
        rw [hb] at hx
        cases hc : z.labels.contains l with
        | true => rw [hc] at hx; exact .inr (.inl hx.symm)
        | false =>
          rw [hc] at hx
          simp only [cond_false] at hx
          subst hx
          exact .inr (.inr ⟨by simp, by simpa using hc⟩)
    · rename_i hne
      rw [if_neg hne]
      exact setg_at (σ := r) hx

theorem St.ev_mem {σ : St} {x : Operand} {z : SV} (h : σ.ev x = some z) (hv : ∀ p, z ≠ .val p) (hf : ∀ f, z ≠ .fn f) : ∃ s, σ.at s = some z := by
  cases x with
  | tmp s => exact ⟨s, h⟩
  | const c => obtain ⟨p, _, hp⟩ := Option.map_eq_some_iff.1 h; exact absurd hp.symm (hv p)
  | func f => simp [St.ev] at h; exact absurd h.symm (hf f)
  | global g => simp [St.ev] at h

/-- A look-up that meets an entry: its row is now the slot's; of the map's entry nothing is said till it is stored again. -/
theorem op_lookupG {t kt et : TypeId} {tk : TK} {k k' : PV} {x y : Operand} {l e i m : Nat} {cs : List PV} {es : List (PV × Option (Nat × List PV))} (ht : P.underlying t = some (.map kt et)) (hkt : tk.is P kt)
    (hx : σ.ev x = some (.gmap l e true es)) (hy : σ.ev y = some (.val k)) (hk : keyOk tk k = true) (hf : findG tk k es 0 = some (some i)) (hi : es[i]? = some (k', some (m, cs)))
    (hd : d < n) (hd0 : d ≠ 2000) (hl0 : l ≠ 2000) (hfr : σ.labels.all (· != d) = true) (hK : K ((d, .own d e 1 m cs) :: σ.setg l (.gmap l e true (es.set i (k', none))))) : opT P n ⟨some d, .lookup t x y false, ty, pos, af, gd⟩ σ K := by
  intro C a w hS K' Q hK'
  obtain ⟨G, hG, hE⟩ := hS.gh
  have hfr' : ∀ q ∈ σ.labels, q ≠ d := by simpa using hfr
  have hval : ∀ (e' : Nat) (es' : List (PV × Option (Nat × List PV))) (v : Value), Ok C w G (.gmap l e' true es') v → v = .map (some (G.r l)) := fun e' es' v h => by
    rcases h with ⟨h1, _⟩ | ⟨_, _, h1, _⟩
    · cases h1
    · exact h1
  obtain ⟨arr, clock, hxv, hg, hhb, hr⟩ : ∃ arr clock, a.eval x = .map (some (G.r l)) ∧ G.g (G.r l) = some l ∧ w.heap[G.r l]? = some (.map arr clock) ∧ RepG w G l e es arr.toList := by
    rcases hE.ev hx with ⟨h1, _⟩ | h1
    · cases h1
    · exact h1
  obtain ⟨xs, hxs⟩ := St.ev_mem hx (fun p h => by cases h) (fun f h => by cases h)
  have hkv := hE.ev hy
  simp only [Ok] at hkv
  have hkey := keyOk_isKey hk hkv
  obtain ⟨u, g0, g1, _, _, _, _, _⟩ := findG_ok hkv hr.keys hf
  simp only [Nat.sub_zero] at g0
  obtain ⟨vs, ho, hb, hc⟩ := hr.row i k' m cs u hi g0
  have hop : (execOp a.eval ⟨some d, .lookup t x y false, ty, pos, af, gd⟩).run P w = .ok (.value u.val) w := by
    simp [execOp, hxv, Instr.lookup, run_underlying ht, MapKept.run_getObj_map hhb, Result.andThen, MapKept.run_checkKey hkt hkey, MapKept.run_findKey hkt g1]
  unfold Oper.wp
  rw [hop, Oper.upon_value]
  let G' : Gh := ⟨fun b => if u.val.ownBlock = some b then some d else G.g b, fun q => if q = d then u.val.ownBlock.getD 0 else G.r q⟩
  have hld : l ≠ d := hfr' l (St.labels_at hxs l (by simp [SV.labels]))
  have g2 : ∀ b q, u.val.ownBlock ≠ some b → G.g b = some q → G'.g b = some q := fun b q hn hq => by show (if u.val.ownBlock = some b then some d else G.g b) = _; rw [if_neg hn]; exact hq
  have hG' : G'.fits C w := by
    refine ⟨fun b q hq => ?_, ?_, fun b hx => ?_⟩
    · have hq' : (if u.val.ownBlock = some b then some d else G.g b) = some q := hq
      split at hq'
      · rename_i hv; exact hG.1 b l (hb b hv).1
      · exact hG.1 b q hq'
    · show (if 2000 = d then _ else G.r 2000) = _
      rw [if_neg (Ne.symm hd0)]; exact hG.2.1
    · have h2 := hG.2.2 b hx
      refine g2 b _ (fun hv => ?_) h2
      rw [(hb b hv).1] at h2; exact hl0 (Option.some.inj h2)
  have hE' : Env C (σ.setg l (.gmap l e true (es.set i (k', none)))) a w G' := by
    intro s y' hy'
    rcases setg_at hy' with ⟨rfl, e2, es2, hz⟩ | rfl | ⟨hx', hl⟩
    · have hhv := hval _ _ _ (hE s _ hz)
      right
      have hrl : G'.r l = G.r l := by show (if l = d then _ else G.r l) = _; rw [if_neg hld]
      refine ⟨arr, clock, by rw [hrl]; exact hhv, by rw [hrl]; exact g2 _ _ (fun hv => (hb _ hv).2 rfl) hg, by rw [hrl]; exact hhb, ?_⟩
      have hr' := hr.drop hi
      have hil := (List.getElem?_eq_some_iff.1 hi).1
      refine ⟨hr'.len, hr'.key, fun j kj nj cj xj h1 h2 => ?_, hr'.apart⟩
      obtain ⟨vj, oj, bj, rj⟩ := hr'.row j kj nj cj xj h1 h2
      refine ⟨vj, oj, fun b hv => ⟨g2 b l (fun hu => ?_) (bj b hv).1, by rw [hrl]; exact (bj b hv).2⟩, rj⟩
      have hji : j ≠ i := fun e => by
        subst e; rw [List.getElem?_set_self hil] at h1; cases h1
      rw [List.getElem?_set_ne (Ne.symm hji)] at h1
      exact hr.apart i j k' kj _ _ u xj b (Ne.symm hji) hi h1 g0 h2 hu hv
    · trivial
    · refine Ok.keep hS.fp (Stays.refl _ _) y' _ (fun q hq => ⟨?_, fun b hb' => ?_, fun _ _ => rfl⟩) (hE s y' hx')
      · show (if q = d then _ else G.r q) = G.r q
        rw [if_neg (hfr' q (St.labels_at hx' q hq))]
      · refine g2 b q (fun hv => ?_) hb'
        rw [(hb b hv).1] at hb'; exact hl (Option.some.inj hb' ▸ hq)
  refine hK' _ _ _ hK ?_
  have hS' : Sim n C (σ.setg l (.gmap l e true (es.set i (k', none)))) a w := ⟨hS.fp, hS.below, hS.dfs, hS.size, G', hG', hE'⟩
  refine hS'.put hG' hE' hd ⟨vs, ho, fun b hv => ⟨?_, ?_⟩, RepL.mono (fun _ h => h.elim) (fun _ h => h.elim) cs vs hc⟩
  · show b = (if d = d then u.val.ownBlock.getD 0 else _)
    rw [if_pos rfl, hv]; rfl
  · show (if u.val.ownBlock = some b then some d else _) = _
    rw [if_pos hv]

theorem RepG.set {w : World} {G : Gh} {l e : Nat} {es : List (PV × Option (Nat × List PV))} {xs : List MapEntry} (h : RepG w G l e es xs) {i : Nat} {k : PV} {n : Nat} {cs : List PV} {x : MapEntry} (hi : i < es.length) (hk : Rep w (fun _ => False) k x.key) (hr : RowG w G l e n cs x.val)
    (ha : ∀ (j : Nat) k' o' y b, j ≠ i → es[j]? = some (k', some o') → xs[j]? = some y → x.val.ownBlock = some b → y.val.ownBlock ≠ some b) : RepG w G l e (es.set i (k, some (n, cs))) (xs.set i x) := by
  have hxi : i < xs.length := by rw [h.len]; exact hi
  have at_ : ∀ j p, (es.set i (k, some (n, cs)))[j]? = some p → (j = i ∧ p = (k, some (n, cs))) ∨ (j ≠ i ∧ es[j]? = some p) := by
    intro j p hj
    by_cases e : j = i
    · subst e; rw [List.getElem?_set_self hi] at hj; exact .inl ⟨rfl, (Option.some.inj hj).symm⟩
    · rw [List.getElem?_set_ne (Ne.symm e)] at hj; exact .inr ⟨e, hj⟩
  have xat : ∀ j y, (xs.set i x)[j]? = some y → (j = i → y = x) ∧ (j ≠ i → xs[j]? = some y) := by
    intro j y hj
    refine ⟨fun e => ?_, fun e => ?_⟩
    · subst e; rw [List.getElem?_set_self hxi] at hj; exact (Option.some.inj hj).symm
    · rwa [List.getElem?_set_ne (Ne.symm e)] at hj
  refine ⟨by rw [List.length_set, h.len, List.length_set], fun j k' o' y h1 h2 => ?_, fun j k' n' cs' y h1 h2 => ?_, fun j j' k1 k2 o1 o2 y1 y2 b hne h1 h2 h3 h4 h5 => ?_⟩
  · rcases at_ j _ h1 with ⟨e, hp⟩ | ⟨e, hp⟩
    · cases hp; obtain rfl := (xat j y h2).1 e; exact hk
    · exact h.key j k' o' y hp ((xat j y h2).2 e)
  · rcases at_ j _ h1 with ⟨e, hp⟩ | ⟨e, hp⟩
    · cases hp; obtain rfl := (xat j y h2).1 e; exact hr
    · exact h.row j k' n' cs' y hp ((xat j y h2).2 e)
  · rcases at_ j _ h1 with ⟨e, hp⟩ | ⟨e, hp⟩
    · obtain rfl := (xat j y1 h3).1 e
      rcases at_ j' _ h2 with ⟨e', hq⟩ | ⟨e', hq⟩
      · exact absurd (e.trans e'.symm) hne
      · exact ha j' k2 o2 y2 b e' hq ((xat j' y2 h4).2 e') h5
    · rcases at_ j' _ h2 with ⟨e', hq⟩ | ⟨e', hq⟩
      · obtain rfl := (xat j' y2 h4).1 e'
        exact fun h6 => ha j k1 o1 y1 b e hp ((xat j y1 h3).2 e) h6 h5
      · exact h.apart j j' k1 k2 o1 o2 y1 y2 b hne hp hq ((xat j y1 h3).2 e) ((xat j' y2 h4).2 e') h5

theorem RepG.push {w : World} {G : Gh} {l e : Nat} {es : List (PV × Option (Nat × List PV))} {xs : List MapEntry} (h : RepG w G l e es xs) {k : PV} {n : Nat} {cs : List PV} {x : MapEntry} (hk : Rep w (fun _ => False) k x.key) (hr : RowG w G l e n cs x.val)
    (ha : ∀ (j : Nat) k' o' y b, es[j]? = some (k', some o') → xs[j]? = some y → x.val.ownBlock = some b → y.val.ownBlock ≠ some b) : RepG w G l e (es ++ [(k, some (n, cs))]) (xs ++ [x]) := by
  have at_ : ∀ j p, (es ++ [(k, some (n, cs))])[j]? = some p → (j = es.length ∧ p = (k, some (n, cs))) ∨ (j < es.length ∧ es[j]? = some p) := by
    intro j p hj
    by_cases e : j < es.length
    · rw [List.getElem?_append_left e] at hj; exact .inr ⟨e, hj⟩
    · have hj' := (List.getElem?_eq_some_iff.1 hj).1
      simp only [List.length_append, List.length_cons, List.length_nil] at hj'
      have e2 : j = es.length := by omega
      subst e2
      rw [List.getElem?_append_right (Nat.le_refl _)] at hj
      simp at hj; exact .inl ⟨rfl, hj.symm⟩
  have xat : ∀ j y, (xs ++ [x])[j]? = some y → (j = es.length → y = x) ∧ (j < es.length → xs[j]? = some y) := by
    intro j y hj
    refine ⟨fun e => ?_, fun e => ?_⟩
    · subst e; rw [List.getElem?_append_right (by rw [h.len]; exact Nat.le_refl _), h.len] at hj; simp at hj; exact hj.symm
    · rwa [List.getElem?_append_left (by rw [h.len]; exact e)] at hj
  refine ⟨by simp [h.len], fun j k' o' y h1 h2 => ?_, fun j k' n' cs' y h1 h2 => ?_, fun j j' k1 k2 o1 o2 y1 y2 b hne h1 h2 h3 h4 h5 => ?_⟩
  · rcases at_ j _ h1 with ⟨e, hp⟩ | ⟨e, hp⟩
    · cases hp; obtain rfl := (xat j y h2).1 e; exact hk
    · exact h.key j k' o' y hp ((xat j y h2).2 e)
  · rcases at_ j _ h1 with ⟨e, hp⟩ | ⟨e, hp⟩
    · cases hp; obtain rfl := (xat j y h2).1 e; exact hr
    · exact h.row j k' n' cs' y hp ((xat j y h2).2 e)
  · rcases at_ j _ h1 with ⟨e, hp⟩ | ⟨e, hp⟩
    · obtain rfl := (xat j y1 h3).1 e
      rcases at_ j' _ h2 with ⟨e', hq⟩ | ⟨e', hq⟩
      · exact absurd (e.trans e'.symm) hne
      · exact ha j' k2 o2 y2 b hq ((xat j' y2 h4).2 e') h5
    · rcases at_ j' _ h2 with ⟨e', hq⟩ | ⟨e', hq⟩
      · obtain rfl := (xat j' y2 h4).1 e'
        exact fun h6 => ha j k1 o1 y1 b hp ((xat j y1 h3).2 e) h6 h5
      · exact h.apart j j' k1 k2 o1 o2 y1 y2 b hne hp hq ((xat j y1 h3).2 e) ((xat j' y2 h4).2 e') h5

/-- The entries behind a store. -/
def putG (es : List (PV × Option (Nat × List PV))) (k : PV) (m : Nat) (cs : List PV) : Option Nat → List (PV × Option (Nat × List PV))
  | some i => es.set i (k, some (m, cs))
  | none => es ++ [(k, some (m, cs))]

theorem op_mapsetG {t kt et : TypeId} {tk : TK} {k : PV} {x y v : Operand} {l q e m : Nat} {cs : List PV} {es : List (PV × Option (Nat × List PV))} {r : Option Nat} {op : Op} {dst : Option Nat} (hop : op = .mapUpdate t x y v ∨ op = .insert t x y v) (hdst : dst = none) (ht : P.underlying t = some (.map kt et)) (hkt : tk.is P kt)
    (hx : σ.ev x = some (.gmap l e true es)) (hy : σ.ev y = some (.val k)) (hv : σ.ev v = some (.own q e 1 m cs)) (hql : q ≠ l) (hq0 : q ≠ 2000) (hp : PV.flatL cs = true) (hk : keyOk tk k = true) (hf : findG tk k es 0 = some r)
    (hK : K ((σ.setg l (.gmap l e true (putG es k m cs r))).kill q)) : opT P n ⟨dst, op, ty, pos, af, gd⟩ σ K := by
  subst hdst
  intro C a w hS K' Q hK'
  obtain ⟨G, hG, hE⟩ := hS.gh
  have hval : ∀ (e' : Nat) (es' : List (PV × Option (Nat × List PV))) (v : Value), Ok C w G (.gmap l e' true es') v → v = .map (some (G.r l)) := fun e' es' v h => by
    rcases h with ⟨h1, _⟩ | ⟨_, _, h1, _⟩
    · cases h1
    · exact h1
  obtain ⟨arr, clock, hxv, hg, hhb, hr⟩ : ∃ arr clock, a.eval x = .map (some (G.r l)) ∧ G.g (G.r l) = some l ∧ w.heap[G.r l]? = some (.map arr clock) ∧ RepG w G l e es arr.toList := by
    rcases hE.ev hx with ⟨h1, _⟩ | h1
    · cases h1
    · exact h1
  have hkv := hE.ev hy
  simp only [Ok] at hkv
  obtain ⟨vs, ho, hbv, hc⟩ := hE.ev hv
  have hfe := findG_ok hkv hr.keys hf
  have hkey := keyOk_isKey hk hkv
  let G' : Gh := ⟨fun b => if G.g b = some q then some l else G.g b, G.r⟩
  have g1 : ∀ b, G.g b = some q → G'.g b = some l := fun b hb => by show (if G.g b = some q then some l else _) = _; rw [if_pos hb]
  have g2 : ∀ b j, j ≠ q → G.g b = some j → G'.g b = some j := fun b j hj hb => by
    show (if G.g b = some q then some l else G.g b) = _
    rw [hb, if_neg (fun e => hj (Option.some.inj e))]
  have hnr : ∀ b, G.g b = some q → b ≠ G.r l := fun b hb e => by subst e; rw [hg] at hb; exact hql (Option.some.inj hb).symm
  -- the row, as an entry's value
  have hrow : ∀ w', (∀ b, G.g b = some q → w'.heap[b]? = w.heap[b]?) → RowG w' G' l e m cs (a.eval v) := fun w' hw => by
    refine ⟨vs, ⟨ho.1, ?_⟩, fun b hb => ⟨g1 b (hbv b hb).2, hnr b (hbv b hb).2⟩, RepL.flat cs vs hp hc⟩
    rcases ho.2 with hn | ⟨g, cap, cur, hvv, hbg, hgg, rest⟩
    · exact .inl hn
    · exact .inr ⟨g, cap, cur, hvv, hbg, by rw [hw g (hbv g (by rw [hvv]; rfl)).2]; exact hgg, rest⟩
  have happ : ∀ (j : Nat) k' o' y b, es[j]? = some (k', some o') → arr.toList[j]? = some y → (a.eval v).ownBlock = some b → y.val.ownBlock ≠ some b := by
    intro j k' o' y b h1 h2 h3 h4
    obtain ⟨n', cs'⟩ := o'
    obtain ⟨_, _, hb', _⟩ := hr.row j k' n' cs' y h1 h2
    have e1 := (hb' b h4).1
    have e2 := (hbv b h3).2
    rw [e1] at e2; exact hql (Option.some.inj e2).symm
  have key : ∃ arr' clock', (Instr.mapUpdate t (a.eval x) (a.eval y) (a.eval v)).run P w = .ok () { w with heap := w.heap.setIfInBounds (G.r l) (.map arr' clock') } ∧
      ∀ w', (∀ b, b ≠ G.r l → w'.heap[b]? = w.heap[b]?) → RepG w' G' l e (putG es k m cs r) arr'.toList := by
    have hr' : ∀ w', (∀ b, b ≠ G.r l → w'.heap[b]? = w.heap[b]?) → RepG w' G' l e es arr.toList := fun w' hw => hr.keep rfl (fun b hb => g2 b l (Ne.symm hql) hb) (fun b _ hn => hw b hn)
    have hrow' : ∀ w', (∀ b, b ≠ G.r l → w'.heap[b]? = w.heap[b]?) → RowG w' G' l e m cs (a.eval v) := fun w' hw => hrow w' (fun b hb => hw b (hnr b hb))
    have hkw : ∀ w', Rep w' (fun _ => False) k (a.eval y) := fun w' => Rep.mono (fun _ => id) (fun _ h => h.elim) k _ hkv
    cases r with
    | none =>
      refine ⟨arr.push { key := a.eval y, val := a.eval v, born := clock }, clock + 1, ?_, fun w' hw => ?_⟩
      · simp [Instr.mapUpdate, run_underlying ht, hxv, MapKept.run_getObj_map hhb, Result.andThen, MapKept.run_checkKey hkt hkey, MapKept.run_findKey hkt hfe, MapKept.run_setObj_map _ hhb]
      · rw [Array.toList_push]
        exact (hr' w' hw).push (x := { key := a.eval y, val := a.eval v, born := clock }) (hkw w') (hrow' w' hw) happ
    | some j =>
      obtain ⟨x0, g4, g5, _, k2, o2, g6, g7⟩ := hfe
      simp only [Nat.sub_zero] at g4 g6
      have hsame : Instr.sameBits 10000 x0.key (a.eval y) = true := keyEq_same g7 hkv (hr.key j k2 o2 x0 g6 g4) 10000
      have hold : (arr[j]?).map (·.key) = some x0.key := by
        have : arr[j]? = some x0 := by simpa using g4
        rw [this]; rfl
      refine ⟨arr.modify j fun e => { e with key := a.eval y, val := a.eval v }, clock, ?_, fun w' hw => ?_⟩
      · simp [Instr.mapUpdate, run_underlying ht, hxv, MapKept.run_getObj_map hhb, Result.andThen, MapKept.run_checkKey hkt hkey, MapKept.run_findKey hkt g5, MapKept.run_setObj_map _ hhb, hold, Instr.keyThatStays, hsame]
      · have hjl : j < arr.toList.length := (List.getElem?_eq_some_iff.1 g4).1
        have e1 : (arr.modify j fun e => { e with key := a.eval y, val := a.eval v }).toList = arr.toList.set j { x0 with key := a.eval y, val := a.eval v } := by
          rw [Array.toList_modify]
          have h7 : arr.toList[j] = x0 := by rw [List.getElem?_eq_getElem hjl] at g4; exact Option.some.inj g4
          apply List.ext_getElem (by simp)
          intro q q1 q2
          simp only [List.getElem_modify, List.getElem_set]
          by_cases hq : j = q
          · subst hq; simp [h7]
          · simp [hq]
        rw [e1]
        exact (hr' w' hw).set (x := { x0 with key := a.eval y, val := a.eval v }) (by rw [← hr.len]; exact hjl) (hkw w') (hrow' w' hw) (fun j' k' o' y b _ h1 h2 h3 => happ j' k' o' y b h1 h2 h3)
  obtain ⟨arr', clock', hrun, hr'⟩ := key
  have hop' : (execOp a.eval ⟨none, op, ty, pos, af, gd⟩).run P w = .ok .skip { w with heap := w.heap.setIfInBounds (G.r l) (.map arr' clock') } := by
    rcases hop with rfl | rfl <;> simp [execOp, hrun, Result.andThen]
  unfold Oper.wp
  rw [hop']
  have hB : C.B ≤ w.heap.size := hS.below.size
  obtain ⟨hs1, hs2⟩ := heap_set (o' := .map arr' clock') hhb
  have hst : Stays C.old w { w with heap := w.heap.setIfInBounds (G.r l) (.map arr' clock') } := ⟨rfl, rfl, rfl, by simp, fun k hk => hs2 k (fun e => (hG.1 _ _ hg).1 (e ▸ hk)), fun k hk => by
    by_cases e : k = G.r l
    · subst e
      show rowForm (w.heap.setIfInBounds (G.r l) (.map arr' clock'))[G.r l]? = _
      rw [hs1, hhb]; rfl
    · show rowForm (w.heap.setIfInBounds (G.r l) (.map arr' clock'))[k]? = _
      rw [hs2 k e]⟩
  have hG' : G'.fits C { w with heap := w.heap.setIfInBounds (G.r l) (.map arr' clock') } := by
    refine ⟨fun b j hb => ?_, hG.2.1, fun b hb => g2 b 2000 (Ne.symm hq0) (hG.2.2 b hb)⟩
    have hb' : (if G.g b = some q then some l else G.g b) = some j := hb
    split at hb'
    · rename_i hc; have := hG.1 b q hc; exact ⟨this.1, by simpa using this.2⟩
    · have := hG.1 b j hb'; exact ⟨this.1, by simpa using this.2⟩
  refine hK' _ _ _ hK ⟨hS.fp, hS.below.trans hst, hS.dfs, hS.size, G', hG', fun s z hz => ?_⟩
  rcases kill_at hz with rfl | ⟨hz1, hzq⟩
  · trivial
  rcases setg_at hz1 with ⟨rfl, e2, es2, hz⟩ | rfl | ⟨hz', hl⟩
  · exact .inr ⟨arr', clock', hval _ _ _ (hE s _ hz), g2 _ _ (Ne.symm hql) hg, hs1, hr' _ (fun b hb => hs2 b hb)⟩
  · trivial
  · refine Ok.keep (G := G) (G' := G') hS.fp hst z _ (fun j hj => ⟨rfl, fun b hb => g2 b j (fun e => hzq (e ▸ hj)) hb, fun b hb => hs2 b (fun e => ?_)⟩) (hE s z hz')
    subst e
    rw [hg] at hb
    exact hl (Option.some.inj hb ▸ hj)

/-! ### A slice that the function made, laid into a row of its own -/

/-- What was an own slice lies now inside another label's memory. -/
theorem imp_absorb {n : Nat} {σ : St} {l q h y : Nat} {s : SV} {cs ds : List PV} {e' s' k : Nat} (hql : q ≠ l) (hq0 : q ≠ 2000) (hh : σ.at h = some s) (hr : s.root = some (l, cs)) (hne : cs ≠ []) (hy : σ.at y = some (.own q e' s' k ds)) : Imp n σ ((y, .inl l (.sl k ds)) :: σ.kill q) := by
  intro C a w hS
  obtain ⟨G, hG, hE⟩ := hS.gh
  obtain ⟨_, _, _, hgl⟩ := (hE h s hh).rooted hr
  have hgl := hgl hne
  let G' : Gh := ⟨fun b => if G.g b = some q then some l else G.g b, G.r⟩
  have g1 : ∀ b, G.g b = some q → G'.g b = some l := fun b hb => by show (if G.g b = some q then some l else _) = _; rw [if_pos hb]
  have g2 : ∀ b j, j ≠ q → G.g b = some j → G'.g b = some j := fun b j hj hb => by
    show (if G.g b = some q then some l else G.g b) = _
    rw [hb, if_neg (fun e => hj (Option.some.inj e))]
  have hnr : ∀ b, G.g b = some q → b ≠ G.r l := fun b hb e => by subst e; rw [hgl] at hb; exact hql (Option.some.inj hb).symm
  have hG' : G'.fits C w := by
    refine ⟨fun b j hb => ?_, hG.2.1, fun b hb => g2 b 2000 (Ne.symm hq0) (hG.2.2 b hb)⟩
    have hb' : (if G.g b = some q then some l else G.g b) = some j := hb
    split at hb'
    · rename_i hc; exact hG.1 b q hc
    · exact hG.1 b j hb'
  refine ⟨hS.fp, hS.below, hS.dfs, hS.size, G', hG', fun t z hz => ?_⟩
  simp only [St.at] at hz
  split at hz
  · rename_i he; subst he
    simp only [Option.some.injEq] at hz; subst hz
    have := (hE y _ hy).rep (p := .sl k ds) rfl
    exact Rep.mono (fun b hb => ⟨g1 b hb, hnr b hb⟩) (fun _ _ => rfl) _ _ this
  · rcases kill_at hz with rfl | ⟨hz', hzq⟩
    · trivial
    · exact Ok.keep (G := G) (G' := G') hS.fp (Stays.refl _ _) z _ (fun j hj => ⟨rfl, fun b hb => g2 b j (fun e => hzq (e ▸ hj)) hb, fun _ _ => rfl⟩) (hE t z hz')

/-- An own slice, to be read alone. -/
theorem imp_frz {n : Nat} {σ : St} {x l e s m : Nat} {cs : List PV} (h : σ.at x = some (.own l e s m cs)) : Imp n σ ((x, .frz l (.sl m cs)) :: σ) := by
  intro C a w hS
  obtain ⟨G, hG, hE⟩ := hS.gh
  refine ⟨hS.fp, hS.below, hS.dfs, hS.size, G, hG, fun t z hz => ?_⟩
  simp only [St.at] at hz
  split at hz
  · rename_i he; subst he
    simp only [Option.some.injEq] at hz; subst hz
    exact (hE x _ h).rep (p := .sl m cs) rfl
  · exact hE t z hz

mutual
def SV.unfrz : SV → SV
  | .frz l p => .bor l p
  | .tup ss => .tup (SV.unfrzL ss)
  | x => x
def SV.unfrzL : List SV → List SV
  | [] => []
  | s :: ss => s.unfrz :: SV.unfrzL ss
end
mutual
theorem Ok.unfrz {C : Ctx} {w : World} {G : Gh} : ∀ (s : SV) (v : Value), Ok C w G s v → Ok C w G s.unfrz v
  | .frz l p, v, h => Rep.mono (fun b hb => .inl hb) (fun _ _ => rfl) p v h
  | .tup ss, v, h => by
    obtain ⟨vs, hv, h⟩ := h
    exact ⟨vs, hv, OkL.unfrz ss vs h⟩
  | .dead, v, h => h
  | .val _, v, h => h
  | .par _ _, v, h => h
  | .ext _, v, h => h
  | .bor _ _, v, h => h
  | .own _ _ _ _ _, v, h => h
  | .box _ _ _, v, h => h
  | .adr _ _, v, h => h
  | .rpar _ _, v, h => h
  | .rbor _ _, v, h => h
  | .fn _, v, h => h
  | .yld _, v, h => h
  | .map _ _, v, h => h
  | .sit _ _ _, v, h => h
  | .bld _ _ _ _, v, h => h
  | .gmap _ _ _ _, v, h => h
  | .ownL _ _ _ _ _ _, v, h => h
  | .inl _ _, v, h => h
  | .arr _ _ _ _, v, h => h
  | .boxR _ _ _ _ _, v, h => h
  | .boxS _ _ _ _ _ _ _, v, h => h
  | .view _ _ _, v, h => h
  | .vbox _ _ _ _ _, v, h => h
  | .iop _, v, h => h
theorem OkL.unfrz {C : Ctx} {w : World} {G : Gh} : ∀ (ss : List SV) (vs : List Value), OkL C w G ss vs → OkL C w G (SV.unfrzL ss) vs
  | [], vs, h => h
  | s :: ss, vs, h => by
    obtain ⟨v, r, hv, h1, h2⟩ := h
    exact ⟨v, r, hv, Ok.unfrz s v h1, OkL.unfrz ss r h2⟩
end
theorem unfrz_at : ∀ {σ : St} {s : Nat} {x : SV}, St.at (σ.map fun e => (e.1, e.2.unfrz)) s = some x → ∃ y, σ.at s = some y ∧ x = y.unfrz
  | [], s, x, h => by simp [St.at] at h
  | (t, y) :: r, s, x, h => by
    simp only [List.map_cons, St.at] at h ⊢
    split at h
    · rename_i he; subst he; exact ⟨y, by simp, (Option.some.inj h).symm⟩
    · rename_i hne; rw [if_neg hne]; exact unfrz_at (σ := r) h
theorem imp_unfrz {n : Nat} {σ : St} : Imp n σ (σ.map fun e => (e.1, e.2.unfrz)) := by
  intro C a w hS
  obtain ⟨G, hG, hE⟩ := hS.gh
  refine ⟨hS.fp, hS.below, hS.dfs, hS.size, G, hG, fun t z hz => ?_⟩
  obtain ⟨y, hy, rfl⟩ := unfrz_at hz
  exact Ok.unfrz y _ (hE t y hy)

theorem opT.impY {o : Oper} {σ' : St} (h : opT P n o σ' K) (hi : Imp n σ σ') : opT P n o σ K := fun C a w hS => h C a w (hi C a w hS)

end
end Go.Proofs.YtfagllolcalfiaaDoor
