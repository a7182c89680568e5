/- Maps whose values are rows; slices whose elements lie in other rows; loads with an equality. Own work; no conditions; nothing here is about one program. -/
import Derived.Test.YtfagllolcalfiabDoorPwX
namespace Go.Proofs.YtfagllolcalfiabDoor
open Go.RowKit Go.MapKept
set_option linter.unusedVariables false
set_option linter.unusedSimpArgs false
section
variable {P : Program} {n : Nat} {σ : St} {K : St → Prop} {d : Nat} {ty : TypeId} {pos : String} {af : Array Edge} {gd : Option (Nat × Bool)}
theorem q_load_rd_aggE {t : TypeId} {k : Nat} (ht : AggTy P t k) {x : Operand} {s : SV} {cs ds : List PV} (hx : σ.ev x = some s) (hs : (∃ i, s = .rpar i cs) ∨ ∃ l, s = .rbor l cs) (hk : k ≤ cs.length) (he : cs.take k = ds) (hf : PV.flatL ds = true) (hd : d < n) : quietT P n ⟨some d, .load t x, ty, pos, af, gd⟩ σ d (.val (.agg ds)) :=
  he ▸ q_load_rd_agg ht hx hs hk (he ▸ hf) hd
def KeysG (w : World) : List (PV × Option (Nat × List PV)) → List MapEntry → Prop
  | [], xs => xs = []
  | (k, _) :: r, xs => ∃ x s, xs = x :: s ∧ Rep w (fun _ => False) k x.key ∧ KeysG w r s
theorem keysG_of {w : World} : ∀ {es : List (PV × Option (Nat × List PV))} {xs : List MapEntry}, xs.length = es.length → (∀ (i : Nat) k o x, es[i]? = some (k, o) → xs[i]? = some x → Rep w (fun _ => False) k x.key) → KeysG w es xs
  | [], xs, h, _ => List.eq_nil_of_length_eq_zero (by simpa using h)
  | (k, o) :: r, [], h, _ => by simp at h
  | (k, o) :: r, x :: s, h, hk => ⟨x, s, rfl, hk 0 k o x rfl rfl, keysG_of (by simpa using h) (fun i k' o' x' h1 h2 => hk (i + 1) k' o' x' (by simpa using h1) (by simpa using h2))⟩
theorem RepG.keys {w : World} {G : Gh} {l e : Nat} {es : List (PV × Option (Nat × List PV))} {xs : List MapEntry} (h : RepG w G l e es xs) : KeysG w es xs := keysG_of h.len h.key
theorem RepG.drop {w : World} {G : Gh} {l e : Nat} {es : List (PV × Option (Nat × List PV))} {xs : List MapEntry} (h : RepG w G l e es xs) {i : Nat} {k : PV} {o : Option (Nat × List PV)} (hi : es[i]? = some (k, o)) : RepG w G l e (es.set i (k, none)) xs := by
  have hil := (List.getElem?_eq_some_iff.1 hi).1
  have at_ : ∀ j p, (es.set i (k, none))[j]? = some p → (j = i ∧ p = (k, none)) ∨ (j ≠ i ∧ es[j]? = some p) := by
    intro j p hj
    by_cases e : j = i
    · subst e; rw [List.getElem?_set_self hil] at hj; exact .inl ⟨rfl, (Option.some.inj hj).symm⟩
    · rw [List.getElem?_set_ne (Ne.symm e)] at hj; exact .inr ⟨e, hj⟩
  refine ⟨by rw [h.len, List.length_set], fun j k' o' x h1 h2 => ?_, fun j k' n cs x h1 h2 => ?_, fun j j' k1 k2 o1 o2 x y b hne h1 h2 h3 h4 h5 => ?_⟩
  · rcases at_ j _ h1 with ⟨rfl, hp⟩ | ⟨_, hp⟩
    · cases hp; exact h.key j k o x hi h2
    · exact h.key j k' o' x hp h2
  · rcases at_ j _ h1 with ⟨_, hp⟩ | ⟨_, hp⟩
    · cases hp
    · exact h.row j k' n cs x hp h2
  · rcases at_ j _ h1 with ⟨_, hp⟩ | ⟨_, hp⟩
    · cases hp
    · rcases at_ j' _ h2 with ⟨_, hq⟩ | ⟨_, hq⟩
      · cases hq
      · exact h.apart j j' k1 k2 o1 o2 x y b hne hp hq h3 h4 h5
theorem RepG.set {w : World} {G : Gh} {l e : Nat} {es : List (PV × Option (Nat × List PV))} {xs : List MapEntry} (h : RepG w G l e es xs) {i : Nat} {k : PV} {n : Nat} {cs : List PV} {x : MapEntry} (hi : i < es.length) (hk : Rep w (fun _ => False) k x.key) (hr : RowG w G l e n cs x.val)
    (ha : ∀ (j : Nat) k' o' y b, j ≠ i → es[j]? = some (k', some o') → xs[j]? = some y → x.val.ownBlock = some b → y.val.ownBlock ≠ some b) : RepG w G l e (es.set i (k, some (n, cs))) (xs.set i x) := by
  have hxi : i < xs.length := by rw [h.len]; exact hi
  have at_ : ∀ j p, (es.set i (k, some (n, cs)))[j]? = some p → (j = i ∧ p = (k, some (n, cs))) ∨ (j ≠ i ∧ es[j]? = some p) := by
    intro j p hj
    by_cases e : j = i
    · subst e; rw [List.getElem?_set_self hi] at hj; exact .inl ⟨rfl, (Option.some.inj hj).symm⟩
    · rw [List.getElem?_set_ne (Ne.symm e)] at hj; exact .inr ⟨e, hj⟩
  have xat : ∀ j y, (xs.set i x)[j]? = some y → (j = i → y = x) ∧ (j ≠ i → xs[j]? = some y) := by
    intro j y hj
    refine ⟨fun e => ?_, fun e => ?_⟩
    · subst e; rw [List.getElem?_set_self hxi] at hj; exact (Option.some.inj hj).symm
    · rwa [List.getElem?_set_ne (Ne.symm e)] at hj
  refine ⟨by rw [List.length_set, h.len, List.length_set], fun j k' o' y h1 h2 => ?_, fun j k' n' cs' y h1 h2 => ?_, fun j j' k1 k2 o1 o2 y1 y2 b hne h1 h2 h3 h4 h5 => ?_⟩
  · rcases at_ j _ h1 with ⟨e, hp⟩ | ⟨e, hp⟩
    · cases hp; obtain rfl := (xat j y h2).1 e; exact hk
    · exact h.key j k' o' y hp ((xat j y h2).2 e)
  · rcases at_ j _ h1 with ⟨e, hp⟩ | ⟨e, hp⟩
    · cases hp; obtain rfl := (xat j y h2).1 e; exact hr
    · exact h.row j k' n' cs' y hp ((xat j y h2).2 e)
  · rcases at_ j _ h1 with ⟨e, hp⟩ | ⟨e, hp⟩
    · obtain rfl := (xat j y1 h3).1 e
      rcases at_ j' _ h2 with ⟨e', hq⟩ | ⟨e', hq⟩
      · exact absurd (e.trans e'.symm) hne
      · exact ha j' k2 o2 y2 b e' hq ((xat j' y2 h4).2 e') h5
    · rcases at_ j' _ h2 with ⟨e', hq⟩ | ⟨e', hq⟩
      · obtain rfl := (xat j' y2 h4).1 e'
        exact fun h6 => ha j k1 o1 y1 b e hp ((xat j y1 h3).2 e) h6 h5
      · exact h.apart j j' k1 k2 o1 o2 y1 y2 b hne hp hq ((xat j y1 h3).2 e) ((xat j' y2 h4).2 e') h5
theorem RepG.push {w : World} {G : Gh} {l e : Nat} {es : List (PV × Option (Nat × List PV))} {xs : List MapEntry} (h : RepG w G l e es xs) {k : PV} {n : Nat} {cs : List PV} {x : MapEntry} (hk : Rep w (fun _ => False) k x.key) (hr : RowG w G l e n cs x.val)
    (ha : ∀ (j : Nat) k' o' y b, es[j]? = some (k', some o') → xs[j]? = some y → x.val.ownBlock = some b → y.val.ownBlock ≠ some b) : RepG w G l e (es ++ [(k, some (n, cs))]) (xs ++ [x]) := by
  have at_ : ∀ j p, (es ++ [(k, some (n, cs))])[j]? = some p → (j = es.length ∧ p = (k, some (n, cs))) ∨ (j < es.length ∧ es[j]? = some p) := by
    intro j p hj
    by_cases e : j < es.length
    · rw [List.getElem?_append_left e] at hj; exact .inr ⟨e, hj⟩
    · have hj' := (List.getElem?_eq_some_iff.1 hj).1
      simp only [List.length_append, List.length_cons, List.length_nil] at hj'
      have e2 : j = es.length := by omega
      subst e2
      rw [List.getElem?_append_right (Nat.le_refl _)] at hj
      simp at hj; exact .inl ⟨rfl, hj.symm⟩
  have xat : ∀ j y, (xs ++ [x])[j]? = some y → (j = es.length → y = x) ∧ (j < es.length → xs[j]? = some y) := by
    intro j y hj
    refine ⟨fun e => ?_, fun e => ?_⟩
    · subst e; rw [List.getElem?_append_right (by rw [h.len]; exact Nat.le_refl _), h.len] at hj; simp at hj; exact hj.symm
    · rwa [List.getElem?_append_left (by rw [h.len]; exact e)] at hj
  refine ⟨by simp [h.len], fun j k' o' y h1 h2 => ?_, fun j k' n' cs' y h1 h2 => ?_, fun j j' k1 k2 o1 o2 y1 y2 b hne h1 h2 h3 h4 h5 => ?_⟩
  · rcases at_ j _ h1 with ⟨e, hp⟩ | ⟨e, hp⟩
    · cases hp; obtain rfl := (xat j y h2).1 e; exact hk
    · exact h.key j k' o' y hp ((xat j y h2).2 e)
  · rcases at_ j _ h1 with ⟨e, hp⟩ | ⟨e, hp⟩
    · cases hp; obtain rfl := (xat j y h2).1 e; exact hr
    · exact h.row j k' n' cs' y hp ((xat j y h2).2 e)
  · rcases at_ j _ h1 with ⟨e, hp⟩ | ⟨e, hp⟩
    · obtain rfl := (xat j y1 h3).1 e
      rcases at_ j' _ h2 with ⟨e', hq⟩ | ⟨e', hq⟩
      · exact absurd (e.trans e'.symm) hne
      · exact ha j' k2 o2 y2 b hq ((xat j' y2 h4).2 e') h5
    · rcases at_ j' _ h2 with ⟨e', hq⟩ | ⟨e', hq⟩
      · obtain rfl := (xat j' y2 h4).1 e'
        exact fun h6 => ha j k1 o1 y1 b hp ((xat j y1 h3).2 e) h6 h5
      · exact h.apart j j' k1 k2 o1 o2 y1 y2 b hne hp hq ((xat j y1 h3).2 e) ((xat j' y2 h4).2 e') h5
mutual
def SV.unfrz : SV → SV
  | .frz l p => .bor l p
  | .tup ss => .tup (SV.unfrzL ss)
  | x => x
def SV.unfrzL : List SV → List SV
  | [] => []
  | s :: ss => s.unfrz :: SV.unfrzL ss
end
mutual
theorem Ok.unfrz {C : Ctx} {w : World} {G : Gh} : ∀ (s : SV) (v : Value), Ok C w G s v → Ok C w G s.unfrz v
  | .frz l p, v, h => Rep.mono (fun b hb => .inl hb) (fun _ _ => rfl) p v h
  | .tup ss, v, h => by
    obtain ⟨vs, hv, h⟩ := h
    exact ⟨vs, hv, OkL.unfrz ss vs h⟩
  | .dead, v, h => h
  | .val _, v, h => h
  | .par _ _, v, h => h
  | .ext _, v, h => h
  | .bor _ _, v, h => h
  | .own _ _ _ _ _, v, h => h
  | .box _ _ _, v, h => h
  | .adr _ _, v, h => h
  | .rpar _ _, v, h => h
  | .rbor _ _, v, h => h
  | .fn _, v, h => h
  | .yld _, v, h => h
  | .map _ _, v, h => h
  | .sit _ _ _, v, h => h
  | .bld _ _ _ _, v, h => h
  | .gmap _ _ _ _, v, h => h
  | .ownL _ _ _ _ _ _, v, h => h
  | .inl _ _, v, h => h
  | .arr _ _ _ _, v, h => h
  | .boxR _ _ _ _ _, v, h => h
  | .boxS _ _ _ _ _ _ _, v, h => h
  | .view _ _ _, v, h => h
  | .vbox _ _ _ _ _, v, h => h
  | .iop _, v, h => h
  | .iow _ _ _ _, v, h => h
theorem OkL.unfrz {C : Ctx} {w : World} {G : Gh} : ∀ (ss : List SV) (vs : List Value), OkL C w G ss vs → OkL C w G (SV.unfrzL ss) vs
  | [], vs, h => h
  | s :: ss, vs, h => by
    obtain ⟨v, r, hv, h1, h2⟩ := h
    exact ⟨v, r, hv, Ok.unfrz s v h1, OkL.unfrz ss r h2⟩
end
theorem unfrz_at : ∀ {σ : St} {s : Nat} {x : SV}, St.at (σ.map fun e => (e.1, e.2.unfrz)) s = some x → ∃ y, σ.at s = some y ∧ x = y.unfrz
  | [], s, x, h => by simp [St.at] at h
  | (t, y) :: r, s, x, h => by
    simp only [List.map_cons, St.at] at h ⊢
    split at h
    · rename_i he; subst he; exact ⟨y, by simp, (Option.some.inj h).symm⟩
    · rename_i hne; rw [if_neg hne]; exact unfrz_at (σ := r) h
theorem imp_unfrz {n : Nat} {σ : St} : Imp n σ (σ.map fun e => (e.1, e.2.unfrz)) := by
  intro C a w hS
  obtain ⟨G, hG, hE⟩ := hS.gh
  refine ⟨hS.fp, hS.below, hS.dfs, hS.size, G, hG, fun t z hz => ?_⟩
  obtain ⟨y, hy, rfl⟩ := unfrz_at hz
  exact Ok.unfrz y _ (hE t y hy)
end
end Go.Proofs.YtfagllolcalfiabDoor
