/- Slices over the pure state: their length, literals, append, make. Own work; no conditions; nothing here is about one program. -/
import Derived.Test.YtfagllolcalfiabDoorPwE
namespace Go.Proofs.YtfagllolcalfiabDoor
open Go.RowKit
def SlTy (P : Program) (t e size bytes : Nat) (zc : List PV) : Prop :=
  P.underlying t = some (.slice e) ∧ ∃ i z, P.info? e = some i ∧ i.zero = some z ∧ i.size = size ∧ i.bytes = bytes ∧ z.cells.size = size ∧ 0 < size ∧ 0 < bytes ∧ cvs z.cells.toList = some zc
theorem slTy_of {P : Program} {t e size bytes : Nat} {z : Value} {zc : List PV} (h1 : P.underlying t = some (.slice e)) (h2 : (P.info? e).map (fun i => (i.zero, i.size, i.bytes)) = some (some z, size, bytes))
    (h3 : z.cells.size = size) (h4 : 0 < size) (h5 : 0 < bytes) (h6 : cvs z.cells.toList = some zc) : SlTy P t e size bytes zc := by
  obtain ⟨i, a, b, c, d⟩ := info_parts h2
  exact ⟨h1, i, z, a, b, c, d, h3, h4, h5, h6⟩
def St.kill (l : Nat) (σ : St) : St := σ.map fun e => (e.1, if e.2.labels.contains l then .dead else e.2)
def St.killO (l : Option Nat) (σ : St) : St := match l with
  | none => σ
  | some q => σ.kill q
theorem kill_at {l : Nat} : ∀ {σ : St} {s : Nat} {x : SV}, (σ.kill l).at s = some x → x = .dead ∨ (σ.at s = some x ∧ l ∉ x.labels)
  | [], s, x, h => by simp [St.kill, St.at] at h
  | (t, y) :: r, s, x, h => by
    simp only [St.kill, List.map_cons, St.at] at h ⊢
    split at h
    · rename_i he; subst he
      simp only [if_true]
      split at h
      · left; simpa using h.symm
      · rename_i hc
        right; simp at h; subst h; exact ⟨rfl, by simpa using hc⟩
    · rename_i hne
      rw [if_neg hne]
      exact kill_at (σ := r) h
theorem St.labels_kill {l : Nat} {σ : St} {s : Nat} {x : SV} (h : (σ.kill l).at s = some x) : l ∉ x.labels := by
  rcases kill_at h with rfl | ⟨_, h⟩
  · simp [SV.labels]
  · exact h
section
variable {P : Program} {n : Nat} {σ : St} {K : St → Prop} {d : Nat} {ty : TypeId} {pos : String} {af : Array Edge} {gd : Option (Nat × Bool)}
theorem q_len_sl {t e : TypeId} {x : Operand} {s : SV} {m : Nat} {cs : List PV} (ht : P.underlying t = some (.slice e)) (hx : σ.ev x = some s) (hs : s.pv = some (.sl m cs)) (hd : d < n) : quietT P n ⟨some d, .call { callee := .builtin .len, args := #[x], argTypes := #[t] }, ty, pos, af, gd⟩ σ d (.val (.int .i64 m)) := by
  refine ⟨rfl, hd, fun C a w G hS hG hE => ?_⟩
  have h1 := (hE.ev hx).rep hs
  simp only [Rep] at h1
  refine ⟨.int .i64 m, fun _ _ => ?_, by simp [Ok, Rep]⟩
  rcases h1 with ⟨hv, hm, _⟩ | ⟨b, off, cap, vs, hv, _⟩
  · simp [execOp, resolve, invoke, builtin, hv, Builtin.len_, run_underlying ht, goInt, hm]
  · simp [execOp, resolve, invoke, builtin, hv, Builtin.len_, run_underlying ht, goInt]
theorem stays_grown {S : Nat → Prop} {w w' : World} {row : Option Nat} (hg : w.grownBy w' row) (hf : ∀ k, k < w.heap.size → rowForm w'.heap[k]? = rowForm w.heap[k]?) (hS : ∀ k, S k → k < w.heap.size ∧ some k ≠ row) : Stays S w w' :=
  ⟨hg.os, hg.tape, hg.output, hg.size, fun k hk => hg.block k (hS k hk).1 (hS k hk).2, hf⟩
theorem grown_env {C : Ctx} {a : Act} {w w' : World} {G G' : Gh} {row : Option Nat} {l : Nat} (hS : Sim n C σ a w) (hG : G.fits C w) (hE : Env C σ a w G) (hg : w.grownBy w' row) (hf : ∀ k, k < w.heap.size → rowForm w'.heap[k]? = rowForm w.heap[k]?)
    (hrow : ∀ b, row = some b → G.g b = some l) (hr : ∀ m, m ≠ l → m ∈ σ.labels → G'.r m = G.r m ∧ ∀ b, G.g b = some m → G'.g b = some m) : Env C (σ.kill l) a w' G' ∧ Stays C.old w w' := by
  have hB : C.B ≤ w.heap.size := hS.below.size
  have hbel : Stays C.old w w' := stays_grown hg hf (fun k hk => ⟨Nat.lt_of_lt_of_le hk.1 hB, fun e => (hG.1 k l (hrow k e.symm)).1 hk⟩)
  refine ⟨fun s x hx => ?_, hbel⟩
  rcases kill_at hx with rfl | ⟨hx', hl⟩
  · trivial
  · refine Ok.keep hS.fp hbel x _ (fun m hm => ?_) (hE s x hx')
    have hml : m ≠ l := fun e => hl (e ▸ hm)
    obtain ⟨h1, h2⟩ := hr m hml (St.labels_at hx' m hm)
    refine ⟨h1, h2, fun b hb => hg.block b (hG.1 b m hb).2 (fun e => ?_)⟩
    have := hrow b e.symm
    rw [hb] at this
    exact hml (Option.some.inj this)
theorem append_run (w : World) (base : Nat) (t ty e : TypeId) (i : TypeInfo) (z : Value) (size bytes : Nat) (ht : P.underlying t = some (.slice e)) (hi : P.info? e = some i) (hz : i.zero = some z)
    (hsize : i.size = size) (hby : i.bytes = bytes) (hzs : z.cells.size = size) (hsz : 0 < size) (v : Value) (k : Nat) (xs : List Value) (hown : w.ownsRow base e size v k xs)
    (ad : Addr) (m c : Nat) (news : List Value) (hl : news.length = m * size) (hnews : ∀ (j : Nat) u, news[j]? = some u → w.cell? (ad.add j) = some u) (h1 : ∀ u ∈ news, u.oneCell' = true)
    (h63 : k + m ≤ maxLen) (hbytes : (k + m) * bytes ≤ 140737488355328) (hbase : base ≤ w.heap.size) :
    ∃ v' w', (Builtin.append_ #[t, t] ty #[v, .slice (some ad) m c]).run P w = .ok v' w' ∧ w'.ownsRow base e size v' (k + m) (xs ++ news) ∧ w.grownBy w' v.ownBlock ∧
      (∀ b, v'.ownBlock = some b → v.ownBlock = some b ∨ b = w.heap.size) ∧ ∀ q, q < w.heap.size → rowForm w'.heap[q]? = rowForm w.heap[q]? := by
  obtain ⟨v', w', hr, ho, hg, hnil⟩ := run_append_own (P := P) w base t ty e i z size bytes ht hi hz hsize hby hzs hsz v k xs hown ad m c news hl hnews h1 h63 hbytes hbase
  refine ⟨v', w', hr, ho, hg, ?_⟩
  subst hsize; subst hby
  have hsmall : k + m ≤ 9223372036854775807 := by simp only [maxLen] at h63; omega
  rcases hown.2 with ⟨rfl, rfl⟩ | ⟨g, cap, cur, rfl, hbg, hgg, hnc, hcm, hcs, htake⟩
  · refine ⟨?_, fun q hq => by rw [hg.block q hq (by simp [Value.ownBlock])]⟩
    by_cases hm : m = 0
    · have := hnil.2 ⟨rfl, hm⟩
      subst this
      intro b hb; simp [Value.ownBlock] at hb
    · have hr2 := run_append_nil (P := P) w t ty e i z ht hi hz ad m c news hl hnews (by omega) (by omega) (by have hb := hbytes; simp only [Nat.zero_add] at hb; omega)
      rw [hr] at hr2
      injection hr2 with e1 e2
      intro b hb
      rw [e1] at hb
      right; simpa [Value.ownBlock] using hb.symm
  · by_cases hroom : k + m ≤ cap
    · have hfit : k * i.size + news.length ≤ cur.size := by rw [hl, hcs, ← Nat.add_mul]; exact Nat.mul_le_mul_right _ hroom
      have hr2 := run_append_room (P := P) w t ty e i ht hi g k cap cur hgg ad m c news hl hnews h1 hroom hfit
      rw [hr] at hr2
      injection hr2 with e1 e2
      refine ⟨fun b hb => ?_, fun q hq => ?_⟩
      · rw [e1] at hb
        left; simpa [Value.ownBlock] using hb
      · by_cases hqg : q = g
        · subst hqg
          rw [e1] at ho
          rcases ho.2 with ⟨h, _⟩ | ⟨g', cap', cur', hv', _, hh', _, _, hs', _⟩
          · cases h
          · injection hv' with h1 h2 h3
            injection h1 with h1
            injection h1 with h1
            subst h1; subst h3
            rw [hh', hgg]
            simp [rowForm, hs', hcs]
        · rw [hg.block q hq (by simpa [Value.ownBlock] using hqg)]
    · have holds : ∀ (j : Nat) u, xs[j]? = some u → w.cell? ((⟨g, 0, none⟩ : Addr).add j) = some u := hown.cells (g := g) rfl
      have hr2 := run_append_grow (P := P) w t ty e i z ht hi hz ⟨g, 0, none⟩ k cap xs hown.1 holds ad m c news hl hnews (by omega) (by omega) (growslice_fits (by omega) hbytes)
      rw [hr] at hr2
      injection hr2 with e1 e2
      refine ⟨fun b hb => ?_, fun q hq => ?_⟩
      · rw [e1] at hb
        right; simpa [Value.ownBlock] using hb.symm
      · rw [e2, heap_alloc_old w.drew _ hq]; rfl
theorem append_core {t e size bytes : Nat} {zc : List PV} (hty : SlTy P t e size bytes zc) {w : World} {v u : Value} {m k : Nat} {ds : List PV} {vs : List Value} {Fq' : Nat → Prop}
    (ho : w.ownsRow 0 e size v m vs) (hu : Rep w Fq' (.sl k ds) u)
    (hlen : ds.length = k * size) (hby : (m + k) * bytes ≤ 140737488355328) :
    ∃ v' w' us, (Builtin.append_ #[t, t] ty #[v, u]).run P w = .ok v' w' ∧ w'.ownsRow 0 e size v' (m + k) (vs ++ us) ∧ w.grownBy w' v.ownBlock ∧ (∀ b, v'.ownBlock = some b → v.ownBlock = some b ∨ b = w.heap.size) ∧
      RepL w Fq' ds us ∧ ∀ q, q < w.heap.size → rowForm w'.heap[q]? = rowForm w.heap[q]? := by
  obtain ⟨h1, i, z, h2, h3, h4, h5, h6, h7, h8, _⟩ := hty
  simp only [Rep] at hu
  have h63 : m + k ≤ maxLen := by
    have : (m + k) * 1 ≤ (m + k) * bytes := Nat.mul_le_mul_left _ h8
    simp only [maxLen]; omega
  rcases hu with ⟨rfl, rfl, rfl⟩ | ⟨b, off, cap, us, rfl, hb, hkc, hcell, hus⟩
  · refine ⟨v, w, [], run_append_owned_none w 0 t ty e i size h1 h2 v m vs ho, by simpa using ho, ⟨rfl, rfl, rfl, Nat.le_refl _, fun _ _ _ => rfl⟩, fun b hb => .inl hb, rfl, fun _ _ => rfl⟩
  · have hl : us.length = k * size := by rw [hus.length]; exact hlen
    obtain ⟨v', w', a1, a2, a3, a4, a5⟩ := append_run (P := P) w 0 t ty e i z size bytes h1 h2 h3 h4 h5 h6 h7 v m vs ho ⟨b, off, none⟩ k cap us hl (fun j x hx => by rw [Addr.add_lit]; exact hcell j x hx) hus.oneCells h63 hby (Nat.zero_le _)
    exact ⟨v', w', us, a1, a2, a3, a4, hus, a5⟩
def Gh.app (G : Gh) (l : Nat) (l2 : Option Nat) (row : Option Nat) : Gh :=
  ⟨fun b => if some b = row then some l else if l2.isSome && G.g b == l2 then some l else G.g b, fun m => if m = l then row.getD (G.r l) else G.r m⟩
theorem op_append_gen {t e size bytes : Nat} {zc : List PV} (hty : SlTy P t e size bytes zc) {x y : Operand} {l m k : Nat} {cs ds : List PV} {sy : SV} {l2 : Option Nat}
    (hx : σ.ev x = some (.own l e size m cs) ∨ (σ.ev x = some (.val (.sl 0 [])) ∧ m = 0 ∧ cs = [] ∧ l ∉ σ.labels)) (hy : σ.ev y = some sy) (hsy : sy.pv = some (.sl k ds))
    (hl2 : (l2 = none ∧ PV.flatL ds = true) ∨ ∃ q e' s', l2 = some q ∧ q ≠ l ∧ sy = .own q e' s' k ds)
    (hlen : ds.length = k * size) (hby : (m + k) * bytes ≤ 140737488355328) (hd : d < n) (hl0 : l ≠ 2000) (hl20 : l2 ≠ some 2000)
    (hK : K ((d, .own l e size (m + k) (cs ++ ds)) :: (σ.kill l).killO l2)) :
    opT P n ⟨some d, .call { callee := .builtin .append, args := #[x, y], argTypes := #[t, t] }, ty, pos, af, gd⟩ σ K := by
  intro C a w hS K' Q hK'
  obtain ⟨G, hG, hE⟩ := hS.gh
  have hB : C.B ≤ w.heap.size := hS.below.size
  have hown : ∃ vs, w.ownsRow 0 e size (a.eval x) m vs ∧ (∀ b, (a.eval x).ownBlock = some b → b = G.r l ∧ G.g b = some l) ∧ RepL w (fun b => G.g b = some l ∧ b ≠ G.r l ∧ l ∈ σ.labels) cs vs := by
    rcases hx with hx | ⟨hx, rfl, rfl, _⟩
    · have h := hE.ev hx
      simp only [Ok] at h
      obtain ⟨vs, h1, h2, h3⟩ := h
      refine ⟨vs, h1, h2, RepL.mono (fun b ⟨hb, hn⟩ => ⟨hb, hn, ?_⟩) (fun _ _ => rfl) cs vs h3⟩
      cases x with
      | tmp s => exact St.labels_at (σ := σ) (s := s) hx l (by simp [SV.labels])
      | const c =>
        obtain ⟨p, _, hp⟩ := Option.map_eq_some_iff.1 hx
        simp at hp
      | func f => simp [St.ev] at hx
      | global g => simp [St.ev] at hx
    · have h := hE.ev hx
      simp only [Ok, Rep] at h
      rcases h with ⟨hv, _⟩ | ⟨b, _, _, _, _, hf, _⟩
      · rw [hv]; exact ⟨[], World.ownsRow_nil _ _ _ _, fun b hb => by simp [Value.ownBlock] at hb, rfl⟩
      · exact hf.elim
  obtain ⟨vs, ho, hob, hr⟩ := hown
  have hoy := (hE.ev hy).rep hsy
  obtain ⟨v', w', us, hrun, ho', hg, hblk, hus, hform⟩ := append_core (ty := ty) hty ho hoy hlen hby
  have hop : (execOp a.eval ⟨some d, .call { callee := .builtin .append, args := #[x, y], argTypes := #[t, t] }, ty, pos, af, gd⟩).run P w = .ok (.value v') w' := by
    simp [execOp, resolve, invoke, builtin, hrun]
  unfold Oper.wp
  rw [hop, Oper.upon_value]
  let G' : Gh := G.app l l2 v'.ownBlock
  have hq : ∀ q, l2 = some q → q ≠ l ∧ ∃ e' s', sy = .own q e' s' k ds := by
    rintro q rfl
    rcases hl2 with ⟨h, _⟩ | ⟨q', e', s', h, hne, hs⟩
    · cases h
    · cases h; exact ⟨hne, e', s', hs⟩
  have hgb : ∀ b, v'.ownBlock = some b → G.g b = some l ∨ b = w.heap.size := fun b hb => (hblk b hb).imp (fun h => (hob b h).2) id
  have hsz := hg.size
  have hlt' : ∀ b, v'.ownBlock = some b → b < w'.heap.size := fun b hb => (ho'.lt b hb).2
  have hG' : G'.fits C w' := by
    refine ⟨fun b j hb => ?_, ?_, fun b hb => ?_⟩
    · have hb' : (if some b = v'.ownBlock then some l else if l2.isSome && G.g b == l2 then some l else G.g b) = some j := hb
      split at hb'
      · rename_i he
        refine ⟨fun ho => ?_, hlt' b he.symm⟩
        rcases hgb b he.symm with h | h
        · exact (hG.1 b l h).1 ho
        · have := ho.1; omega
      · split at hb'
        · rename_i hc
          simp only [Bool.and_eq_true, beq_iff_eq] at hc
          obtain ⟨q, hq'⟩ := Option.isSome_iff_exists.1 hc.1
          have := hG.1 b q (by rw [hc.2, hq'])
          exact ⟨this.1, by omega⟩
        · have := hG.1 b j hb'; exact ⟨this.1, by omega⟩
    · show (if 2000 = l then _ else G.r 2000) = _
      rw [if_neg (Ne.symm hl0)]; exact hG.2.1
    · have h2 := hG.2.2 b hb
      show (if some b = v'.ownBlock then some l else if l2.isSome && G.g b == l2 then some l else G.g b) = some 2000
      rw [if_neg (fun he => ?_), if_neg (fun hc => ?_)]
      · exact h2
      · simp only [Bool.and_eq_true, beq_iff_eq] at hc
        rw [h2] at hc; exact hl20 hc.2.symm
      · rcases hgb b he.symm with h | h
        · rw [h2] at h; exact hl0 (Option.some.inj h).symm
        · have := (hG.1 b _ h2).2; omega
  have hkeep : ∀ j, j ≠ l → (∀ q, l2 = some q → j ≠ q) → G'.r j = G.r j ∧ ∀ b, G.g b = some j → G'.g b = some j := by
    intro j hj hj2
    refine ⟨by show (if j = l then _ else G.r j) = _; rw [if_neg hj], fun b hb => ?_⟩
    show (if some b = v'.ownBlock then some l else if l2.isSome && G.g b == l2 then some l else G.g b) = some j
    rw [if_neg (fun he => ?_), if_neg (fun hc => ?_)]
    · exact hb
    · simp only [Bool.and_eq_true, beq_iff_eq] at hc
      rw [hb] at hc
      exact hj2 j hc.2.symm rfl
    · rcases hgb b he.symm with h | h
      · rw [hb] at h; exact hj (Option.some.inj h)
      · have := (hG.1 b j hb).2; omega
  have hrow : ∀ b, (a.eval x).ownBlock = some b → G.g b = some l := fun b hb => (hob b hb).2
  obtain ⟨hE1, hbel⟩ := grown_env (G' := ⟨fun b => if (∃ q, l2 = some q ∧ G.g b = some q) then G.g b else G'.g b, fun j => if (∃ q, l2 = some q ∧ j = q) then G.r j else G'.r j⟩) hS hG hE hg hform hrow (fun j hj _ => by
    by_cases hj2 : ∃ q, l2 = some q ∧ j = q
    · obtain ⟨q, h1, rfl⟩ := hj2
      refine ⟨if_pos ⟨j, h1, rfl⟩, fun b hb => ?_⟩
      show (if _ then G.g b else _) = _
      rw [if_pos ⟨j, h1, hb⟩]; exact hb
    · have h2 := hkeep j hj (fun q hq' e => hj2 ⟨q, hq', e⟩)
      refine ⟨by show (if _ then _ else _) = _; rw [if_neg hj2]; exact h2.1, fun b hb => ?_⟩
      show (if _ then G.g b else _) = _
      split
      · exact hb
      · exact h2.2 b hb)
  let σ' : St := (σ.kill l).killO l2
  have hE2 : Env C σ' a w' G' := by
    intro s y hy'
    have hcase : y = .dead ∨ ((σ.kill l).at s = some y ∧ ∀ q, l2 = some q → q ∉ y.labels) := by
      cases hl : l2 with
      | none =>
        have : σ' = σ.kill l := by show (σ.kill l).killO l2 = _; rw [hl]; rfl
        rw [this] at hy'
        exact .inr ⟨hy', fun q h => by cases h⟩
      | some q =>
        have : σ' = (σ.kill l).kill q := by show (σ.kill l).killO l2 = _; rw [hl]; rfl
        rw [this] at hy'
        rcases kill_at hy' with h | ⟨h, h2⟩
        · exact .inl h
        · exact .inr ⟨h, fun q' h' => by cases h'; exact h2⟩
    rcases hcase with rfl | ⟨h1, h2⟩
    · trivial
    · have hl : l ∉ y.labels := St.labels_kill h1
      refine Ok.keep hS.fp (Stays.refl _ _) y _ (fun j hj => ?_) (hE1 s y h1)
      have hjl : j ≠ l := fun e => hl (e ▸ hj)
      have hjq : ∀ q, l2 = some q → j ≠ q := fun q hq' e => h2 q hq' (e ▸ hj)
      refine ⟨?_, fun b hb => ?_, fun _ _ => rfl⟩
      · show G'.r j = (if _ then _ else _)
        rw [if_neg (fun ⟨q, h3, h4⟩ => hjq q h3 h4)]
      · have hb' : (if (∃ q, l2 = some q ∧ G.g b = some q) then G.g b else G'.g b) = some j := hb
        split at hb'
        · rename_i hc
          obtain ⟨q, h3, h4⟩ := hc
          rw [h4] at hb'; exact absurd (Option.some.inj hb').symm (hjq q h3)
        · exact hb'
  have hroot : ∀ b, v'.ownBlock = some b → b = G'.r l ∧ G'.g b = some l := by
    intro b hb
    refine ⟨?_, ?_⟩
    · show b = (if l = l then v'.ownBlock.getD (G.r l) else _)
      rw [if_pos rfl, hb]; rfl
    · show (if some b = v'.ownBlock then some l else _) = _
      rw [if_pos hb.symm]
  have hmem : ∀ b, (a.eval x).ownBlock ≠ some b → b < w.heap.size → w'.heap[b]? = w.heap[b]? := fun b hb hlt => hg.block b hlt (fun e => hb e.symm)
  have hrl : G'.r l = v'.ownBlock.getD (G.r l) := by show (if l = l then _ else _) = _; rw [if_pos rfl]
  have hint : ∀ b, b < w.heap.size → b ≠ G.r l ∨ (∀ c, v'.ownBlock ≠ some c) ∨ True → (∀ c, v'.ownBlock = some c → c ≠ b) → b ≠ G.r l → b ≠ G'.r l := by
    intro b _ _ h2 h3
    rw [hrl]
    cases hv : v'.ownBlock with
    | none => simpa [hv] using h3
    | some c => simpa using (h2 c hv).symm
  have hR1 : RepL w' (fun b => G'.g b = some l ∧ b ≠ G'.r l) cs vs := by
    refine RepL.mono (fun b ⟨hb, hn, _⟩ => ?_) (fun b ⟨hb, hn, _⟩ => hmem b (fun e => hn (hob b e).1) (hG.1 b l hb).2) cs vs hr
    have hlt := (hG.1 b l hb).2
    have hne : ∀ c, v'.ownBlock = some c → c ≠ b := by
      intro c hc e; subst e
      rcases hblk c hc with h | h
      · exact hn (hob c h).1
      · omega
    refine ⟨?_, hint b hlt (.inr (.inr trivial)) hne hn⟩
    show (if some b = v'.ownBlock then some l else if l2.isSome && G.g b == l2 then some l else G.g b) = some l
    split
    · rfl
    · split
      · rfl
      · exact hb
  have hR2 : RepL w' (fun b => G'.g b = some l ∧ b ≠ G'.r l) ds us := by
    rcases hl2 with ⟨_, hf⟩ | ⟨q, e', s', hq', hne, hs⟩
    · exact RepL.flat ds us hf hus
    · subst hs
      by_cases hk0 : k = 0
      · have hdn : ds = [] := List.eq_nil_of_length_eq_zero (by rw [hlen, hk0]; simp)
        have hun : us = [] := List.eq_nil_of_length_eq_zero (by rw [hus.length, hdn]; rfl)
        rw [hdn, hun]; rfl
      have hoy' := hE.ev hy
      simp only [Ok] at hoy'
      obtain ⟨us', hoq, hbq, hrq⟩ := hoy'
      have hsame : RepL w (fun b => G.g b = some q) ds us := by simpa [foot] using hus
      have huq : RepL w (fun b => G.g b = some q ∧ b ≠ G.r q) ds us' := hrq
      have heq : us = us' := by
        have hl1 : us.length = us'.length := by rw [hus.length, hrq.length]
        have h1 := (hE.ev hy).rep hsy
        simp only [Rep] at h1
        cases hus0 : us with
        | nil => subst hus0; exact (List.eq_nil_of_length_eq_zero (by simpa using hl1.symm)).symm
        | cons u0 ur =>
          rw [← hus0]
          have hlq : us'.length = k * size := by rw [hrq.length]; exact hlen
          rcases hoq.2 with ⟨hnil, hk⟩ | ⟨g, cap, cur, hv, hbg, hgg, hkc, hcm, hcs, htake⟩
          · subst hk; rw [hus0] at hl1; simp [hlq] at hl1
          · obtain ⟨hh1, i, z, hh2, hh3, hh4, hh5, hh6, hh7, hh8, _⟩ := hty
            have hcell : ∀ (j : Nat) u, us'[j]? = some u → w.cell? ((⟨g, 0, none⟩ : Addr).add j) = some u := hoq.cells (g := g) (by rw [hv]; rfl)
            have h63 : m + k ≤ maxLen := by
              have : (m + k) * 1 ≤ (m + k) * bytes := Nat.mul_le_mul_left _ hh8
              simp only [maxLen]; omega
            obtain ⟨v2, w2, hr2, ho2, _⟩ := append_run (P := P) w 0 t ty e i z size bytes hh1 hh2 hh3 hh4 hh5 hh6 hh7 (a.eval x) m vs ho ⟨g, 0, none⟩ k cap us' hlq hcell hrq.oneCells h63 hby (Nat.zero_le _)
            rw [← hv, hrun] at hr2
            injection hr2 with e1 e2
            subst e1; subst e2
            rcases ho'.2 with ⟨_, hz⟩ | ⟨g1, c1, cur1, hv1, _, hh1', _, _, _, ht1⟩
            · have : k = 0 := by omega
              subst this; rw [hus0] at hl1; simp [hlq] at hl1
            · rcases ho2.2 with ⟨hn2, _⟩ | ⟨g2, c2, cur2, hv2, _, hh2', _, _, _, ht2⟩
              · rw [hv1] at hn2; cases hn2
              · rw [hv1] at hv2
                injection hv2 with e3 _ _
                injection e3 with e4
                injection e4 with e5
                subst e5
                rw [hh1'] at hh2'
                injection hh2' with e6
                injection e6 with e7
                subst e7
                rw [ht1] at ht2
                exact List.append_cancel_left ht2
      rw [heq]
      refine RepL.mono (fun b ⟨hb, hn⟩ => ?_) (fun b ⟨hb, hn⟩ => hmem b (fun e => ?_) (hG.1 b q hb).2) ds us' huq
      · have hlt := (hG.1 b q hb).2
        have hnr : ∀ c, v'.ownBlock = some c → c ≠ b := by
          intro c hc e; subst e
          rcases hgb c hc with h | h
          · rw [hb] at h; exact hne (Option.some.inj h)
          · omega
        refine ⟨?_, ?_⟩
        · show (if some b = v'.ownBlock then some l else if l2.isSome && G.g b == l2 then some l else G.g b) = some l
          split
          · rfl
          · rw [hq', hb]; simp
        · rw [hrl]
          cases hv : v'.ownBlock with
          | none =>
            exfalso
            rcases ho'.2 with ⟨_, hz⟩ | ⟨g1, c1, cur1, hv1, _⟩
            · omega
            · rw [hv1] at hv; simp [Value.ownBlock] at hv
          | some c => simpa using (hnr c hv).symm
      · rw [hrow b e] at hb; exact hne (Option.some.inj hb).symm
  have hok : Ok C w' G' (.own l e size (m + k) (cs ++ ds)) v' := ⟨vs ++ us, ho', hroot, RepL.append hR1 hR2⟩
  refine hK' _ _ _ hK ?_
  have hS' : Sim n C σ' a w' := ⟨hS.fp, hS.below.trans hbel, hS.dfs, hS.size, G', hG', hE2⟩
  exact hS'.put hG' hE2 hd hok
end
end Go.Proofs.YtfagllolcalfiabDoor
