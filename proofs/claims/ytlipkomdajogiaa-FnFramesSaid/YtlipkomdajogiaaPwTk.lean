/- A region that draws its order, in which calls come one after the other and what else may come at any time only computes: what may come at any time is taken first. Own work; no conditions; nothing here is about one program. -/
import Derived.Test.YtlipkomdajogiaaPwMt
namespace Go.Proofs.Ytlipkomdajogiaa
open Go.RowKit
set_option linter.unusedVariables false
set_option linter.unusedSimpArgs false
def restT (P : Program) (n : Nat) (ops : Array Oper) (fuel : Nat) (listed : Array Bool) (σ : St) (K : St → Prop) : Prop :=
  ∀ C a w, Sim n C σ a w → wpAny P .any ops (regPost n C K) fuel listed a w
def pureT (P : Program) (n : Nat) (o : Oper) (σ : St) (d : Nat) (x : SV) : Prop :=
  o.dst = some d ∧ d < n ∧ ∀ C a w G, Sim n C σ a w → G.fits C w → Env C σ a w G →
    ∃ v, (∀ w2, (execOp a.eval o).run P w2 = .ok (.value v) w2) ∧ Ok C w G x v
section
variable {P : Program} {n : Nat} {σ : St} {K : St → Prop} {lo : List Oper} {fuel : Nat} {listed : Array Bool} {d : Nat} {ty t t' : TypeId} {pos : String} {af : Array Edge} {gd : Option (Nat × Bool)}
theorem rest_start (N : Nat) {id : Nat} {Q : Exit → St → Prop} (hm : P.follows .mixedOrders = true) (hN : lo.length = N) (h : restT P n lo.toArray N (Array.replicate N false) σ (Q .normal)) : codeT P n (.region id lo.toArray true) σ Q := by
  intro C a w hS M
  subst hN
  exact region_any hS hm (by simpa using h C a _ (hS.later (Below.refl _ w).drew)) M
theorem rest_done (hr : Region.ready .any lo.toArray listed = []) (h : K σ) : restT P n lo.toArray fuel listed σ K := fun C a w hS => wpAny_done hr ⟨rfl, σ, h, hS⟩ fuel
theorem rest_one (i : Nat) {o : Oper} (hr : Region.ready .any lo.toArray listed = [i]) (ho : lo[i]? = some o) (hg : o.guard = none) (h : opT P n o σ fun σ' => restT P n lo.toArray fuel (listed.setIfInBounds i true) σ' K) : restT P n lo.toArray (fuel + 1) listed σ K := by
  intro C a w hS
  refine wpAny_all hr (by simp) fun j hj => ?_
  have e : j = i := by simpa using hj
  subst e
  have ho' : lo.toArray[j]? = some o := by simpa using ho
  unfold wpOp
  simp only [ho']
  rw [if_pos (by simp [Region.wanted, hg])]
  exact .inl (h C a w hS _ _ fun σ' a' w' hk hS' => hk C a' w' hS')
theorem rest_take (i : Nat) {o : Oper} {x : SV} (ho : lo[i]? = some o) (hs : Region.noSelect lo.toArray = true) (hf : Region.free .any lo.toArray listed i = true) (hr : (Region.ready .any lo.toArray listed).contains i = true) (hg : o.guard = none) (hq : pureT P n o σ d x)
    (h : restT P n lo.toArray fuel (listed.setIfInBounds i true) ((d, x) :: σ) K) : restT P n lo.toArray (fuel + 1) listed σ K := by
  intro C a w hS
  obtain ⟨hd, hdn, hrun⟩ := hq
  obtain ⟨G, hG, hE⟩ := hS.gh
  obtain ⟨v, hv, hok⟩ := hrun C a w G hS hG hE
  refine wpAny_take (v := v) (oi := o) (by simpa using ho) hs hf hr (fun _ _ _ h => absurd h.1 (by simp)) (.inl ⟨by simp [Region.wanted, hg], hv⟩) ?_
  rw [hd]
  exact h C _ w (hS.put hG hE hdn hok)
theorem rest_imp {σ' : St} (h : restT P n lo.toArray fuel listed σ' K) (hi : Imp n σ σ') : restT P n lo.toArray fuel listed σ K := fun C a w hS => h C a w (hi C a w hS)
theorem rest_norm (l' : Array Bool) {σ' : St} (hl : listed = l') (h : restT P n lo.toArray fuel l' σ' K) (hi : Imp n σ σ') : restT P n lo.toArray fuel listed σ K := by
  subst hl; exact rest_imp h hi
theorem p_move {x : Operand} {s : SV} (hx : σ.ev x = some s) (hd : d < n) : pureT P n ⟨some d, .move x, ty, pos, af, gd⟩ σ d s :=
  ⟨rfl, hd, fun _ a _ _ _ _ hE => ⟨a.eval x, fun _ => rfl, hE.ev hx⟩⟩
theorem p_shl1 {x y : Operand} {k' : IntKind} {j : Int} (hx : σ.ev x = some (.val (.int .i64 1))) (hy : σ.ev y = some (.val (.int k' j))) (hd : d < n) (h0 : 0 ≤ j) (h1 : j ≤ 62) :
    pureT P n ⟨some d, .binOp .shl t x y t', ty, pos, af, gd⟩ σ d (.val (.int .i64 (p2 j.toNat))) := by
  refine ⟨rfl, hd, fun C a w G hS hG hE => ?_⟩
  have h2 := hE.ev hx
  have h3 := hE.ev hy
  simp only [Ok, Rep] at h2 h3
  refine ⟨_, fun _ => by simp [execOp, h2, h3, eqGuard, binOp, Op.shift, show ¬ j < 0 by omega]; rfl, ?_⟩
  simp only [Ok, Rep]
  have h := p2_le (k := j.toNat) (by omega)
  have e : (1 : Int) * 2 ^ j.toNat = ((p2 j.toNat : Nat) : Int) := by rw [Int.one_mul]; unfold p2; simp
  rw [show (2 : Int) ^ j.toNat = ((p2 j.toNat : Nat) : Int) by rw [← e, Int.one_mul], wrap_in (by omega) (by omega)]
end
end Go.Proofs.Ytlipkomdajogiaa
