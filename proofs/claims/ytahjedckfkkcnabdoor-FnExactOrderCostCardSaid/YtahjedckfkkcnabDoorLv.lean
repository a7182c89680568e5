/- Contracts of functions, walked over the pure layer; each says for which arguments. -/
import Derived.Test.YtahjedckfkkcnabDoorLvTy
import Derived.Test.YtahjedckfkkcnabDoorTf
import Derived.Test.YtahjedckfkkcnabDoorSp
namespace Go.Proofs.YtahjedckfkkcnabDoor
open Go.RowKit LvTy
set_option linter.unusedVariables false
set_option linter.unusedSimpArgs false

theorem code_seq_same {P : Program} {n : Nat} {σ : St} {Q : Exit → St → Prop} {x y : Code} (h1 : codeT P n x σ (Then (fun σ' => Imp n σ' σ) Q)) (h2 : codeT P n y σ Q) : codeT P n (.seq x y) σ Q :=
  code_seq fun K hK => codeT.mono h1 fun e σ' h => by
    cases e with
    | normal => exact hK σ' (h2.imp h)
    | _ => exact h
theorem flat_td (code : List UInt8) (a b : Nat) : PV.flatL (List.take a (List.drop b (bytesP code))) = true := by
  unfold bytesP
  rw [← List.map_drop, ← List.map_take]; exact flat_map _ (fun _ => rfl) _
theorem bytesP_cut (code : List UInt8) (n : Int) (k : Nat) (h0 : 0 ≤ n) (h1 : n ≤ 255) (hk : k = code.length - n.toNat) : (List.take (k * 1) (List.drop (n.toNat * 1) (bytesP code))) ++ [PV.int .u8 n] = bytesP (code.drop n.toNat ++ [UInt8.ofNat n.toNat]) := by
  subst hk
  rw [Nat.mul_one, Nat.mul_one]
  unfold bytesP
  rw [List.map_append, List.map_drop, List.take_of_length_le (by simp)]
  congr 1
  have h : (UInt8.ofNat n.toNat).toNat = n.toNat := by
    rw [UInt8.toNat_ofNat']; omega
  simp only [List.map_cons, List.map_nil, h]
  rw [show ((n.toNat : Nat) : Int) = n by omega]


section
variable {P : Program} {n : Nat} {σ : St} {K : St → Prop} {d : Nat} {ty : TypeId} {pos : String} {af : Array Edge} {gd : Option (Nat × Bool)}
theorem draw_callW {ops : Array Oper} {l : List Oper} {f : FuncId} {xs : List Operand} {ts : Array TypeId} {ps : List PV} {p : PV} (ss : List SV) (hc : PCalls P f ps (· = [.val p])) (hf : p.flat = true) (hss : σ.evs xs = some ss) (hps : pvs ss = some ps) (hd : d < n) (hwant : ∀ C a w, Sim n C σ a w → Region.wanted ⟨some d, .call { callee := .value (.func f), args := xs.toArray, argTypes := ts }, ty, pos, af, gd⟩ (yielded ops a.tmps) = true)
    (hl : drawT P n ops l ((d, .val p) :: σ) K) : drawT P n ops (⟨some d, .call { callee := .value (.func f), args := xs.toArray, argTypes := ts }, ty, pos, af, gd⟩ :: l) σ K := by
  intro C a w hS Q hQ
  obtain ⟨G, hG, hE⟩ := hS.gh
  -- the call, in each later world
  have run : ∀ w2, Below w.heap.size w w2 → Calls P f (xs.map a.eval).toArray w2 fun e w3 => e = .returned p.toV ∧ Below w.heap.size w w3 ∧ Rep w3 (fun _ => False) p p.toV := by
    intro w2 hw2
    have hS2 := hS.later hw2
    have hB2 : C.B ≤ w2.heap.size := hS2.below.size
    have hE2 : Env C σ a w2 G := fun s x hx => Ok.keep hS.fp (Stays.of_below hw2 (fun k hk => Nat.lt_of_lt_of_le hk.1 hS.below.size)) x _ (fun l _ => ⟨rfl, fun _ hb => hb, fun b hb => hw2.block b (hG.1 b l hb).2⟩) (hE s x hx)
    have hG2 : G.fits C w2 := ⟨fun b l hb => by have h1 := hG.1 b l hb; have h2 := hw2.size; exact ⟨h1.1, by omega⟩, hG.2⟩
    let C' := calleeC C G w2 false none 0 ss (calleeX_gl hS hG false none 0 hw2) (fun b hb => Nat.lt_of_lt_of_le (hG.1 b 0 hb).2 hw2.size)
    have hfeet : ∀ i b, feet C G ss 0 i b → C'.old b := by
      intro i b hb
      unfold feet at hb
      rw [if_neg (by omega)] at hb
      cases hsi : ss[i - 0]? with
      | none => simp only [hsi] at hb
      | some s =>
        simp only [hsi] at hb
        exact ⟨(foot_old hS2.fp hG2 hB2 hb).1, fun h => by cases h.1⟩
    have hargs : RepArgs w2 C'.Fp 0 ps (xs.map a.eval) := evs_ok hE2 hss hps _ 0 (fun j s hj => by
      show feet C G ss 0 (0 + j) = _
      unfold feet
      rw [if_neg (by omega), show 0 + j - 0 = j by omega, hj])
    have hex : ∀ b, C'.ex b → C'.old b := fun b hb => ⟨Nat.lt_of_lt_of_le (hS2.fp.2 b hb).1 hB2, fun h => by cases h.1⟩
    have hrun := hc.run C' (calleeG G none 0) undef (xs.map a.eval) ⟨rfl, rfl, fun _ h => h⟩ ⟨hfeet, hex⟩ (fun h => by cases h) ⟨fun b q hb => by simp [calleeG] at hb, rfl, fun b hb => by cases hb.1⟩ (fun x hx => by cases hx) hargs
    refine Calls.mono hrun ?_
    rintro e w3 ⟨v, rs, cs', rfl, rfl, hst, G', us, _, hL, hv, _, _, _⟩
    obtain ⟨u, r, hu, h1, h2⟩ := hL
    simp only [OkL] at h2
    rw [h2] at hu
    rw [hu] at hv
    have hu2 := Rep.toV p u hf h1
    have hv2 : v = p.toV := hv.trans hu2
    have hbel : Below w2.heap.size w2 w3 := (hst.mono (S' := (· < w2.heap.size)) (fun k hk => ⟨hk, fun h => by cases h.1⟩)).below
    refine ⟨congrArg Ending.returned hv2, hw2.trans (hbel.mono hw2.size), ?_⟩
    rw [← hu2]; exact h1
  unfold wpQuiet
  rw [if_pos (hwant C a w hS)]
  refine ⟨p.toV, fun w2 hw2 => ?_, ?_⟩
  · unfold Oper.quietAt
    have hrun : (execOp a.eval ⟨some d, .call { callee := .value (.func f), args := xs.toArray, argTypes := ts }, ty, pos, af, gd⟩).run P w2 = .ok (.enter f (xs.map a.eval).toArray) w2 := by
      simp [execOp, resolve, Act.eval, Deferred.ofValue, invoke]
      exact hc.ent _ _
    rw [hrun]
    exact ⟨rfl, (run w2 hw2).mono fun _ _ ⟨h1, h2, _⟩ => ⟨h1, h2⟩⟩
  · obtain ⟨e, w3, fr, ⟨_, _, h3⟩, _⟩ := run w (Below.refl _ _) []
    exact hl C _ w (hS.put hG hE hd (Rep.flat p _ hf h3)) Q hQ
theorem wanted_of {o : Oper} {ops : Array Oper} {j dj : Nat} {want : Bool} (hg : o.guard = some (j, want)) (hj : (ops[j]?).bind (·.dst) = some dj) (hdj : σ.at dj = some (.val (.bool want))) (hn : dj < n) : ∀ C a w, Sim n C σ a w → Region.wanted o (yielded ops a.tmps) = true := by
  intro C a w hS
  obtain ⟨G, hG, hE⟩ := hS.gh
  have hy : yielded ops a.tmps j = some want := by
    have := hE dj _ hdj
    simp only [Ok, Rep] at this
    unfold yielded
    rw [hj]
    have hlt : dj < a.tmps.size := by rw [hS.size]; exact hn
    simp only [Array.getD_eq_getD_getElem?, Array.getElem?_eq_getElem hlt, Option.getD_some] at this
    simp [Array.getElem?_eq_getElem hlt, this]
  simp only [Region.wanted, hg, hy]
  cases want <;> rfl
theorem draw_split {ops : Array Oper} {l : List Oper} {dj : Nat} {p : Prop} [Decidable p] (hdj : σ.at dj = some (.val (.bool (decide p)))) (h1 : p → drawT P n ops l ((dj, .val (.bool true)) :: σ) K) (h2 : ¬ p → drawT P n ops l ((dj, .val (.bool false)) :: σ) K) : drawT P n ops l σ K := by
  intro C a w hS
  by_cases hp : p
  · exact h1 hp C a w (Imp.setb hdj (decide_eq_true hp) C a w hS)
  · exact h2 hp C a w (Imp.setb hdj (decide_eq_false hp) C a w hS)
end


end Go.Proofs.YtahjedckfkkcnabDoor
