/- More operations over the pure state: a range over a text by cases, runes, shifts of numbers that are not negative. Own work; no conditions; nothing here is about one program. -/
import Derived.Test.YtlipkomdajogiaaPwU
namespace Go.Proofs.Ytlipkomdajogiaa
open Go.RowKit
set_option linter.unusedVariables false
set_option linter.unusedSimpArgs false
section
variable {P : Program} {n : Nat} {σ : St} {K : St → Prop} {d : Nat} {ty : TypeId} {pos : String} {af : Array Edge} {gd : Option (Nat × Bool)} {t t' : TypeId} {x y : Operand}
theorem q_convU {i : Int} (hs : (P.underlying t).isSome = true) (ht : P.underlying t' = some (.int .u64)) (hx : σ.ev x = some (.val (.int .i64 i))) (hd : d < n) (h1 : 0 ≤ i) (h2 : i ≤ 9223372036854775807) : quietT P n ⟨some d, .convert t t' x, ty, pos, af, gd⟩ σ d (.val (.int .u64 i)) :=
  q_cast (q_conv hs ht hx hd) (by rw [show IntKind.u64.wrap i = i by simp [IntKind.wrap, IntKind.signed, IntKind.bits]; omega])
def shN (a k : Nat) : Nat := a / p2 k
theorem shN_le (a k : Nat) : shN a k ≤ a := Nat.div_le_self _ _
theorem q_shrN {k' : IntKind} {i j : Int} (hx : σ.ev x = some (.val (.int .i64 i))) (hy : σ.ev y = some (.val (.int k' j))) (hd : d < n) (h0 : 0 ≤ j) (h1 : j ≤ 62) (h2 : 0 ≤ i) :
    quietT P n ⟨some d, .binOp .shr t x y t', ty, pos, af, gd⟩ σ d (.val (.int .i64 ((shN i.toNat j.toNat : Nat) : Int))) :=
  q_cast (q_shrI hx hy hd h0 (by simp [IntKind.bits]; omega)) (by
    have e : (2 : Int) ^ j.toNat = ((p2 j.toNat : Nat) : Int) := by unfold p2; simp
    unfold shN
    rw [e, Int.natCast_ediv, Int.toNat_of_nonneg h2])
theorem q_deadconst {c : Value} (hd : d < n) : quietT P n ⟨some d, .assign (.const c), ty, pos, af, gd⟩ σ d .dead := by
  refine ⟨rfl, hd, fun C a w G hS hG hE => ⟨c, fun _ _ => ?_, trivial⟩⟩
  simp [execOp, Act.eval]
theorem q_quoT {i j : Int} (hx : σ.ev x = some (.val (.int .i64 i))) (hy : σ.ev y = some (.val (.int .i64 j))) (hj : j ≠ 0) (hd : d < n) (h1 : -9223372036854775808 ≤ i.tdiv j) (h2 : i.tdiv j ≤ 9223372036854775807) : quietT P n ⟨some d, .binOp .quo t x y t', ty, pos, af, gd⟩ σ d (.val (.int .i64 (i.tdiv j))) :=
  q_cast (q_quo hx hy hj hd) (by rw [wrap_in h1 h2])
theorem op_make0 {e size bytes : Nat} {zc : List PV} (hty : SlTy P t e size bytes zc) {kl kc : IntKind} {m : Nat} (hx : σ.ev x = some (.val (.int kl 0))) (hy : σ.ev y = some (.val (.int kc m)))
    (hb : bytes * m ≤ 140737488355328) (hd : d < n) (hd0 : d ≠ 2000) (hfr : σ.labels.all (· != d) = true)
    (hK : K ((d, .own d e size 0 []) :: σ)) : opT P n ⟨some d, .makeSlice t x y, ty, pos, af, gd⟩ σ K := by
  intro C a w hS K' Q hK'
  obtain ⟨G, hG, hE⟩ := hS.gh
  obtain ⟨h1, i, z, h2, h3, h4, h5, h6, h7, h8, h9⟩ := hty
  have e1 := hE.ev hx
  have e2 := hE.ev hy
  simp only [Ok, Rep] at e1 e2
  have hm63 : m ≤ maxLen := by
    have : 1 * m ≤ bytes * m := Nat.mul_le_mul_right _ h8
    simp only [maxLen]; omega
  obtain ⟨w', hr, ho, hg⟩ := run_make_own (P := P) w 0 t e i z size h1 h2 h3 h4 kl kc m (by rw [h5]; omega) hm63 (Nat.zero_le _)
  have hop : (execOp a.eval ⟨some d, .makeSlice t x y, ty, pos, af, gd⟩).run P w = .ok (.value (.slice (some ⟨w.heap.size, 0, none⟩) 0 m)) w' := by
    simp [execOp, e1, e2, hr]
  unfold Oper.wp
  rw [hop, Oper.upon_value]
  have hlt : w.heap.size < w'.heap.size := (ho.lt w.heap.size rfl).2
  obtain ⟨hG', hE', hbel⟩ := new_env (w' := w') hS hG hE hg hlt hd0 hfr
  have hroot := new_root (G := G) (b0 := w.heap.size) (d := d)
  have hok : Ok C w' (G.new w.heap.size d) (.own d e size 0 []) (.slice (some ⟨w.heap.size, 0, none⟩) 0 m) := by
    refine ⟨_, ho, fun b hb => ?_, rfl⟩
    simp [Value.ownBlock] at hb
    subst hb
    exact ⟨hroot.1.symm, hroot.2⟩
  refine hK' _ _ _ hK ?_
  have hS' : Sim n C σ a w' := ⟨hS.fp, hbel, hS.dfs, hS.size, _, hG', hE'⟩
  exact hS'.put hG' hE' hd hok
end
end Go.Proofs.Ytlipkomdajogiaa
