/- Contracts of functions, walked over the pure layer; each says for which arguments. -/
import Derived.Test.YtilpfcpjmfchbaaDoorIm3gTy
import Derived.Test.YtilpfcpjmfchbaaDoorTf
import Derived.Test.YtilpfcpjmfchbaaDoorSp
import Derived.Test.YtilpfcpjmfchbaaDoorS3
import Derived.Test.YtilpfcpjmfchbaaDoorShelf
import Derived.Test.YtilpfcpjmfchbaaDoorIm
import Derived.Test.YtilpfcpjmfchbaaDoorS3b
import Derived.Test.YtilpfcpjmfchbaaDoorS3d
import Derived.Test.YtilpfcpjmfchbaaDoorIm3f
namespace Go.Proofs.YtilpfcpjmfchbaaDoor
open Go.RowKit Im3gTy
set_option linter.unusedVariables false
set_option linter.unusedSimpArgs false

abbrev GM := List (PV × Option (Nat × List PV))
/-- The entries, as the state tells them. -/
def gE (m : List (Int × List Int)) : GM := m.map fun p => (.int .i64 p.1, some (p.2.length, p.2.map (.int .i64)))
theorem gE_len (m : List (Int × List Int)) : (gE m).length = m.length := by simp [gE]
theorem gE_at {m : List (Int × List Int)} {i : Nat} {c : Int} {v : List Int} (h : m[i]? = some (c, v)) : (gE m)[i]? = some (.int .i64 c, some (v.length, v.map (.int .i64))) := by
  unfold gE; rw [List.getElem?_map, h]; rfl
theorem findG_gE (c : Int) : ∀ (m : List (Int × List Int)) (i : Nat), findG (.int .i64) (.int .i64 c) (gE m) i = some (posI c m i)
  | [], i => rfl
  | p :: r, i => by
    have ih := findG_gE c r (i + 1)
    have hk : keyEq (.int .i64) (.int .i64 c) (.int .i64 p.1) = some (decide (c = p.1)) := by
      show (bif kEq .i64 .i64 then some (intEq c p.1) else none) = _
      rw [show kEq .i64 .i64 = true from rfl, cond_true, intEq_eq]
      by_cases e : c = p.1
      · subst e; simp
      · rw [decide_eq_false e]; simp [e]
    show (match keyEq (.int .i64) (.int .i64 c) (.int .i64 p.1) with
      | some true => some (some i)
      | some false => findG (.int .i64) (.int .i64 c) (gE r) (i + 1)
      | none => none) = some (if c = p.1 then some i else posI c r (i + 1))
    rw [hk]
    by_cases e : c = p.1
    · rw [if_pos e, decide_eq_true e]
    · rw [if_neg e, decide_eq_false e]; exact ih
theorem findG_set {t : TK} {k k' : PV} {o o' : Option (Nat × List PV)} : ∀ {es : GM} {j i : Nat}, es[j]? = some (k', o) → findG t k (es.set j (k', o')) i = findG t k es i
  | [], j, i, h => by simp at h
  | (k0, o0) :: r, 0, i, h => by
    simp at h; obtain ⟨rfl, rfl⟩ := h; rfl
  | (k0, o0) :: r, j + 1, i, h => by
    have ih := @findG_set t k k' o o' r j (i + 1) (by simpa using h)
    show (match keyEq t k k0 with
      | some true => some (some i)
      | some false => findG t k (r.set j (k', o')) (i + 1)
      | none => none) = _
    rw [ih]; rfl
theorem gE_hit {c d : Int} : ∀ {m : List (Int × List Int)} {i j : Nat} {v : List Int} {o : Option (Nat × List PV)}, posI c m i = some (i + j) → m[j]? = some (c, v) → ((gE m).set j (.int .i64 c, o)).set j (.int .i64 c, some (v.length + 1, v.map (.int .i64) ++ [.int .i64 d])) = gE (upI c d m)
  | [], i, j, v, o, h, _ => by simp [posI] at h
  | p :: r, i, j, v, o, h, hv => by
    unfold posI at h
    unfold upI
    split at h
    · rename_i hc
      have hj : j = 0 := by simp only [Option.some.injEq] at h; omega
      subst hj
      simp at hv
      rw [if_pos hc]
      subst hv
      simp [gE]
    · rename_i hc
      have hle := posI_le c r (i + 1) (i + j) h
      rw [if_neg hc]
      obtain ⟨j, rfl⟩ : ∃ j', j = j' + 1 := ⟨j - 1, by omega⟩
      have ih := @gE_hit c d r (i + 1) j v o (by rw [h]; congr 1; omega) (by simpa using hv)
      show _ :: _ = _ :: gE (upI c d r)
      rw [← ih]; rfl
theorem gE_miss {c d : Int} : ∀ {m : List (Int × List Int)} {i : Nat}, posI c m i = none → gE m ++ [(.int .i64 c, some (0 + 1, [] ++ [.int .i64 d]))] = gE (upI c d m)
  | [], i, h => rfl
  | p :: r, i, h => by
    unfold posI at h
    unfold upI
    split at h
    · cases h
    · rename_i hc
      rw [if_neg hc]
      have ih := @gE_miss c d r (i + 1) h
      show _ :: (gE r ++ _) = _ :: gE (upI c d r)
      rw [← ih]
theorem flat_snoc (l : List Int) (d : Int) : PV.flatL (l.map (PV.int .i64) ++ [PV.int .i64 d]) = true := by
  have : l.map (PV.int .i64) ++ [PV.int .i64 d] = (l ++ [d]).map (PV.int .i64) := by simp
  rw [this]; exact flat_map _ (fun _ => rfl) _

end Go.Proofs.YtilpfcpjmfchbaaDoor
