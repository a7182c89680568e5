/- Contracts of functions, walked over the pure layer; each says for which arguments. -/
import Derived.Test.YtafeflonhbgbkaaGreatDoorSplTy
import Derived.Shelf.Strings.BuilderRune
import Derived.Lib.AppendIntMem
import Derived.RangeFuncNested
import Derived.RangeFuncBound
import Derived.RangeFuncCalls
import Derived.RangeFuncLeaves
import Derived.RangeFuncBox
import Derived.Shelf.Abstract
import Derived.Shelf.RegionOpen
import Derived.WalkKit
import Derived.OwnWalkIn
import Derived.TacticsInMore
import Derived.LoopNIn
import Derived.LoopIn
import Derived.Maps.AppendAt
import Derived.Test.YtafeflonhbgbkaaGreatDoorTf
import Derived.Test.YtafeflonhbgbkaaGreatDoorSp
import Derived.Test.YtafeflonhbgbkaaGreatDoorShelf
import Derived.Test.YtafeflonhbgbkaaGreatDoorBl
import Derived.Test.YtafeflonhbgbkaaGreatDoorIm
import Derived.Test.YtafeflonhbgbkaaGreatDoorIt
import Derived.Test.YtafeflonhbgbkaaGreatDoorIm2
namespace Go.Proofs.YtafeflonhbgbkaaGreatDoor
open Go.RowKit SplTy
set_option linter.unusedVariables false
set_option linter.unusedSimpArgs false

theorem ib_none {c : UInt8} : ∀ {l : List UInt8}, Lib.indexByte l c < 0 → c ∉ l
  | [], _ => by simp
  | b :: l, h => by
    unfold Lib.indexByte at h
    split at h
    · omega
    · rename_i hb
      have hge := Lib.indexByte_ge l c
      split at h
      · rename_i h1
        have h1' : Lib.indexByte l c = -1 := by simpa using h1
        have := ib_none (l := l) (c := c) (by omega)
        simp only [List.mem_cons, not_or]
        exact ⟨fun e => hb (by simp [e]), this⟩
      · rename_i h1
        have h1' : Lib.indexByte l c ≠ -1 := by simpa using h1
        omega
theorem ib_some {c : UInt8} : ∀ {l : List UInt8}, 0 ≤ Lib.indexByte l c → (Lib.indexByte l c).toNat < l.length ∧ l.getD (Lib.indexByte l c).toNat 0 = c ∧ c ∉ l.take (Lib.indexByte l c).toNat
  | [], h => by simp [Lib.indexByte] at h
  | b :: l, h => by
    have hge := Lib.indexByte_ge l c
    by_cases hb : (b == c) = true
    · have e : Lib.indexByte (b :: l) c = 0 := by unfold Lib.indexByte; rw [if_pos hb]
      rw [e]
      have hb' : b = c := by simpa using hb
      simp [hb']
    · by_cases h1 : Lib.indexByte l c = -1
      · have e : Lib.indexByte (b :: l) c = -1 := by unfold Lib.indexByte; rw [if_neg hb, if_pos (by simpa using h1)]
        rw [e] at h; omega
      · have e : Lib.indexByte (b :: l) c = Lib.indexByte l c + 1 := by
          show (if (b == c) = true then (0 : Int) else if (Lib.indexByte l c == -1) = true then -1 else Lib.indexByte l c + 1) = _
          rw [if_neg hb, if_neg (by simpa using h1)]
        obtain ⟨g1, g2, g3⟩ := ib_some (l := l) (c := c) (by omega)
        rw [e, show (Lib.indexByte l c + 1).toNat = (Lib.indexByte l c).toNat + 1 by omega]
        refine ⟨by simp; omega, by simpa using g2, ?_⟩
        simp only [List.take_succ_cons, List.mem_cons, not_or]
        exact ⟨fun e => hb (by simp [e]), g3⟩
theorem sp_fold (b : UInt8) : ∀ (l : List UInt8) (p q : List (List UInt8)) (r : List UInt8), l.foldl (fun (acc : List (List UInt8) × List UInt8) c => if c = b then (acc.1 ++ [acc.2], []) else (acc.1, acc.2 ++ [c])) (p ++ q, r) = (p ++ (l.foldl (fun (acc : List (List UInt8) × List UInt8) c => if c = b then (acc.1 ++ [acc.2], []) else (acc.1, acc.2 ++ [c])) (q, r)).1, (l.foldl (fun (acc : List (List UInt8) × List UInt8) c => if c = b then (acc.1 ++ [acc.2], []) else (acc.1, acc.2 ++ [c])) (q, r)).2)
  | [], p, q, r => rfl
  | c :: l, p, q, r => by
    simp only [List.foldl_cons]
    by_cases h : c = b
    · rw [if_pos h, if_pos h, List.append_assoc]; exact sp_fold b l p (q ++ [r]) []
    · rw [if_neg h, if_neg h]; exact sp_fold b l p q (r ++ [c])
theorem sp_miss (b : UInt8) : ∀ (l r : List UInt8), b ∉ l → l.foldl (fun (acc : List (List UInt8) × List UInt8) c => if c = b then (acc.1 ++ [acc.2], []) else (acc.1, acc.2 ++ [c])) ([], r) = ([], r ++ l)
  | [], r, _ => by simp
  | c :: l, r, h => by
    simp only [List.mem_cons, not_or] at h
    simp only [List.foldl_cons]
    rw [if_neg (fun e => h.1 e.symm), sp_miss b l (r ++ [c]) h.2]; simp
theorem splitL_none {b : UInt8} {s : List UInt8} (h : b ∉ s) : splitL b s = [s] := by
  unfold splitL splitF; rw [sp_miss b s [] h]; rfl
theorem splitL_at {b : UInt8} {s : List UInt8} {i : Nat} (hi : i < s.length) (h1 : s.getD i 0 = b) (h2 : b ∉ s.take i) : splitL b s = s.take i :: splitL b (s.drop (i + 1)) := by
  have e : s = s.take i ++ b :: s.drop (i + 1) := by
    have h3 : s[i] = b := by rw [← h1]; simp [hi]
    have h4 : s.drop i = s[i] :: s.drop (i + 1) := List.drop_eq_getElem_cons hi
    rw [← h3, ← h4, List.take_append_drop]
  have key : splitL b (s.take i ++ b :: s.drop (i + 1)) = s.take i :: splitL b (s.drop (i + 1)) := by
    unfold splitL splitF
    rw [List.foldl_append, sp_miss b _ [] h2, List.nil_append, List.foldl_cons, if_pos rfl]
    simp only [List.nil_append]
    have := sp_fold b (s.drop (i + 1)) [s.take i] [] []
    simp only [List.append_nil] at this
    rw [this]; simp
  rw [← e] at key; exact key
theorem splitL_ne (b : UInt8) (s : List UInt8) : 0 < (splitL b s).length := by unfold splitL; simp
def strLen : Value → Nat
  | .string t => t.size
  | _ => 0



attribute [local go_sem] Oper.semAt_some

set_option maxRecDepth 100000 in
set_option maxHeartbeats 1000000 in
theorem parts1_in (n : Nat) (hn : 3 ≤ n) (l Ba Bb n₀ : Nat) (s : List UInt8) (b : UInt8) (J Jx : List (List UInt8) → World → Prop)
    (hY : ∀ pre x W, J pre W → pre.length < (splitL b s).length → YieldAt Fence.wide (n - 1) Tryz.prog l #[.string ⟨x.toArray⟩] W fun e W' =>
      (e = .returned (.bool true) ∧ J (pre ++ [x]) W' ∧ (Below n₀ W W' ∧ W'.cell? ⟨Bb, 0, none⟩ = W.cell? ⟨Bb, 0, none⟩)) ∨ (e = .returned (.bool false) ∧ Jx (pre ++ [x]) W'))
    (W : World) (hs : W.cell? ⟨Ba, 0, none⟩ = some (.string ⟨s.toArray⟩)) (hb : W.cell? ⟨Bb, 0, none⟩ = some (.int .u8 b.toNat)) (h0 : J [] W) (hsz : s.length ≤ 4611686018427387904) :
    CallsIn Fence.wide n Tryz.prog 89 #[.func (.yield l) #[] #[], .pointer (some ⟨Ba, 0, none⟩), .pointer (some ⟨Bb, 0, none⟩)] W fun e W' => (∃ v, e = .returned v) ∧
      ((∃ ys, ys = splitL b s ∧ J ys W') ∨ (∃ pre, pre <+: splitL b s ∧ Jx pre W')) := by
  refine callsIn_of_wp Tryz.func89 rfl trivial ?_ rfl
  simp only [Tryz.ntmps89, List.size_toArray, List.length_cons, List.length_nil, Nat.reduceAdd, Nat.reduceSub, Array.replicate_succ, Array.replicate_zero, List.push_toArray, List.append_toArray, List.nil_append, List.cons_append]
  have h37 : Fence.wide.fn 90 := trivial
  have h1 : 1 ≤ n := by omega
  gi_wp2
  gi_loopw [4] (fun p wr => ∃ (pre : List (List UInt8)) (rest : List UInt8), p = .string ⟨rest.toArray⟩ ∧ splitL b s = pre ++ splitL b rest ∧ J pre wr ∧ wr.cell? ⟨Bb, 0, none⟩ = some (.int .u8 b.toNat) ∧ rest.length ≤ s.length)
    (fun p wr => strLen p)
  case atStart =>
    exact ⟨[], s, rfl, rfl, h0, hb, Nat.le_refl _⟩
  case round =>
    obtain ⟨pre, rest, rfl, hx, hJs, hb2, hrl⟩ := hrel
    have hIB : ∀ w, Calls Tryz.prog 90 #[.string ⟨rest.toArray⟩, .int .u8 b.toNat] w fun e w' => e = .returned (.int .i64 (Lib.indexByte rest b)) ∧ w' = w := fun w => by simpa using Tryz.strings_IndexByte ⟨rest.toArray⟩ b.toNat w
    have hge := Lib.indexByte_ge rest b
    by_cases hneg : Lib.indexByte rest b < 0
    · have hsp := splitL_none (ib_none hneg)
      obtain ⟨fn, tmps, assign, body, hy, hR⟩ := hY pre rest wr hJs (by rw [hx, hsp]; simp)
      generalize Lib.indexByte rest b = k at hIB hneg hge
      gi_wp2_with (gi_at_call 90; refine (callsIn_wide.2 (hIB _)).mono ?_; rintro e w' ⟨rfl, rfl⟩)
      refine hR.mono ?_
      rintro e W3 (⟨rfl, hJ3, hk3⟩ | ⟨rfl, hJx3⟩)
      · gi_wp2
        refine bodyPost_ret (results_none rfl _ _ _) rfl ?_
        exact ⟨⟨_, rfl⟩, .inl ⟨pre ++ [rest], by rw [hx, hsp], hJ3⟩⟩
      · gi_wp2
        refine bodyPost_ret (results_none rfl _ _ _) rfl ?_
        exact ⟨⟨_, rfl⟩, .inr ⟨pre ++ [rest], by rw [hx, hsp]; exact List.prefix_refl _, hJx3⟩⟩
    · obtain ⟨g1, g2, g3⟩ := ib_some (l := rest) (c := b) (by omega)
      have hsp := splitL_at g1 g2 g3
      have hne := splitL_ne b (rest.drop ((Lib.indexByte rest b).toNat + 1))
      obtain ⟨fn, tmps, assign, body, hy, hR⟩ := hY pre (rest.take (Lib.indexByte rest b).toNat) wr hJs (by rw [hx, hsp]; simp)
      generalize Lib.indexByte rest b = k at hIB hneg hge g1 g2 g3 hsp hy hR hne
      have ex : ∀ i j : Nat, (ByteArray.mk rest.toArray).extract i j = ⟨((rest.drop i).take (j - i)).toArray⟩ := fun i j => by
        apply ByteArray.ext; apply Array.ext'; simp [ByteArray.data_extract, List.extract_eq_take_drop]
      have e0 : (ByteArray.mk rest.toArray).extract 0 k.toNat = ⟨(rest.take k.toNat).toArray⟩ := by rw [ex]; simp
      have e1 : (ByteArray.mk rest.toArray).extract (k + 1).toNat (ByteArray.mk rest.toArray).size = ⟨(rest.drop (k.toNat + 1)).toArray⟩ := by
        rw [ex, show (k + 1).toNat = k.toNat + 1 by omega]; congr 2; rw [List.take_of_length_le]; simp [ByteArray.size]
      have hw : wrap64 (k + 1) = k + 1 := by unfold wrap64; omega
      have hc1 : 0 ≤ k + 1 ∧ k + 1 ≤ (rest.length : Int) := by omega
      gi_wp2_with (gi_at_call 90; refine (callsIn_wide.2 (hIB _)).mono ?_; rintro e w' ⟨rfl, rfl⟩)
      refine hR.mono ?_
      rintro e W3 (⟨rfl, hJ3, hk3⟩ | ⟨rfl, hJx3⟩)
      · gi_wp2
        have hd : (rest.drop (k + 1).toNat).take (rest.length - (k + 1).toNat) = rest.drop (k.toNat + 1) := by
          rw [show (k + 1).toNat = k.toNat + 1 by omega, List.take_of_length_le]; simp
        refine ⟨⟨pre ++ [rest.take k.toNat], rest.drop (k.toNat + 1), by rw [hd], by rw [hx, hsp]; simp, hJ3, by rw [hk3.2]; exact hb2, by simp; omega⟩, ?_⟩
        simp only [strLen, ByteArray.size, List.size_toArray, hd, List.length_drop]
        omega
      · gi_wp2
        refine bodyPost_ret (results_none rfl _ _ _) rfl ?_
        exact ⟨⟨_, rfl⟩, .inr ⟨pre ++ [rest.take k.toNat], ⟨splitL b (rest.drop (k.toNat + 1)), by rw [hx, hsp]; simp⟩, hJx3⟩⟩

def KpS (n₀ Bb : Nat) (A B : World) : Prop := Below n₀ A B ∧ B.cell? ⟨Bb, 0, none⟩ = A.cell? ⟨Bb, 0, none⟩
theorem KpS.trans {n₀ Bb : Nat} {A B C : World} (h : KpS n₀ Bb A B) (k : KpS n₀ Bb B C) : KpS n₀ Bb A C := ⟨h.1.trans k.1, k.2.trans h.2⟩
theorem KpS.put {n₀ Bb : Nat} {w : World} (hn : n₀ ≤ w.heap.size) (hb : Bb < w.heap.size) (W : World) (l : Nat) (o o' : Obj) (hl : w.heap.size ≤ l) (h : W.heap[l]? = some o) (hc : o.isCells = false) (hw : o.isWalk = false) : KpS n₀ Bb W (W.putObj l o') :=
  ⟨belowK_b hn W l o o' hl h hc hw, by
    unfold World.cell?
    rw [show (W.putObj l o').heap[Bb]? = W.heap[Bb]? from (grownBy_putObj' W l o').block Bb (by have := (Array.getElem?_eq_some_iff.1 h).1; omega) (by simp; omega)]⟩
theorem parts_stops (n : Nat) (hn : 3 ≤ n) (Ba Bb n₀ : Nat) (s : List UInt8) (b : UInt8) (hsz : s.length ≤ 4611686018427387904) (w : World) (hBa : Ba < w.heap.size) (hBb : Bb < w.heap.size)
    (hs : w.cell? ⟨Ba, 0, none⟩ = some (.string ⟨s.toArray⟩)) (hb : w.cell? ⟨Bb, 0, none⟩ = some (.int .u8 b.toNat)) :
    SeqStopsK Fence.wide n Tryz.prog 89 #[.pointer (some ⟨Ba, 0, none⟩), .pointer (some ⟨Bb, 0, none⟩)] (fun x : List UInt8 => #[Value.string ⟨x.toArray⟩]) (KpS n₀ Bb) (fun ys => ys = splitL b s) (fun pre => pre <+: splitL b s) (splitL b s).length w := fun l J Jx W hW _ _ hY h0 =>
  parts1_in n hn l Ba Bb n₀ s b J Jx hY W ((hW.cell (p := ⟨Ba, 0, none⟩) hBa).trans hs) ((hW.cell (p := ⟨Bb, 0, none⟩) hBb).trans hb) h0 hsz
set_option maxHeartbeats 1000000 in
theorem partsOf_in (n : Nat) (s : List UInt8) (b : UInt8) (w : World) :
    CallsIn Fence.wide n Tryz.prog 80 #[.string ⟨s.toArray⟩, .int .u8 b.toNat] w fun e w' => e = .returned (.func (.func 89) #[] #[.pointer (some ⟨w.heap.size, 0, none⟩), .pointer (some ⟨w.heap.size + 1, 0, none⟩)]) ∧ w' = (w.alloc (.cells #[.string ⟨s.toArray⟩] 9)).alloc (.cells #[.int .u8 b.toNat] 5) := by
  refine callsIn_of_wp Tryz.func80 rfl trivial ?_ rfl
  simp only [Tryz.ntmps80, List.size_toArray, List.length_cons, List.length_nil, Nat.reduceAdd, Nat.reduceSub, Array.replicate_succ, Array.replicate_zero, List.push_toArray, List.append_toArray, List.nil_append, List.cons_append]
  gi_wp2
  go_ret
  exact ⟨rfl, rfl⟩
theorem infoS : (Tryz.prog.info? 9).map (fun i => (i.zero, i.size, i.bytes)) = some (some (.string ⟨#[]⟩), 1, 16) := by kernel_rfl
set_option maxRecDepth 100000 in
set_option maxHeartbeats 2000000 in
theorem split_in (n : Nat) (hn : 5 ≤ n) (s : List UInt8) (b : UInt8) (hs : s.length ≤ 4000) (w : World) :
    CallsIn Fence.wide n Tryz.prog 57 #[.string ⟨s.toArray⟩, .string ⟨#[b]⟩] w fun e W' => ∃ v, e = .returned (.tuple #[v, .bool true]) ∧ W'.ownsRow w.heap.size 9 1 v (splitL b s).length ((splitL b s).map fun x => Value.string ⟨x.toArray⟩) ∧ Below w.heap.size w W' := by
  have h1 : 1 ≤ n := by omega
  have hP0 : Fence.wide.fn 80 := trivial
  obtain ⟨i0, hi, hz0, hz1, hz2⟩ := info_parts infoS
  refine callsIn_of_wp_marks Tryz.func57 rfl trivial ?_ rfl
  simp only [Tryz.ntmps57, List.size_toArray, List.length_cons, List.length_nil, Nat.reduceAdd, Nat.reduceSub, Array.replicate_succ, Array.replicate_zero, List.push_toArray, List.append_toArray, List.nil_append, List.cons_append]
  gi_wp2_with (gi_at_call 80; refine (partsOf_in (n - 1) s b _).mono ?_; rintro e w' ⟨rfl, rfl⟩)
  obtain ⟨W0, hW0⟩ : ∃ W0, (((w.alloc (.cells #[] 9)).alloc (.cells #[.slice (some ⟨w.heap.size, 0, none⟩) 0 0] 56)).alloc (.cells #[.string ⟨s.toArray⟩] 9)).alloc (.cells #[.int .u8 b.toNat] 5) = W0 := ⟨_, rfl⟩
  have z0 : W0.heap.size = w.heap.size + 4 := by rw [← hW0]; simp
  have bO : Boxed W0 (w.heap.size + 1) 56 (.slice (some ⟨w.heap.size, 0, none⟩) 0 0) := by
    have := ((Boxed.new (w.alloc (.cells #[] 9)) 56 (.slice (some ⟨w.heap.size, 0, none⟩) 0 0)).alloc (.cells #[.string ⟨s.toArray⟩] 9)).alloc (.cells #[.int .u8 b.toNat] 5)
    rw [← hW0]; simpa using this
  have bS : Boxed W0 (w.heap.size + 2) 9 (.string ⟨s.toArray⟩) := by
    have := (Boxed.new ((w.alloc (.cells #[] 9)).alloc (.cells #[.slice (some ⟨w.heap.size, 0, none⟩) 0 0] 56)) 9 (.string ⟨s.toArray⟩)).alloc (.cells #[.int .u8 b.toNat] 5)
    rw [← hW0]; simpa using this
  have bB : Boxed W0 (w.heap.size + 3) 5 (.int .u8 b.toNat) := by
    have := Boxed.new (((w.alloc (.cells #[] 9)).alloc (.cells #[.slice (some ⟨w.heap.size, 0, none⟩) 0 0] 56)).alloc (.cells #[.string ⟨s.toArray⟩] 9)) 5 (.int .u8 b.toNat)
    rw [← hW0]; simpa using this
  have hB0 : Below w.heap.size w W0 := by
    rw [← hW0]; exact ((((Below.refl _ w).alloc (Nat.le_refl _) _).alloc (by simp) _).alloc (by simp; omega) _).alloc (by simp; omega) _
  have hrow0 : W0.ownsRow w.heap.size 9 1 (.slice (some ⟨w.heap.size, 0, none⟩) 0 0) 0 [] := by
    refine ⟨rfl, .inr ⟨w.heap.size, 0, #[], rfl, Nat.le_refl _, ?_, Nat.le_refl _, Nat.zero_le _, rfl, rfl⟩⟩
    have h2 : (w.alloc (.cells #[] 9)).heap[w.heap.size]? = some (.cells #[] 9 (0, 0)) := World.alloc_heap_new w _
    have h3 : Below (w.heap.size + 1) (w.alloc (.cells #[] 9)) W0 := by
      rw [← hW0]; exact (((Below.refl _ _).alloc (by simp) _).alloc (by simp) _).alloc (by simp) _
    rw [h3.block _ (by omega)]; exact h2
  have hlenN := splitL_len b s
  rw [hW0]
  refine wpIn_rangeFunc_ownF rfl h1 (gf := 89) (lb := #[.pointer (some ⟨w.heap.size + 2, 0, none⟩), .pointer (some ⟨w.heap.size + 3, 0, none⟩)]) rfl trivial (enters_of Tryz.func89 (by kernel_rfl) rfl)
    (parts_stops (n - 1) (by omega) (w.heap.size + 2) (w.heap.size + 3) w.heap.size s b (by omega) W0 (by omega) (by omega) bS.cell bB.cell) KpS.trans (KpS.put (by omega) (by omega)) (Below.refl _ _) (fun _ => rfl)
    (fun pre W => (∃ v, Boxed W (w.heap.size + 1) 56 v ∧ W.ownsRow w.heap.size 9 1 v pre.length (pre.map fun x => Value.string ⟨x.toArray⟩) ∧ True) ∧ (Below w.heap.size w W ∧ Boxed W (w.heap.size + 3) 5 (.int .u8 b.toNat)))
    (fun _ _ _ => False)
    (OwnFrom.and (Own.from (holdsRow_own w.heap.size (w.heap.size + 1) 56 9 1 (fun (pre : List (List UInt8)) => pre.length) (fun pre => pre.map fun x => Value.string ⟨x.toArray⟩) (fun _ _ => True)) _) (OwnFrom.and (ownFrom_below (Nat.le_refl _) (by omega)) (Own.from (boxed_own (w.heap.size + 3) 5 fun _ => .int .u8 b.toNat) _)))
    (fun _ _ _ _ _ hs _ _ => hs)
    ⟨⟨_, bO, hrow0, trivial⟩, hB0, bB⟩
    (fun x => { tmps := #[Value.string ⟨s.toArray⟩, Value.string ⟨#[b]⟩, undef, undef, Value.slice none 0 0, Value.bool false, Value.pointer (some ⟨w.heap.size + 1, 0, none⟩), Value.string ⟨x.toArray⟩, Value.string ⟨s.toArray⟩, Value.int .i64 (s.length : Int), Value.bool (decide (4000 < (s.length : Int))), Value.bool (decide (4000 < (s.length : Int))), Value.string ⟨#[b]⟩, Value.int .i64 1, Value.bool false, Value.bool (decide (4000 < (s.length : Int))), undef, Value.slice (some ⟨w.heap.size, 0, none⟩) 0 0, Value.string ⟨s.toArray⟩, Value.string ⟨#[b]⟩, Value.int .u8 (((ByteArray.mk #[b])[0]'(Nat.zero_lt_one)).toNat : Nat), Value.func (.func 89) #[] #[Value.pointer (some ⟨w.heap.size + 1 + 1, 0, none⟩), Value.pointer (some ⟨w.heap.size + 1 + 1 + 1, 0, none⟩)], Value.string ⟨x.toArray⟩, undef, undef, undef, undef, undef], defers := [] }) ?assign ?body ?done ?stop
  case assign =>
    intro l x W K hK
    gi_wp2
    exact hK
  case body =>
    rintro l pre x W ⟨⟨v, hv, hrow, _⟩, hB, hbB⟩ hlt
    have hc := hv.cell
    gi_wp2_with (gi_at_builtin; refine wpListIn_append_own _ rfl _ _ 56 rfl w.heap.size 9 i0 (.string ⟨#[]⟩) 1 16 Tryz.underlying56 hi hz0 hz1 hz2 rfl (by decide) _ _ _ rfl (hrow.alloc _) ⟨W.heap.size, 0, none⟩ 1 1 [.string ⟨x.toArray⟩] rfl rfl (cell_one_new _ _ _) (by simp [Value.oneCell']) (by unfold maxLen; omega) (by omega) (by have := hB.size; simp; omega) ?_; intro v' w1 hown' hgrow _; obtain ⟨g', cap', rfl⟩ := ownsRow_succ hown'; obtain ⟨hv1, hv2, hr2, hk2, hb2⟩ := hv.appended (by decide) hrow hB.size (by omega) hown' hgrow; have hc1 := hv1.cell; have hf1 := hv1.frozen)
    have hbW : Boxed (w1.setCell ⟨w.heap.size + 1, 0, none⟩ (.slice (some ⟨g', 0, none⟩) (pre.length + 1) cap')) (w.heap.size + 3) 5 (.int .u8 b.toNat) := ((hbB.alloc _).kept hgrow (hbB.not_row (by decide) hrow)).other (by omega) _
    exact ⟨hk2, ⟨hb2, by rw [hbW.cell, hbB.cell]⟩, ⟨_, hv2, by simpa using hr2, trivial⟩, hB.trans hb2, hbW⟩
  case done =>
    rintro D ys W hD rfl ⟨⟨v, hv, hrow, _⟩, hB, _⟩ hK
    have hc := hv.cell
    gi_wp2
    refine ⟨by simp, .inl ⟨_, _, rfl, run_takeDeferred hK, ?_⟩⟩
    exact ⟨_, results_tmp2 rfl _ _ _, v, rfl, ownsRow_putObj hrow _ hK rfl, hB.trans (belowK_b (w := w) (Nat.le_refl _) W D _ _ (by omega) hK rfl rfl)⟩
  case stop =>
    rintro D c pre W _ _ h _
    exact h.elim


set_option maxRecDepth 4000 in
theorem split_bad (s sep : List UInt8) (hs : s.length ≤ 4611686018427387904) (hp : sep.length ≤ 4611686018427387904) (hb : ¬ (s.length ≤ 4000 ∧ sep.length = 1)) : PCalls Tryz.prog 57 [.str s, .str sep] (· = [.own 0 9 1 (([] : List (List UInt8))).length ((([] : List (List UInt8))).map .str), .val (.bool false)]) := by
  refine pcalls_of_code (n := 28) az Tryz.func57 (by kernel_rfl) rfl rfl (Nat.le_of_ble_eq_true rfl) (by intro t u h; simp [Tryz.f57] at h) ?_
  refine code_seq (fun K1 hK1 => ?_)
  refine code_region ?_
  refine list_cons rfl (op_q (q_assign rfl (by decide)) ?_)
  refine list_cons rfl (op_q (q_assign rfl (by decide)) ?_)
  refine list_nil ?_
  refine hK1 _ ?_; clear hK1 K1
  refine code_seq (fun K2 hK2 => ?_)
  refine code_seq (fun K3 hK3 => ?_)
  refine code_region ?_
  refine list_cons rfl (op_q (q_move rfl (by decide)) ?_)
  refine list_cons rfl (op_q (q_len_str Tryz.underlying9 rfl (by decide)) ?_)
  refine list_cons rfl (op_q (q_gt rfl rfl (by decide)) ?_)
  refine list_cons rfl (op_q (q_move rfl (by decide)) ?_)
  refine list_guard_d rfl rfl rfl rfl (by decide) rfl (by decide) (fun h1 => ?_) (fun h1 => ?_)
  · simp only [Bool.false_eq_true, if_true, if_false, Decidable.not_not] at h1
    refine id (op_q (q_move rfl (by decide)) ?_)
    refine list_guard_y rfl rfl rfl rfl (by decide) rfl ?_
    refine id (op_q (q_len_str Tryz.underlying9 rfl (by decide)) ?_)
    refine list_guard_y rfl rfl rfl rfl (by decide) rfl ?_
    refine id (op_q (q_ne rfl rfl (by decide)) ?_)
    refine list_cons rfl (op_q (q_pick rfl rfl (by decide)) ?_)
    refine list_nil ?_
    refine hK3 _ ?_; clear hK3 K3
    refine codeT.imp (σ' := [(0, _), (1, _), (4, _), (5, _), (15, _)]) ?_ (imp_covers ⟨rfl, rfl, rfl, rfl, rfl, trivial⟩)
    refine code_cond_d rfl (fun h2 => ?_) (fun h2 => ?_)
    · skip
      (try simp only [Decidable.not_not] at h2)
      refine code_seq (fun K4 hK4 => ?_)
      refine code_region ?_
      refine list_cons rfl (op_buildSlice sl_56 (parts := []) rfl rfl rfl (by decide) (by decide) (by decide) rfl ?_)
      refine list_cons rfl (op_q (q_assign rfl (by decide)) ?_)
      refine list_cons rfl (op_q (q_assign rfl (by decide)) ?_)
      refine list_nil ?_
      refine hK4 _ ?_; clear hK4 K4
      refine code_ret ?_
      refine then_r ?_; clear hK2 K2
      refine ends_ret (cs := []) rfl rfl rfl rfl trivial ?_
      rfl
    (try simp only [Decidable.not_not] at h2)
    exfalso
    omega
  simp only [Bool.false_eq_true, if_true, if_false, Decidable.not_not] at h1
  refine list_guard_n rfl rfl rfl rfl (by decide) rfl ?_
  refine list_guard_n rfl rfl rfl rfl (by decide) rfl ?_
  refine list_cons rfl (op_q (q_pick rfl rfl (by decide)) ?_)
  refine list_nil ?_
  refine hK3 _ ?_; clear hK3 K3
  refine code_cond_t rfl ?_
  refine code_seq (fun K5 hK5 => ?_)
  refine code_region ?_
  refine list_cons rfl (op_buildSlice sl_56 (parts := []) rfl rfl rfl (by decide) (by decide) (by decide) rfl ?_)
  refine list_cons rfl (op_q (q_assign rfl (by decide)) ?_)
  refine list_cons rfl (op_q (q_assign rfl (by decide)) ?_)
  refine list_nil ?_
  refine hK5 _ ?_; clear hK5 K5
  refine code_ret ?_
  refine then_r ?_; clear hK2 K2
  refine ends_ret (cs := []) rfl rfl rfl rfl trivial ?_
  rfl

theorem strs_repl {w : World} {F : Nat → Prop} : ∀ l : List (List UInt8), RepL w F (l.map .str) (l.map fun x => Value.string ⟨x.toArray⟩)
  | [] => by simp [RepL]
  | s :: l => ⟨_, _, rfl, rfl, by simp [Rep], strs_repl l⟩
theorem split_good (s : List UInt8) (b : UInt8) (hs : s.length ≤ 4000) : PCalls Tryz.prog 57 [.str s, .str [b]] (· = [.own 0 9 1 (splitL b s).length ((splitL b s).map .str), .val (.bool true)]) := by
  refine pcalls_own (enters_of Tryz.func57 (by kernel_rfl) rfl) fun w vs ha => ?_
  obtain ⟨v0, r0, rfl, ha0, ha⟩ := repArgs_cons ha
  obtain ⟨v1, r1, rfl, ha1, ha⟩ := repArgs_cons ha
  obtain rfl := repArgs_nil ha
  simp only [Rep] at ha0 ha1
  subst ha0; subst ha1
  refine ((callsIn_wide (n := 5)).1 (split_in 5 (by decide) s b hs w)).mono ?_
  rintro e w' ⟨v, rfl, ho, hb⟩
  exact ⟨v, [.bool true], [.bool true], 9, 1, (splitL b s).length, (splitL b s).map .str, _, rfl, hb, ⟨_, _, rfl, by simp [Rep], rfl⟩, ho, strs_repl _, rfl⟩
theorem impl_SplitString (s sep : List UInt8) (hs : s.length ≤ 4611686018427387904) (hp : sep.length ≤ 4611686018427387904) : PCalls Tryz.prog 57 [.str s, .str sep] (· = [.own 0 9 1 (if s.length ≤ 4000 ∧ sep.length = 1 then splitL (sep.getD 0 0) s else []).length ((if s.length ≤ 4000 ∧ sep.length = 1 then splitL (sep.getD 0 0) s else []).map .str), .val (.bool (decide (s.length ≤ 4000 ∧ sep.length = 1)))]) := by
  by_cases h : s.length ≤ 4000 ∧ sep.length = 1
  · have e : sep = [sep.getD 0 0] := by
      obtain ⟨x, rfl⟩ := List.length_eq_one_iff.mp h.2
      rfl
    simp only [if_pos h, decide_eq_true h]
    have := split_good s (sep.getD 0 0) h.1
    rw [← e] at this
    exact this
  · simp only [if_neg h, decide_eq_false h]
    exact split_bad s sep hs hp h

end Go.Proofs.YtafeflonhbgbkaaGreatDoor
