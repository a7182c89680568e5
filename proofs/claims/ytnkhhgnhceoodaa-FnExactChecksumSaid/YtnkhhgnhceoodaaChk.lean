/- The walks of the checksum functions and of the law: 'l1Sum', 'Checksum' of both packages, each by the fold 'sumL'. No conditions but the string's length. -/
import Derived.Test.YtnkhhgnhceoodaaRows
import Derived.WalkKit
import Derived.WalkSpells
import Derived.WalkLawsBesides
import Derived.Lib.Hide
namespace Go.Proofs.Ytnkhhgnhceoodaa
open Go.RowKit

def sumL (l : List UInt8) : Int := l.foldl (fun (h : Int) c => (41 * h + (c.toNat : Int) + 1) % 999979) 7

theorem sum_bd (l : List UInt8) : 0 ≤ sumL l ∧ sumL l < 999979 := by
  unfold sumL
  rcases List.eq_nil_or_concat l with rfl | ⟨l', c, rfl⟩
  · simp
  · rw [List.concat_eq_append, List.foldl_append]; simp only [List.foldl_cons, List.foldl_nil]; omega

theorem take_snoc (s : ByteArray) (k : Nat) (h : k < s.size) : s.data.toList.take (k + 1) = s.data.toList.take k ++ [s[k]] := by
  rw [List.take_succ_eq_append_getElem (by simpa using h)]; rfl

theorem sum_snoc (l : List UInt8) (c : UInt8) : sumL (l ++ [c]) = (41 * sumL l + (c.toNat : Int) + 1) % 999979 := by
  unfold sumL; rw [List.foldl_append]; rfl

theorem ret_int {k : IntKind} {a b : Int} (h : a = b) : Ending.returned (.int k a) = .returned (.int k b) := by rw [h]

set_option maxHeartbeats 400000 in
theorem l1Sum_any (s : ByteArray) (w : World) (hs : s.size ≤ 4000) :
    Calls Try.prog 35 #[.string s] w fun e w' => e = .returned (.int .i64 (sumL s.data.toList)) ∧ w = w' := by
  go_enter Try.func35, Try.ntmps35
  go_wp2
  go_loop [3, 4] (fun n i => ∃ k : Nat, k ≤ s.size ∧ i = .int .i64 k ∧ n = .int .i64 (sumL (s.data.toList.take k))) (fun _ i => s.size - (intOf i).toNat)
  case atStart => exact ⟨0, Nat.zero_le _, rfl, rfl⟩
  case round =>
    obtain ⟨k, hk, rfl, rfl⟩ := hrel
    obtain ⟨hd1, hd2⟩ := sum_bd (s.data.toList.take k)
    by_cases hlt : k < s.size
    · have hsn := sum_snoc (s.data.toList.take k) s[k]
      have hts := take_snoc s k hlt
      have HS : Hid (sumL (s.data.toList.take (k + 1)) = (41 * sumL (s.data.toList.take k) + (s[k].toNat : Int) + 1) % 999979) := by rw [hts]; exact hsn
      clear hsn hts
      have hb : (s[k].toNat : Int) < 256 := by have := s[k].toNat_lt; omega
      go_wp2
      go_round
      case rel => exact ⟨k + 1, by omega, by go_num, by rw [HS.out]⟩
      case measure => simp [intOf]; omega
    · go_wp2
      go_ret
      exact ⟨ret_int (by rw [List.take_of_length_le (by simp; omega)]), rfl⟩

theorem ret_eq {v v' : Value} (h : v' = v) : Ending.returned v = .returned v' := by rw [h]

def sumV (s : ByteArray) : Value := if s.size ≤ 4000 then .tuple #[.int .i64 (sumL s.data.toList), .bool true] else .tuple #[.int .i64 0, .bool false]

set_option maxHeartbeats 400000 in
theorem specChecksum_any (s : ByteArray) (w : World) (hs : s.size ≤ maxLen) :
    Calls Try.prog 23 #[.string s] w fun e w' => e = .returned (sumV s) ∧ w = w' := by
  unfold maxLen at hs
  by_cases h : s.size ≤ 4000
  · have hv := Lib.hid (show sumV s = .tuple #[.int .i64 (sumL s.data.toList), .bool true] by simp [sumV, h])
    go_enter Try.func23, Try.ntmps23
    go_wp2_with (go_at_call 35; refine (l1Sum_any _ _ h).mono ?_; rintro e w' ⟨rfl, rfl⟩)
    go_ret2
    exact ⟨ret_eq hv.out, rfl⟩
  · have hv := Lib.hid (show sumV s = .tuple #[.int .i64 0, .bool false] by simp [sumV, h])
    go_enter Try.func23, Try.ntmps23
    go_wp2_with fail
    go_ret2
    exact ⟨ret_eq hv.out, rfl⟩

set_option maxHeartbeats 400000 in
theorem implChecksum_any (s : ByteArray) (w : World) (hs : s.size ≤ maxLen) :
    Calls Try.prog 24 #[.string s] w fun e w' => e = .returned (sumV s) ∧ w = w' := by
  unfold maxLen at hs
  by_cases h : s.size ≤ 4000
  · have hv := Lib.hid (show sumV s = .tuple #[.int .i64 (sumL s.data.toList), .bool true] by simp [sumV, h])
    go_enter Try.func24, Try.ntmps24
    go_wp2
    go_loop [4, 11] (fun n i => ∃ k : Nat, k ≤ s.size ∧ i = .int .i64 k ∧ n = .int .i64 (sumL (s.data.toList.take k))) (fun _ i => s.size - (intOf i).toNat)
    case atStart => exact ⟨0, Nat.zero_le _, rfl, rfl⟩
    case round =>
      obtain ⟨k, hk, rfl, rfl⟩ := hrel
      obtain ⟨hd1, hd2⟩ := sum_bd (s.data.toList.take k)
      by_cases hlt : k < s.size
      · have hsn := sum_snoc (s.data.toList.take k) s[k]
        have hts := take_snoc s k hlt
        have HS : Hid (sumL (s.data.toList.take (k + 1)) = (41 * sumL (s.data.toList.take k) + (s[k].toNat : Int) + 1) % 999979) := by rw [hts]; exact hsn
        clear hsn hts
        have hb : (s[k].toNat : Int) < 256 := by have := s[k].toNat_lt; omega
        go_wp2
        go_round
        case rel => exact ⟨k + 1, by omega, by go_num, by rw [HS.out]⟩
        case measure => simp [intOf]; omega
      · go_wp2
        go_ret2
        exact ⟨ret_eq (by rw [hv.out, List.take_of_length_le (by simp; omega)]; rfl), rfl⟩
  · have hv := Lib.hid (show sumV s = .tuple #[.int .i64 0, .bool false] by simp [sumV, h])
    go_enter Try.func24, Try.ntmps24
    go_wp2
    go_ret2
    exact ⟨ret_eq hv.out, rfl⟩

set_option maxHeartbeats 400000 in
theorem lawChecksum_any (s : ByteArray) (w : World) (hs : s.size ≤ maxLen) :
    Calls Try.prog 7 #[.string s] w fun e w' => e = .returned (.bool true) ∧ w = w' := by
  have hm := hs
  unfold maxLen at hs
  by_cases h : s.size ≤ 4000
  · have hv : sumV s = .tuple #[.int .i64 (sumL s.data.toList), .bool true] := by simp [sumV, h]
    have h1 := specChecksum_any s
    have h2 := implChecksum_any s
    rw [hv] at h1 h2
    have H1 : Hid _ := Lib.hid h1
    have H2 : Hid _ := Lib.hid h2
    clear h1 h2 hv
    go_enter Try.func7, Try.ntmps7
    go_wp2_with (first | (go_at_call 23; refine (H1.out _ hm).mono ?_; rintro e w' ⟨rfl, rfl⟩) | (go_at_call 24; refine (H2.out _ hm).mono ?_; rintro e w' ⟨rfl, rfl⟩))
    go_ret
    exact ⟨rfl, rfl⟩
  · have hv : sumV s = .tuple #[.int .i64 0, .bool false] := by simp [sumV, h]
    have h1 := specChecksum_any s
    have h2 := implChecksum_any s
    rw [hv] at h1 h2
    have H1 : Hid _ := Lib.hid h1
    have H2 : Hid _ := Lib.hid h2
    clear h1 h2 hv
    go_enter Try.func7, Try.ntmps7
    go_wp2_with (first | (go_at_call 23; refine (H1.out _ hm).mono ?_; rintro e w' ⟨rfl, rfl⟩) | (go_at_call 24; refine (H2.out _ hm).mono ?_; rintro e w' ⟨rfl, rfl⟩))
    all_goals (go_ret; exact ⟨rfl, rfl⟩)
end Go.Proofs.Ytnkhhgnhceoodaa
