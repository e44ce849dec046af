/-
  The contracts of syntax.isSpecial and posixref.in.
-/
import Derived.Test.YtlekfbgelobfmaaPlain
import Derived.Test.YtlekfbgelobfmaaShelf
namespace Go.Proofs.Ytlekfbgelobfmaa
open Go.RowKit

theorem isSpecial_any (c : UInt8) (w : World) : Calls Try.prog 8 #[.int .u8 (c.toNat : Int)] w fun e w' => e = .returned (.bool (spec c)) ∧ w' = w := by
  have HS : Hid (decide (0 ≤ Lib.indexByte [40, 41, 91, 46, 94, 36, 92, 124, 42, 43, 63, 123] c) = spec c) := idx_spec c
  go_enter Try.func8, Try.ntmps8
  go_wp2_with (go_at_call 11; refine (Try.strings_IndexByte _ _ _).mono ?_; rintro e w' ⟨rfl, rfl⟩)
  go_ret
  exact ⟨ret_bool HS.out, rfl⟩

set_option maxHeartbeats 400000 in
theorem in_any (s : ByteArray) (c : UInt8) (w : World) (hs : s.size ≤ maxLen) :
    Calls Try.prog 7 #[.string s, .int .u8 (c.toNat : Int)] w fun e w' => e = .returned (.bool (inL s.data.toList c)) ∧ w' = w := by
  unfold maxLen at hs
  go_enter Try.func7, Try.ntmps7
  go_wp2
  go_loop [5] (fun i => ∃ k : Nat, k ≤ s.size ∧ i = .int .i64 k ∧ inL (s.data.toList.take k) c = false) (fun i => s.size - (intOf i).toNat)
  case atStart => exact ⟨0, Nat.zero_le _, rfl, rfl⟩
  case round =>
    obtain ⟨k, hk, rfl, hn⟩ := hrel
    have HN : Hid (inL (s.data.toList.take k) c = false) := hn
    clear hn
    by_cases hlt : k < s.size
    · by_cases heq : s[k] = c
      · have hb : ((s[k].toNat : Int) == (c.toNat : Int)) = true := by rw [byte_eq_iff]; simpa using heq
        have HE : Hid (true = inL s.data.toList c) := by
          have := inL_hit s k hlt
          rw [heq] at this
          exact this.symm
        clear heq
        go_wp2
        go_ret
        exact ⟨ret_bool HE.out, rfl⟩
      · have hb : ((s[k].toNat : Int) == (c.toNat : Int)) = false := by rw [byte_eq_iff]; simpa using heq
        have HN2 : Hid (inL (s.data.toList.take (k + 1)) c = false) := by
          show inL (s.data.toList.take (k + 1)) c = false
          rw [take_snoc s k hlt, inL_snoc, HN.out]
          simpa using heq
        clear heq
        go_wp2
        go_round
        case rel => exact ⟨k + 1, by omega, by go_num, HN2.out⟩
        case measure => simp [intOf]; omega
    · have HF : Hid (false = inL s.data.toList c) := by
        have := HN.out
        rw [List.take_of_length_le (by simp; omega)] at this
        exact this.symm
      go_wp2
      go_ret
      exact ⟨ret_bool HF.out, rfl⟩
end Go.Proofs.Ytlekfbgelobfmaa
