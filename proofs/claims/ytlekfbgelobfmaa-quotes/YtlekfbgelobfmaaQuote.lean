/-
  The contract of syntax.Quote: a strings.Builder, written byte by byte.
-/
import Derived.Test.YtlekfbgelobfmaaSmall
import Derived.Test.YtlekfbgelobfmaaBuilder
import Derived.BigCall
namespace Go.Proofs.Ytlekfbgelobfmaa
open Go.RowKit

theorem cells_one (l : List UInt8) (c : UInt8) : Lib.byteCells l ++ [.int .u8 (c.toNat : Int)] = Lib.byteCells (l ++ [c]) := by
  rw [Lib.byteCells_append]; rfl
set_option maxHeartbeats 4000000 in
set_option maxRecDepth 1000000 in
theorem quote_any (s : ByteArray) (w : World) (hs : s.size ≤ 65536) :
    Calls Try.prog 6 #[.string s] w fun e w' => e = .returned (.string ⟨(qL s.data.toList).toArray⟩) ∧ Below w.heap.size w w' := by
  go_enter Try.func6, Try.ntmps6
  go_wp2
  go_loopw [7] (fun i wr => ∃ k : Nat, k ≤ s.size ∧ i = .int .i64 k ∧ Lib.IsBuilder 28 5 w.heap.size w.heap.size (Lib.byteCells (qL (s.data.toList.take k))) wr ∧ Below w.heap.size w wr ∧ w.heap.size < wr.heap.size) (fun i _ => s.size - (intOf i).toNat)
  case atStart =>
    exact ⟨0, Nat.zero_le _, rfl, Lib.fresh_isBuilder 28 5 w, (Below.refl _ w).alloc (Nat.le_refl _) _, by simp⟩
  case round =>
    obtain ⟨k, hk, rfl, hI, hbw, hsz⟩ := hrel
    have hle := qL_take_le s k
    by_cases hlt : k < s.size
    · have HQ : Hid (qL (s.data.toList.take (k + 1)) = qL (s.data.toList.take k) ++ qOf s[k]) := qL_take s k hlt
      cases hsp : spec s[k]
      · have HQ2 : Hid (Lib.byteCells (qL (s.data.toList.take k)) ++ [.int .u8 (s[k].toNat : Int)] = Lib.byteCells (qL (s.data.toList.take (k + 1)))) := by
          show _ = _
          rw [HQ.out, cells_one]; simp [qOf, hsp]
        clear HQ
        go_wp2_with (first | (go_at_call 8; refine (isSpecial_any s[k] _).mono ?_; rw [hsp]; rintro e w' ⟨rfl, rfl⟩) | (go_at_call 9; refine (writeByte_any w.heap.size w.heap.size _ (s[k].toNat : Int) _ hI (by rw [Lib.byteCells_length]; omega) (by omega)).mono ?_; rintro e W1 ⟨rfl, h1, b1⟩))
        go_roundw
        case rel => exact ⟨k + 1, by omega, by go_num, by rw [← HQ2.out]; exact h1, hbw.trans b1, by have := b1.size; omega⟩
        case measure => simp [intOf]; omega
      · have HQ2 : Hid (Lib.byteCells (qL (s.data.toList.take k)) ++ [.int .u8 92] ++ [.int .u8 (s[k].toNat : Int)] = Lib.byteCells (qL (s.data.toList.take (k + 1)))) := by
          show _ = _
          rw [HQ.out]; simp [qOf, hsp, Lib.byteCells_append]; rfl
        clear HQ
        go_wp2_with fail
        refine (isSpecial_any s[k] _).mono ?_
        rw [hsp]
        rintro e w' ⟨rfl, rfl⟩
        go_wp2_with fail
        refine (writeByte_any w.heap.size w.heap.size _ 92 _ hI (by rw [Lib.byteCells_length]; omega) (by omega)).mono ?_
        rintro e W1 ⟨rfl, h1, b1⟩
        have hz1 := b1.size
        go_wp2_with fail
        refine (writeByte_any w.heap.size w.heap.size _ (s[k].toNat : Int) _ h1 (by rw [List.length_append, Lib.byteCells_length]; simp; omega) (by omega)).mono ?_
        rintro e W2 ⟨rfl, h2, b2⟩
        have hz2 := b2.size
        go_wp2
        go_roundw
        case rel => exact ⟨k + 1, by omega, by go_num, by rw [← HQ2.out]; exact h2, (hbw.trans b1).trans b2, by omega⟩
        case measure => simp [intOf]; omega
    · have HF : Hid (qL (s.data.toList.take k) = qL s.data.toList) := by
        show _ = _
        rw [List.take_of_length_le (by simp; omega)]
      go_wp2_with fail
      refine (Try.Builder_String_any w.heap.size w.heap.size _ _ hI (by omega)).mono ?_
      rintro e W1 ⟨rfl, b1⟩
      go_wp2
      go_ret
      exact ⟨congrArg (fun l : List UInt8 => Ending.returned (.string ⟨l.toArray⟩)) HF.out, hbw.trans b1⟩
end Go.Proofs.Ytlekfbgelobfmaa
