/-
  The contract of posixref.Quote: bytes appended to a slice of its own, made a string at the end.
-/
import Derived.Test.YtlekfbgelobfmaaSmall
import Derived.Test.YtlekfbgelobfmaaBuilder
import Derived.Lib.BufferRead
import Derived.WalkSpells
import Derived.BigCall
namespace Go.Proofs.Ytlekfbgelobfmaa
open Go.RowKit

theorem in_spec (c : UInt8) (w : World) :
    Calls Try.prog 7 #[.string ⟨#[40, 41, 91, 46, 94, 36, 92, 124, 42, 43, 63, 123]⟩, .int .u8 (c.toNat : Int)] w fun e w' => e = .returned (.bool (spec c)) ∧ w' = w := by
  refine (in_any ⟨#[40, 41, 91, 46, 94, 36, 92, 124, 42, 43, 63, 123]⟩ c w (by decide)).mono ?_
  rintro e w' ⟨rfl, rfl⟩
  exact ⟨ret_bool (inL_spec c), rfl⟩
theorem cellsR_one (l : List UInt8) (c : UInt8) : Lib.byteCells l ++ [.int .u8 (c.toNat : Int)] = Lib.byteCells (l ++ [c]) := by
  rw [Lib.byteCells_append]; rfl
theorem conv_own {w : World} {base : Nat} {v : Value} {l : List UInt8} (h : w.ownsRow base 5 1 v l.length (Lib.byteCells l)) :
    (convert 24 9 v).run Try.prog w = .ok (.string ⟨l.toArray⟩) w := by
  obtain ⟨_, h⟩ := h
  rcases h with ⟨rfl, h0⟩ | ⟨g, cap, cur, rfl, hB, hg, h1, h2, h3, h4⟩
  · obtain rfl := List.eq_nil_of_length_eq_zero h0
    exact Lib.run_convert_nil_bytes w 24 9 5 0 Try.underlying24 Try.underlying5 Try.underlying9
  · exact run_convert_bytes_back w 24 9 5 ⟨g, 0, none⟩ cap l Try.underlying24 Try.underlying5 Try.underlying9 (Lib.bytes_of_row hg (by simpa using h4))
theorem own_step {wr w1 : World} {B : Nat} {v : Value} {n : Nat} {xs : List Value} {w : World} {O : Obj} (hbw : Below B w wr) (hB : B ≤ wr.heap.size)
    (hown : wr.ownsRow B 5 1 v n xs) (hg : (wr.alloc O).grownBy w1 v.ownBlock) : Below B w w1 ∧ B ≤ w1.heap.size := by
  have hb := (hbw.alloc hB O).grown hg (by simp; omega) (fun k hk => (hown.lt k hk).1)
  exact ⟨hb, by have := hg.size; simp at this; omega⟩
set_option maxHeartbeats 4000000 in
set_option maxRecDepth 1000000 in
theorem refQuote_any (s : ByteArray) (w : World) (hs : s.size ≤ 65536) :
    Calls Try.prog 5 #[.string s] w fun e w' => e = .returned (.string ⟨(qL s.data.toList).toArray⟩) ∧ Below w.heap.size w w' := by
  obtain ⟨i0, hi, hz0, hz1, hz2⟩ := info_parts Try.info5
  go_enter Try.func5, Try.ntmps5
  go_wp2
  go_loopw [3, 4] (fun v i wr => ∃ k : Nat, k ≤ s.size ∧ i = .int .i64 k ∧ wr.ownsRow w.heap.size 5 1 v (qL (s.data.toList.take k)).length (Lib.byteCells (qL (s.data.toList.take k))) ∧ Below w.heap.size w wr ∧ w.heap.size ≤ wr.heap.size) (fun _ i _ => s.size - (intOf i).toNat)
  case atStart =>
    exact ⟨0, Nat.zero_le _, rfl, World.ownsRow_nil _ _ _ _, Below.refl _ w, Nat.le_refl _⟩
  case round =>
    obtain ⟨k, hk, rfl, hown, hbw, hsz⟩ := hrel
    have hle := qL_take_le s k
    by_cases hlt : k < s.size
    · have HQ : Hid (qL (s.data.toList.take (k + 1)) = qL (s.data.toList.take k) ++ qOf s[k]) := qL_take s k hlt
      cases hsp : spec s[k]
      · have HQ2 : Hid (qL (s.data.toList.take (k + 1)) = qL (s.data.toList.take k) ++ [s[k]]) := by
          show _ = _
          rw [HQ.out]; simp [qOf, hsp]
        clear HQ
        go_wp2_with fail
        refine (in_spec s[k] _).mono ?_
        rw [hsp]
        rintro e w' ⟨rfl, rfl⟩
        go_wp2_with (at_builtin; refine wpList_append_own _ rfl _ _ 24 rfl w.heap.size 5 i0 (.int .u8 0) 1 1 Try.underlying24 hi hz0 hz1 hz2 rfl (by decide) _ _ _ rfl (hown.alloc _) ⟨_, 0, none⟩ 1 1 [.int .u8 (s[k].toNat : Int)] rfl rfl (cell_one_new _ _ _) ?c2 ?c3 ?c4 ?c5 ?_)
        case c2 => intro u hu; simp at hu; subst hu; rfl
        case c3 => unfold maxLen; omega
        case c4 => omega
        case c5 => simp; omega
        intro v' w1 hown1 hgrow1 _
        have HR := own_step hbw hsz hown hgrow1
        rw [cellsR_one, ← HQ2.out] at hown1
        have HO : Hid (w1.ownsRow w.heap.size 5 1 v' (qL (s.data.toList.take (k + 1))).length (Lib.byteCells (qL (s.data.toList.take (k + 1))))) := by
          have e : (qL (s.data.toList.take (k + 1))).length = (qL (s.data.toList.take k)).length + 1 := by rw [HQ2.out]; simp
          rw [← e] at hown1
          exact hown1
        clear hown1 hgrow1 hown
        go_wp2
        go_roundw
        case rel => exact ⟨k + 1, by omega, by go_num, HO.out, HR.1, HR.2⟩
        case measure => simp [intOf]; omega
      · have HQ2 : Hid (qL (s.data.toList.take (k + 1)) = qL (s.data.toList.take k) ++ [92] ++ [s[k]]) := by
          show _ = _
          rw [HQ.out]; simp [qOf, hsp]
        clear HQ
        go_wp2_with fail
        refine (in_spec s[k] _).mono ?_
        rw [hsp]
        rintro e w' ⟨rfl, rfl⟩
        go_wp2_with (at_builtin; refine wpList_append_own _ rfl (.tmp 17) (.tmp 18) 24 rfl w.heap.size 5 i0 (.int .u8 0) 1 1 Try.underlying24 hi hz0 hz1 hz2 rfl (by decide) _ _ _ rfl (hown.alloc _) ⟨_, 0, none⟩ 1 1 [.int .u8 92] rfl rfl (cell_one_new _ _ _) ?c2 ?c3 ?c4 ?c5 ?_)
        case c2 => intro u hu; simp at hu; subst hu; rfl
        case c3 => unfold maxLen; omega
        case c4 => omega
        case c5 => simp; omega
        intro v1 w1 hown1 hgrow1 _
        have HR := own_step hbw hsz hown hgrow1
        clear hgrow1 hown
        go_wp2_with (at_builtin; refine wpList_append_own _ rfl (.tmp 20) (.tmp 24) 24 rfl w.heap.size 5 i0 (.int .u8 0) 1 1 Try.underlying24 hi hz0 hz1 hz2 rfl (by decide) _ _ _ rfl (hown1.alloc _) ⟨_, 0, none⟩ 1 1 [.int .u8 (s[k].toNat : Int)] rfl rfl (cell_one_new _ _ _) ?d2 ?d3 ?d4 ?d5 ?_)
        case d2 => intro u hu; simp at hu; subst hu; rfl
        case d3 => unfold maxLen; omega
        case d4 => omega
        case d5 => have := HR.2; simp; omega
        intro v2 w2 hown2 hgrow2 _
        have HR2 := own_step HR.1 HR.2 hown1 hgrow2
        have HO : Hid (w2.ownsRow w.heap.size 5 1 v2 (qL (s.data.toList.take (k + 1))).length (Lib.byteCells (qL (s.data.toList.take (k + 1))))) := by
          have e : (qL (s.data.toList.take (k + 1))).length = (qL (s.data.toList.take k)).length + 1 + 1 := by rw [HQ2.out]; simp
          have e2 : Lib.byteCells (qL (s.data.toList.take k)) ++ [Value.int .u8 92, Value.int .u8 (s[k].toNat : Int)] = Lib.byteCells (qL (s.data.toList.take (k + 1))) := by
            rw [HQ2.out, ← cellsR_one, ← cellsR_one]; simp
          rw [← e, e2] at hown2
          exact hown2
        clear hown1 hgrow2 hown2
        go_wp2
        go_roundw
        case rel => exact ⟨k + 1, by omega, by go_num, HO.out, HR2.1, HR2.2⟩
        case measure => simp [intOf]; omega
    · have HF : Hid (qL (s.data.toList.take k) = qL s.data.toList) := by
        show _ = _
        rw [List.take_of_length_le (by simp; omega)]
      have hcv := conv_own hown
      go_wp2
      go_ret
      exact ⟨congrArg (fun l : List UInt8 => Ending.returned (.string ⟨l.toArray⟩)) HF.out, hbw⟩
end Go.Proofs.Ytlekfbgelobfmaa
