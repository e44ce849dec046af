/-
  The plain mathematics of Quote: bytes in, bytes out.
-/
import Derived.WalkKit
import Derived.Lib.Bytealg
import Derived.Lib.BufferRead
namespace Go.Proofs.Ytlekfbgelobfmaa
open Go.RowKit

def specials : List UInt8 := [40, 41, 91, 46, 94, 36, 92, 124, 42, 43, 63, 123]
def spec (c : UInt8) : Bool := specials.contains c
def qOf (c : UInt8) : List UInt8 := if spec c = true then [92, c] else [c]
def qL : List UInt8 → List UInt8
  | [] => []
  | c :: l => qOf c ++ qL l
theorem qL_append (a b : List UInt8) : qL (a ++ b) = qL a ++ qL b := by
  induction a with
  | nil => rfl
  | cons c a ih => simp [qL, ih]
theorem qL_snoc (l : List UInt8) (c : UInt8) : qL (l ++ [c]) = qL l ++ qOf c := by
  rw [qL_append]; simp [qL]
theorem qOf_le (c : UInt8) : (qOf c).length ≤ 2 := by
  unfold qOf; split <;> simp
theorem qL_le (l : List UInt8) : (qL l).length ≤ 2 * l.length := by
  induction l with
  | nil => simp [qL]
  | cons c l ih => have := qOf_le c; simp [qL]; omega
theorem take_snoc (s : ByteArray) (k : Nat) (h : k < s.size) : s.data.toList.take (k + 1) = s.data.toList.take k ++ [s[k]] := by
  rw [List.take_succ_eq_append_getElem (by simpa using h)]; rfl
theorem qL_take (s : ByteArray) (k : Nat) (h : k < s.size) : qL (s.data.toList.take (k + 1)) = qL (s.data.toList.take k) ++ qOf s[k] := by
  rw [take_snoc s k h, qL_snoc]
theorem qL_take_le (s : ByteArray) (k : Nat) : (qL (s.data.toList.take k)).length ≤ 2 * k := by
  have h1 := qL_le (s.data.toList.take k)
  have h2 : (s.data.toList.take k).length ≤ k := List.length_take_le _ _
  omega
theorem idx_all : ∀ n : Nat, n < 256 → decide (0 ≤ Lib.indexByte [40, 41, 91, 46, 94, 36, 92, 124, 42, 43, 63, 123] n.toUInt8) = spec n.toUInt8 := by decide +kernel
theorem idx_spec (c : UInt8) : decide (0 ≤ Lib.indexByte [40, 41, 91, 46, 94, 36, 92, 124, 42, 43, 63, 123] c) = spec c := by
  have h := idx_all c.toNat c.toNat_lt
  rwa [show c.toNat.toUInt8 = c by simp] at h
def inL : List UInt8 → UInt8 → Bool
  | [], _ => false
  | a :: l, c => (a == c) || inL l c
theorem inL_append (a b : List UInt8) (c : UInt8) : inL (a ++ b) c = (inL a c || inL b c) := by
  induction a with
  | nil => rfl
  | cons x a ih => simp [inL, ih, Bool.or_assoc]
theorem inL_snoc (l : List UInt8) (a c : UInt8) : inL (l ++ [a]) c = (inL l c || (a == c)) := by
  rw [inL_append]; simp [inL]
theorem inL_hit (s : ByteArray) (k : Nat) (h : k < s.size) : inL s.data.toList s[k] = true := by
  have e : s.data.toList = s.data.toList.take (k + 1) ++ s.data.toList.drop (k + 1) := (List.take_append_drop _ _).symm
  rw [e, inL_append, take_snoc s k h, inL_snoc]; simp
theorem inL_spec (c : UInt8) : inL [40, 41, 91, 46, 94, 36, 92, 124, 42, 43, 63, 123] c = spec c := by
  have h : ∀ n : Nat, n < 256 → inL [40, 41, 91, 46, 94, 36, 92, 124, 42, 43, 63, 123] n.toUInt8 = spec n.toUInt8 := by decide +kernel
  have h := h c.toNat c.toNat_lt
  rwa [show c.toNat.toUInt8 = c by simp] at h
theorem ret_bool {a b : Bool} (h : a = b) : Ending.returned (.bool a) = .returned (.bool b) := by rw [h]
theorem byte_eq_iff (a b : UInt8) : ((a.toNat : Int) == (b.toNat : Int)) = (a == b) := by
  rw [Bool.eq_iff_iff, beq_iff_eq, beq_iff_eq, ← UInt8.toNat_inj]; omega
end Go.Proofs.Ytlekfbgelobfmaa
