/-
  The statements' own helpers: code(n), a number from 1 to 11 that hangs on n alone; Text(s, k), the first k bytes of s. Conditions: none on n; s is no longer than a string may be.
-/
import Derived.Test.YtglcmbpgnehinaaDoorBegun
import Derived.WalkLawsBesides
namespace Go.Proofs.YtglcmbpgnehinaaDoor.flt
open Go.RowKit

/-- code(n). -/
def codeOf (n : Int) : Int := n.tmod 11 % 11 + 1
theorem codeOf_low (n : Int) : 1 ≤ codeOf n := by unfold codeOf; omega
theorem codeOf_high (n : Int) : codeOf n ≤ 11 := by unfold codeOf; omega
theorem codeOf_ne (n : Int) : (codeOf n == 0) = false := by have := codeOf_low n; simp; omega

set_option maxRecDepth 100000 in
theorem code_any (n : Int) (w : World) : Calls Tryd.prog 10 #[.int .i64 n] w fun e w' => e = .returned (.int .i64 (codeOf n)) ∧ w = w' := by
  have t1 : -11 < n.tmod 11 := Int.lt_tmod_of_pos n (by decide)
  have t2 : n.tmod 11 < 11 := Int.tmod_lt_of_pos n (by decide)
  go_enter Tryd.func10, Tryd.ntmps10
  go_wp2
  go_ret
  exact ⟨rfl, rfl⟩

/-- Text(s, k). -/
def cut (s : ByteArray) (k : Nat) : ByteArray := if k < s.size then s.extract 0 k else s
theorem cut_size (s : ByteArray) (k : Nat) : (cut s k).size ≤ k := by
  unfold cut
  split
  · rw [ByteArray.size_extract]; omega
  · omega

set_option maxRecDepth 100000 in
theorem Text_any (s : ByteArray) (k : Nat) (_hs : s.size ≤ maxLen) (hk : k ≤ 1000) (w : World) : Calls Tryd.prog 11 #[.string s, .int .i64 k] w fun e w' => e = .returned (.string (cut s k)) ∧ w = w' := by
  by_cases h : k < s.size
  · have hc := Lib.hid (show cut s k = s.extract 0 k from if_pos h)
    go_enter Tryd.func11, Tryd.ntmps11
    go_wp2
    go_ret
    exact ⟨by rw [hc.out]; rfl, rfl⟩
  · have hc := Lib.hid (show cut s k = s from if_neg h)
    go_enter Tryd.func11, Tryd.ntmps11
    go_wp2
    go_ret
    exact ⟨by rw [hc.out]; rfl, rfl⟩
theorem Text20 (s : ByteArray) (hs : s.size ≤ maxLen) (w : World) : Calls Tryd.prog 11 #[.string s, .int .i64 20] w fun e w' => e = .returned (.string (cut s 20)) ∧ w = w' := Text_any s 20 hs (by decide) w
theorem Text10 (s : ByteArray) (hs : s.size ≤ maxLen) (w : World) : Calls Tryd.prog 11 #[.string s, .int .i64 10] w fun e w' => e = .returned (.string (cut s 10)) ∧ w = w' := Text_any s 10 hs (by decide) w
end Go.Proofs.YtglcmbpgnehinaaDoor.flt
