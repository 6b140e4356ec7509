/-
  The steps of the walks, part 14: DecCut.
-/
import Derived.Lib.Bytealg
import Derived.Laws.Externs
import Derived.Test.YtfpooimjjpamoaaGreatDoorS22
import Derived.Test.YtfpooimjjpamoaaGreatDoorF11
namespace Go.Proofs.YtfpooimjjpamoaaGreatDoor.dec
open Go.RowKit Go.Proofs.YtfpooimjjpamoaaGreatDoor.nat Go.Proofs.YtfpooimjjpamoaaGreatDoor.num
open Go.Proofs.YtfpooimjjpamoaaGreatDoor.ref (str str_size str_append)
theorem ext_ahead (a b : List UInt8) : (str (a ++ 46 :: b)).extract 0 a.length = str a := by apply ByteArray.ext; simp [str]
theorem ext_behind (a b : List UInt8) : (str (a ++ 46 :: b)).extract (a.length + 1) (a ++ 46 :: b).length = str b := by
  apply ByteArray.ext
  simp [str]
  rw [List.take_of_length_le (by omega)]
theorem index_none {l : List UInt8} (h : ∀ c ∈ l, c ≠ 46) : Lib.indexByte l 46 = -1 := by
  induction l with
  | nil => rfl
  | cons b l ih =>
    unfold Lib.indexByte
    have hb : (b == 46) = false := by simpa using h b (by simp)
    rw [hb, ih fun c hc => h c (by simp [hc])]
    rfl
theorem index_at {a b : List UInt8} (h : ∀ c ∈ a, c ≠ 46) : Lib.indexByte (a ++ 46 :: b) 46 = a.length := by
  induction a with
  | nil => rfl
  | cons x a ih =>
    have hx : (x == 46) = false := by simpa using h x (by simp)
    have hi := ih fun c hc => h c (by simp [hc])
    show Lib.indexByte (x :: (a ++ 46 :: b)) 46 = _
    unfold Lib.indexByte
    rw [hx, hi]
    have h1 : ((a.length : Int) == -1) = false := by simp
    simp only [Bool.false_eq_true, if_false, h1, List.length_cons]
    omega
set_option maxRecDepth 100000 in
theorem IndexByte_point (l : List UInt8) (w : World) :
    Calls Tryz.prog 216 #[.string (str l), .int .u8 46] w fun e w' => e = .returned (.int .i64 (Lib.indexByte l 46)) ∧ w = w' := by
  have hr := fun w => Lib.run_indexByteString (P := Tryz.prog) (str l) 46 w
  rw [show (str l).data.toList = l from rfl, show ((46 : Int).toNat.toUInt8) = 46 by decide] at hr
  generalize str l = s at *
  go_enter Tryz.func216, Tryz.ntmps216
  go_wp2
  rw [run_callFunc_extern Tryz.func229 (by kernel_rfl) (by kernel_rfl) (by kernel_rfl) (e := Extern.BytealgIndexByte.indexByte) (by kernel_rfl), hr]
  simp only [Result.andThen]
  rw [Oper.upon_value]
  go_wp2
  go_ret
  exact ⟨rfl, rfl⟩
set_option maxRecDepth 100000 in
theorem Index_point (l : List UInt8) (w : World) :
    Calls Tryz.prog 195 #[.string (str l), .string ⟨#[46]⟩] w fun e w' => e = .returned (.int .i64 (Lib.indexByte l 46)) ∧ w = w' := by
  have HI := Lib.hid (IndexByte_point l w)
  have kz : (⟨#[46]⟩ : ByteArray).size = 1 := rfl
  have kg : ∀ h : 0 < (⟨#[46]⟩ : ByteArray).size, ((⟨#[46]⟩ : ByteArray)[0]'h).toNat = 46 := fun _ => rfl
  have hk : ((⟨#[46]⟩ : ByteArray).toList == (str l).toList) = decide (l = [46]) := by
    rw [ByteArray.toList_eq, ByteArray.toList_eq]
    simp [str]
    by_cases h : l = [46]
    · rw [decide_eq_true h, h]; rfl
    · rw [decide_eq_false h, beq_eq_false_iff_ne]; exact fun e => h e.symm
  by_cases hl : l = [46]
  · rw [decide_eq_true hl] at hk
    have h0 : Lib.indexByte l 46 = 0 := by rw [hl]; rfl
    rw [h0]
    generalize (⟨#[46]⟩ : ByteArray) = k at *
    generalize str l = s at *
    clear hl h0
    go_enter Tryz.func195, Tryz.ntmps195
    go_wp2
    go_ret
    exact ⟨rfl, rfl⟩
  · rw [decide_eq_false hl] at hk
    generalize (⟨#[46]⟩ : ByteArray) = k at *
    generalize str l = s at *
    clear hl
    go_enter Tryz.func195, Tryz.ntmps195
    go_wp2_with (first
      | (go_at_call 216; (with_reducible refine (HI.out).mono ?_); rintro e w1 ⟨rfl, rfl⟩)
      | (fail "no arm"))
    go_ret
    exact ⟨rfl, rfl⟩
set_option maxRecDepth 100000 in
theorem Cut_whole (l : List UInt8) (w : World) (_hl : l.length ≤ 4611686018427387904) (h : ∀ c ∈ l, c ≠ 46) :
    Calls Tryz.prog 127 #[.string (str l), .string ⟨#[46]⟩] w fun e w' => e = .returned (.tuple #[.string (str l), .string (str []), .bool false]) ∧ Below w.heap.size w w' := by
  have hI := Index_point l w
  rw [index_none h] at hI
  have HI := Lib.hid hI
  have he : (⟨#[]⟩ : ByteArray) = str [] := rfl
  generalize (⟨#[46]⟩ : ByteArray) = k at *
  generalize str l = s at *
  clear hI
  have HC : Hid (Calls Tryz.prog 167 #[.string s, .string k] w fun e w' => e = .returned (.tuple #[.string s, .string ⟨#[]⟩, .bool false]) ∧ w = w') := Lib.hid (by
    go_enter Tryz.func167, Tryz.ntmps167
    go_wp2_with (first
      | (go_at_call 195; (with_reducible refine (HI.out).mono ?_); rintro e w1 ⟨rfl, rfl⟩)
      | (fail "no arm"))
    go_ret3
    exact ⟨rfl, rfl⟩)
  rw [← he]
  clear he
  go_enter Tryz.func127, Tryz.ntmps127
  go_wp2_with (first
    | (go_at_call 167; (with_reducible refine (HC.out).mono ?_); rintro e w1 ⟨rfl, rfl⟩)
    | (fail "no arm"))
  go_ret3
  exact ⟨rfl, Below.refl _ _⟩
set_option maxRecDepth 100000 in
theorem Cut_point (a b : List UInt8) (w : World) (hl : (a ++ 46 :: b).length ≤ 4611686018427387904) (h : ∀ c ∈ a, c ≠ 46) :
    Calls Tryz.prog 127 #[.string (str (a ++ 46 :: b)), .string ⟨#[46]⟩] w fun e w' => e = .returned (.tuple #[.string (str a), .string (str b), .bool true]) ∧ Below w.heap.size w w' := by
  have hI := Index_point (a ++ 46 :: b) w
  rw [index_at h] at hI
  have HI := Lib.hid hI
  have HA := Lib.hid (ext_ahead a b)
  have HB := Lib.hid (ext_behind a b)
  have hz : (str (a ++ 46 :: b)).size = a.length + (b.length + 1) := by rw [str_size]; simp
  have kz : (⟨#[46]⟩ : ByteArray).size = 1 := rfl
  have hlen : (a ++ 46 :: b).length = a.length + (b.length + 1) := by simp
  rw [hlen] at HB hl
  generalize (⟨#[46]⟩ : ByteArray) = k at *
  generalize str (a ++ 46 :: b) = s at *
  generalize str a = sa at *
  generalize str b = sb at *
  generalize a.length = A at *
  generalize b.length = B at *
  clear hI hlen h
  have HC : Hid (Calls Tryz.prog 167 #[.string s, .string k] w fun e w' => e = .returned (.tuple #[.string sa, .string sb, .bool true]) ∧ Below w.heap.size w w') := Lib.hid (by
    go_enter Tryz.func167, Tryz.ntmps167
    go_wp2_with (first
      | (go_at_call 195; (with_reducible refine (HI.out).mono ?_); rintro e w1 ⟨rfl, rfl⟩)
      | (fail "no arm"))
    go_quiet (fail)
    go_wp2
    go_ret3
    exact ⟨by rw [HA.out, HB.out]; rfl, drew_below _ _⟩)
  go_enter Tryz.func127, Tryz.ntmps127
  go_wp2_with (first
    | (go_at_call 167; (with_reducible refine (HC.out).mono ?_); rintro e w1 ⟨rfl, hb⟩)
    | (fail "no arm"))
  go_ret3
  exact ⟨rfl, hb⟩
set_option maxRecDepth 100000 in
theorem Mul_one (n : Nat) (w : World) (hn : n ≤ 21) :
    Calls Tryz.prog 196 #[.int .u64 1, .int .u64 (n : Nat)] w fun e w' => e = .returned (.tuple #[.int .u64 0, .int .u64 (n : Nat)]) ∧ w = w' := by
  have M := nat.Mul64_any 1 n (by omega) (by omega) w
  rw [show 1 * n / 18446744073709551616 = 0 by omega, show 1 * n % 18446744073709551616 = n by omega] at M
  have HM : Hid (Calls Tryz.prog 163 #[.int .u64 1, .int .u64 (n : Nat)] w fun e w' => e = .returned (.tuple #[.int .u64 0, .int .u64 (n : Nat)]) ∧ w' = w) := Lib.hid M
  clear M
  go_enter Tryz.func196, Tryz.ntmps196
  go_wp2_with (first
    | (go_at_call 163; (with_reducible refine (HM.out).mono ?_); rintro e w1 ⟨rfl, rfl⟩)
    | (fail "no arm"))
  go_ret2
  exact ⟨rfl, rfl⟩
set_option maxRecDepth 100000 in
theorem HasPrefix_any (s p : ByteArray) (b : Bool) (w : World) (hp : p.size ≤ s.size) (_hs : s.size ≤ 4611686018427387904) (hx : ((s.extract 0 p.size).toList == p.toList) = b) :
    Calls Tryz.prog 197 #[.string s, .string p] w fun e w' => e = .returned (.bool b) ∧ w = w' := by
  have HC : Hid (Calls Tryz.prog 194 #[.string s, .string p] w fun e w' => e = .returned (.bool b) ∧ w = w') := Lib.hid (by
    go_enter Tryz.func194, Tryz.ntmps194
    go_wp2
    go_ret
    exact ⟨rfl, rfl⟩)
  clear hx
  go_enter Tryz.func197, Tryz.ntmps197
  go_wp2_with (first
    | (go_at_call 194; (with_reducible refine (HC.out).mono ?_); rintro e w1 ⟨rfl, rfl⟩)
    | (fail "no arm"))
  go_ret
  exact ⟨rfl, rfl⟩
theorem zeroes_ext (n : Nat) (hn : n ≤ 64) : (⟨#[48, 48, 48, 48, 48, 48, 48, 48, 48, 48, 48, 48, 48, 48, 48, 48, 48, 48, 48, 48, 48, 48, 48, 48, 48, 48, 48, 48, 48, 48, 48, 48, 48, 48, 48, 48, 48, 48, 48, 48, 48, 48, 48, 48, 48, 48, 48, 48, 48, 48, 48, 48, 48, 48, 48, 48, 48, 48, 48, 48, 48, 48, 48, 48]⟩ : ByteArray).extract 0 n = str (List.replicate n 48) := by
  have h : ∀ L : List UInt8, (str L).extract 0 n = str (L.take n) := fun L => by apply ByteArray.ext; simp [str]
  rw [show (⟨#[48, 48, 48, 48, 48, 48, 48, 48, 48, 48, 48, 48, 48, 48, 48, 48, 48, 48, 48, 48, 48, 48, 48, 48, 48, 48, 48, 48, 48, 48, 48, 48, 48, 48, 48, 48, 48, 48, 48, 48, 48, 48, 48, 48, 48, 48, 48, 48, 48, 48, 48, 48, 48, 48, 48, 48, 48, 48, 48, 48, 48, 48, 48, 48]⟩ : ByteArray) = str (List.replicate 64 48) from rfl, h, List.take_replicate, Nat.min_eq_left hn]
set_option maxRecDepth 100000 in
theorem Repeat_nought (z : Int) (n : Nat) (hz : z = n) (w : World) (h1 : 1 ≤ n) (h2 : n ≤ 21) :
    Calls Tryz.prog 170 #[.string ⟨#[48]⟩, .int .i64 z] w fun e w' => e = .returned (.string (str (List.replicate n 48))) ∧ Below w.heap.size w w' := by
  subst hz
  rcases (show n = 1 ∨ 2 ≤ n by omega) with rfl | h3
  · have he : (⟨#[48]⟩ : ByteArray) = str (List.replicate 1 48) := rfl
    rw [he]
    generalize str (List.replicate 1 48) = s at *
    clear he
    go_enter Tryz.func170, Tryz.ntmps170
    go_wp2
    go_ret
    exact ⟨rfl, Below.refl _ _⟩
  · have HM := Lib.hid (fun W => Mul_one n W h2)
    have HS := Lib.hid (fun W => HasPrefix_any ⟨#[32, 32, 32, 32, 32, 32, 32, 32, 32, 32, 32, 32, 32, 32, 32, 32, 32, 32, 32, 32, 32, 32, 32, 32, 32, 32, 32, 32, 32, 32, 32, 32, 32, 32, 32, 32, 32, 32, 32, 32, 32, 32, 32, 32, 32, 32, 32, 32, 32, 32, 32, 32, 32, 32, 32, 32, 32, 32, 32, 32, 32, 32, 32, 32, 32, 32, 32, 32, 32, 32, 32, 32, 32, 32, 32, 32, 32, 32, 32, 32, 32, 32, 32, 32, 32, 32, 32, 32, 32, 32, 32, 32, 32, 32, 32, 32, 32, 32, 32, 32, 32, 32, 32, 32, 32, 32, 32, 32, 32, 32, 32, 32, 32, 32, 32, 32, 32, 32, 32, 32, 32, 32, 32, 32, 32, 32, 32, 32]⟩ ⟨#[48]⟩ false W (by decide) (by decide) (by decide +kernel))
    have HD := Lib.hid (fun W => HasPrefix_any ⟨#[45, 45, 45, 45, 45, 45, 45, 45, 45, 45, 45, 45, 45, 45, 45, 45, 45, 45, 45, 45, 45, 45, 45, 45, 45, 45, 45, 45, 45, 45, 45, 45, 45, 45, 45, 45, 45, 45, 45, 45, 45, 45, 45, 45, 45, 45, 45, 45, 45, 45, 45, 45, 45, 45, 45, 45, 45, 45, 45, 45, 45, 45, 45, 45, 45, 45, 45, 45, 45, 45, 45, 45, 45, 45, 45, 45, 45, 45, 45, 45, 45, 45, 45, 45, 45, 45, 45, 45, 45, 45, 45, 45, 45, 45, 45, 45, 45, 45, 45, 45, 45, 45, 45, 45, 45, 45, 45, 45, 45, 45, 45, 45, 45, 45, 45, 45, 45, 45, 45, 45, 45, 45, 45, 45, 45, 45, 45, 45]⟩ ⟨#[48]⟩ false W (by decide) (by decide) (by decide +kernel))
    have HZ := Lib.hid (fun W => HasPrefix_any ⟨#[48, 48, 48, 48, 48, 48, 48, 48, 48, 48, 48, 48, 48, 48, 48, 48, 48, 48, 48, 48, 48, 48, 48, 48, 48, 48, 48, 48, 48, 48, 48, 48, 48, 48, 48, 48, 48, 48, 48, 48, 48, 48, 48, 48, 48, 48, 48, 48, 48, 48, 48, 48, 48, 48, 48, 48, 48, 48, 48, 48, 48, 48, 48, 48]⟩ ⟨#[48]⟩ true W (by decide) (by decide) (by decide +kernel))
    have hx := zeroes_ext n (by omega)
    have hsz : (⟨#[48, 48, 48, 48, 48, 48, 48, 48, 48, 48, 48, 48, 48, 48, 48, 48, 48, 48, 48, 48, 48, 48, 48, 48, 48, 48, 48, 48, 48, 48, 48, 48, 48, 48, 48, 48, 48, 48, 48, 48, 48, 48, 48, 48, 48, 48, 48, 48, 48, 48, 48, 48, 48, 48, 48, 48, 48, 48, 48, 48, 48, 48, 48, 48]⟩ : ByteArray).size = 64 := rfl
    generalize str (List.replicate n 48) = R at *
    have kz : (⟨#[48]⟩ : ByteArray).size = 1 := rfl
    have kg : ∀ h : 0 < (⟨#[48]⟩ : ByteArray).size, ((⟨#[48]⟩ : ByteArray)[0]'h).toNat = 48 := fun _ => rfl
    generalize (⟨#[48]⟩ : ByteArray) = k at *
    have hn0 : ((n : Int) == 0) = false := by simp; omega
    have hn1 : ((n : Int) == 1) = false := by simp; omega
    go_enter Tryz.func170, Tryz.ntmps170
    go_wp2_with (first
      | (go_at_call 196; (with_reducible refine (HM.out _).mono ?_); rintro e w1 ⟨rfl, rfl⟩)
      | (go_at_call 197; (with_reducible refine (HS.out _).mono ?_); rintro e w1 ⟨rfl, rfl⟩)
      | (go_at_call 197; (with_reducible refine (HD.out _).mono ?_); rintro e w1 ⟨rfl, rfl⟩)
      | (go_at_call 197; (with_reducible refine (HZ.out _).mono ?_); rintro e w1 ⟨rfl, rfl⟩)
      | (fail "no arm"))
    go_ret
    exact ⟨rfl, Below.refl _ _⟩
end Go.Proofs.YtfpooimjjpamoaaGreatDoor.dec
