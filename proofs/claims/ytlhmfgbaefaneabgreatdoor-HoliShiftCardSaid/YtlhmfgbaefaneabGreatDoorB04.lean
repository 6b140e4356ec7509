/-
  The steps of the walks, part 4: Bits, Nums, TextN, DateRep, Itoa, RefDate6, RefTxt6, RefMonth6, TextZ, TextD.
-/
import Derived.Laws.Externs
import Derived.Laws.Bits64b
import Derived.Lib.Mul64
import Derived.BigQuiet
import Derived.Deep.QuietTactic
import Derived.Lib.ItoaNum
import Derived.Lib.Bytealg
import Derived.Lib.Hide
import Derived.Below
import Derived.WalkKit
import Derived.Shelf.LaysM
import Derived.Shelf.Strconv.Itoa3
import Derived.Test.YtlhmfgbaefaneabGreatDoorProg
import Derived.Laws.IdiomStrings
import Derived.Deep.RegionHeld3
import Derived.Lib.Strings
import Derived.Lib.Small
import Derived.Test.YtlhmfgbaefaneabGreatDoorB03
import Derived.Test.YtlhmfgbaefaneabGreatDoorB01
namespace Go.Proofs.YtlhmfgbaefaneabGreatDoor.nat
open Go.RowKit Go.Lib
theorem add64_run (x y c : Int) (hx : 0 ≤ x) (hy : 0 ≤ y) (hc0 : 0 ≤ c) (hc : c ≤ 1) (w : World) : (callFunc 185 #[.int .u64 x, .int .u64 y, .int .u64 c]).run Tryz.prog w =
    .ok (.value (.tuple #[.int .u64 ((x + y + c) % 18446744073709551616), .int .u64 ((x + y + c) / 18446744073709551616)])) w := by
  rw [run_callFunc_extern Tryz.func185 (by kernel_rfl) (by kernel_rfl) (by kernel_rfl) (e := add64Entry) (by kernel_rfl), run_add64 x y c hx hy hc0 hc]
  rfl
def sub64Entry : Array Value → Sem Value := fun args => do
  let (x, y, b) ← Extern.MathBitsCarry.three "Sub64" args
  pure (Extern.MathBitsCarry.pair ((x + Extern.MathBitsCarry.m64 - y - b) % Extern.MathBitsCarry.m64) (if x < y + b then 1 else 0))
theorem run_sub64 (x y b : Nat) (hb : b ≤ 1) (w : World) :
    (sub64Entry #[.int .u64 x, .int .u64 y, .int .u64 b]).run Tryz.prog w =
      .ok (.tuple #[.int .u64 (((x + 18446744073709551616 - y - b) % 18446744073709551616 : Nat) : Int), .int .u64 ((if x < y + b then 1 else 0 : Nat) : Int)]) w := by
  have : b = 0 ∨ b = 1 := by omega
  rcases this with rfl | rfl <;> rfl
theorem add64_ex (x y c : Nat) (hx : x < 18446744073709551616) (hy : y < 18446744073709551616) (hc : c ≤ 1) : ∃ s k : Nat, s < 18446744073709551616 ∧ k ≤ 1 ∧ s + 18446744073709551616 * k = x + y + c ∧
    ∀ w, (callFunc 185 #[.int .u64 (x : Int), .int .u64 (y : Int), .int .u64 (c : Int)]).run Tryz.prog w = .ok (.value (.tuple #[.int .u64 (s : Int), .int .u64 (k : Int)])) w := by
  refine ⟨(x + y + c) % 18446744073709551616, (x + y + c) / 18446744073709551616, by omega, by omega, by omega, fun w => ?_⟩
  rw [add64_run _ _ _ (by omega) (by omega) (by omega) (by omega)]
  congr 5 <;> omega
theorem sub64_ex (x y b : Nat) (hx : x < 18446744073709551616) (hy : y < 18446744073709551616) (hb : b ≤ 1) : ∃ s k : Nat, s < 18446744073709551616 ∧ k ≤ 1 ∧ s + y + b = x + 18446744073709551616 * k ∧
    ∀ w, (callFunc 223 #[.int .u64 (x : Int), .int .u64 (y : Int), .int .u64 (b : Int)]).run Tryz.prog w = .ok (.value (.tuple #[.int .u64 (s : Int), .int .u64 (k : Int)])) w := by
  refine ⟨(x + 18446744073709551616 - y - b) % 18446744073709551616, if x < y + b then 1 else 0, by omega, by split <;> omega, by split <;> omega, fun w => ?_⟩
  rw [run_callFunc_extern Tryz.func223 (by kernel_rfl) (by kernel_rfl) (by kernel_rfl) (e := sub64Entry) (by kernel_rfl), run_sub64 x y b hb]
  rfl
theorem maskN (a : Nat) (ha : a < 18446744073709551616) : bits .and .u64 (a : Int) 4294967295 = ((a % 4294967296 : Nat) : Int) := by
  have h := bits_and_u64_nat a 4294967295 ha (by omega)
  have e : a &&& 4294967295 = a % 4294967296 := Nat.and_two_pow_sub_one_eq_mod a 32
  rw [e] at h
  exact h
theorem divN (a : Nat) : (a : Int) / 4294967296 = ((a / 4294967296 : Nat) : Int) := by omega
theorem mulN (a b : Nat) : (a : Int) * (b : Int) = ((a * b : Nat) : Int) := (Int.natCast_mul a b).symm
theorem addN (a b : Nat) : (a : Int) + (b : Int) = ((a + b : Nat) : Int) := (Int.natCast_add a b).symm
theorem wrapN (a : Nat) (ha : a < 18446744073709551616) : IntKind.u64.wrap (a : Int) = (a : Int) := by rw [IntKind.wrap_u64]; omega
theorem wrapM (a : Nat) : IntKind.u64.wrap (a : Int) = ((a % 18446744073709551616 : Nat) : Int) := by rw [IntKind.wrap_u64]; omega
set_option maxHeartbeats 1000000 in
theorem Mul64_any (x y : Nat) (hx : x < 18446744073709551616) (hy : y < 18446744073709551616) (w : World) :
    Calls Tryz.prog 174 #[.int .u64 x, .int .u64 y] w fun e w' => e = .returned (.tuple #[.int .u64 ((x * y / 18446744073709551616 : Nat) : Int), .int .u64 ((x * y % 18446744073709551616 : Nat) : Int)]) ∧ w' = w := by
  obtain ⟨bd, bt, bw, hhi⟩ := Lib.mul64_hi x y hx hy
  have ba := Lib.half_mul_le (a := x / 4294967296) (b := y / 4294967296) (by omega) (by omega)
  have bb := Lib.half_mul_le (a := x / 4294967296) (b := y % 4294967296) (by omega) (by omega)
  have bc := Lib.half_mul_le (a := x % 4294967296) (b := y / 4294967296) (by omega) (by omega)
  have ba' : x / 4294967296 * (y / 4294967296) < 18446744073709551616 := by omega
  have bb' : x / 4294967296 * (y % 4294967296) < 18446744073709551616 := by omega
  have bc' : x % 4294967296 * (y / 4294967296) < 18446744073709551616 := by omega
  have bh1 : x / 4294967296 * (y / 4294967296) + (x / 4294967296 * (y % 4294967296) + x % 4294967296 * (y % 4294967296) / 4294967296) / 4294967296 < 18446744073709551616 := by omega
  have bh : x / 4294967296 * (y / 4294967296) + (x / 4294967296 * (y % 4294967296) + x % 4294967296 * (y % 4294967296) / 4294967296) / 4294967296 + ((x / 4294967296 * (y % 4294967296) + x % 4294967296 * (y % 4294967296) / 4294967296) % 4294967296 + x % 4294967296 * (y / 4294967296)) / 4294967296 < 18446744073709551616 := by omega
  go_enter Tryz.func174, Tryz.ntmps174
  go_wp2
  simp only [maskN x hx, maskN y hy, divN, mulN, addN, wrapN _ bd, wrapN _ bb', wrapN _ bt, maskN _ bt, wrapN _ bc', wrapN _ bw, wrapN _ ba', wrapN _ bh1, wrapN _ bh, wrapM]
  rw [hhi]
  go_ret2
  exact ⟨rfl, rfl⟩
theorem quiet_same2 {P : Program} {f : FuncId} {args : Array Value} {w : World} {c n : Nat} {v : Value}
    (h : Calls P f args (w.drewN (c + n)) fun e w' => e = .returned v ∧ w' = w.drewN (c + n)) : Calls P f args (w.drewN (c + n)) fun e w'' => e = .returned v ∧ ∃ m, w'' = w.drewN (c + m) :=
  h.mono fun _ _ ⟨he, hm⟩ => ⟨he, n, hm⟩
def cmp3 (x y : Int) : Int := if x < y then -1 else if y < x then 1 else 0
theorem CmpI_any (x y : Int) (w : World) : Calls Tryz.prog 107 #[.int .i64 x, .int .i64 y] w fun e w' => e = .returned (.int .i64 (cmp3 x y)) ∧ w' = w := by
  unfold cmp3
  rcases (show x < y ∨ y < x ∨ x = y by omega) with h | h | h
  · go_enter Tryz.func107, Tryz.ntmps107
    go_wp2_with go_in
    go_ret
    simp
  · have h' : ¬ x < y := by omega
    go_enter Tryz.func107, Tryz.ntmps107
    go_wp2_with go_in
    go_ret
    simp
  · subst h
    go_enter Tryz.func107, Tryz.ntmps107
    go_wp2_with go_in
    go_ret
    simp
theorem CmpU_any (x y : Int) (w : World) : Calls Tryz.prog 178 #[.int .u64 x, .int .u64 y] w fun e w' => e = .returned (.int .i64 (cmp3 x y)) ∧ w' = w := by
  unfold cmp3
  rcases (show x < y ∨ y < x ∨ x = y by omega) with h | h | h
  · go_enter Tryz.func178, Tryz.ntmps178
    go_wp2_with go_in
    go_ret
    simp
  · have h' : ¬ x < y := by omega
    go_enter Tryz.func178, Tryz.ntmps178
    go_wp2_with go_in
    go_ret
    simp
  · subst h
    go_enter Tryz.func178, Tryz.ntmps178
    go_wp2_with go_in
    go_ret
    simp
end Go.Proofs.YtlhmfgbaefaneabGreatDoor.nat
namespace Go.Proofs.YtlhmfgbaefaneabGreatDoor.ref
def val : List Nat → Nat
  | [] => 0
  | d :: r => d + 1000000000 * val r
def Dig (l : List Nat) : Prop := ∀ d ∈ l, d < 1000000000
def Norm (l : List Nat) : Prop := Dig l ∧ l.getLast? ≠ some 0
theorem Dig.nil : Dig [] := fun _ h => by cases h
theorem Dig.cons {d : Nat} {l : List Nat} (h : d < 1000000000) (hl : Dig l) : Dig (d :: l) := fun x hx => by
  rcases List.mem_cons.1 hx with rfl | hx
  · exact h
  · exact hl x hx
theorem Dig.tail {d : Nat} {l : List Nat} (h : Dig (d :: l)) : Dig l := fun x hx => h x (List.mem_cons_of_mem _ hx)
theorem Dig.head {d : Nat} {l : List Nat} (h : Dig (d :: l)) : d < 1000000000 := h d (List.mem_cons_self)
theorem Dig.append {a b : List Nat} (ha : Dig a) (hb : Dig b) : Dig (a ++ b) := fun x hx => by
  rcases List.mem_append.1 hx with h | h
  · exact ha x h
  · exact hb x h
theorem Dig.take {l : List Nat} (h : Dig l) (k : Nat) : Dig (l.take k) := fun x hx => h x (List.mem_of_mem_take hx)
theorem Dig.drop {l : List Nat} (h : Dig l) (k : Nat) : Dig (l.drop k) := fun x hx => h x (List.mem_of_mem_drop hx)
theorem Dig.get {l : List Nat} (h : Dig l) (k : Nat) (hk : k < l.length) : l[k] < 1000000000 := h _ (List.getElem_mem hk)
theorem val_append (a b : List Nat) : val (a ++ b) = val a + 1000000000 ^ a.length * val b := by
  induction a with
  | nil => simp [val]
  | cons d a ih =>
    simp only [List.cons_append, val, List.length_cons, ih, Nat.pow_succ]
    rw [Nat.mul_add, Nat.mul_comm (1000000000 ^ a.length) 1000000000, Nat.mul_assoc, Nat.add_assoc]
theorem val_lt {l : List Nat} (h : Dig l) : val l < 1000000000 ^ l.length := by
  induction l with
  | nil => simp [val]
  | cons d l ih =>
    have h1 := ih h.tail
    have h2 := h.head
    simp only [val, List.length_cons, Nat.pow_succ]
    omega
theorem val_at (l : List Nat) (k : Nat) (hk : k < l.length) : val l = val (l.take k) + 1000000000 ^ k * (l[k] + 1000000000 * val (l.drop (k + 1))) := by
  have h : l = l.take k ++ (l[k] :: l.drop (k + 1)) := by
    rw [← List.drop_eq_getElem_cons hk, List.take_append_drop]
  have h2 := val_append (l.take k) (l[k] :: l.drop (k + 1))
  rw [← h, List.length_take, Nat.min_eq_left (by omega)] at h2
  exact h2
theorem val_snoc (l : List Nat) (d : Nat) : val (l ++ [d]) = val l + 1000000000 ^ l.length * d := by
  rw [val_append]
  simp [val]
theorem Norm.nil : Norm [] := ⟨Dig.nil, by simp⟩
theorem pow_pos (k : Nat) : 0 < 1000000000 ^ k := Nat.pow_pos (by omega)
theorem Norm.low {l : List Nat} (h : Norm l) (hne : l ≠ []) : 1000000000 ^ (l.length - 1) ≤ val l := by
  obtain ⟨a, d, rfl⟩ : ∃ a d, l = a ++ [d] := ⟨l.dropLast, l.getLast hne, (List.dropLast_concat_getLast hne).symm⟩
  have h0 : d ≠ 0 := fun e => h.2 (by simp [e])
  rw [val_snoc]
  simp only [List.length_append, List.length_cons, List.length_nil, Nat.add_sub_cancel]
  have := Nat.le_mul_of_pos_right (1000000000 ^ a.length) (Nat.pos_of_ne_zero h0)
  omega
theorem Norm.zero {l : List Nat} (h : Norm l) : val l = 0 ↔ l = [] := by
  constructor
  · intro h0
    by_cases hne : l = []
    · exact hne
    · have := h.low hne
      have := pow_pos (l.length - 1)
      omega
  · rintro rfl
    rfl
theorem Norm.short {a b : List Nat} (ha : Norm a) (hb : Norm b) (h : a.length < b.length) : val a < val b := by
  have h1 := val_lt ha.1
  have hne : b ≠ [] := by rintro rfl; simp at h
  have h2 := hb.low hne
  have h3 : 1000000000 ^ a.length ≤ 1000000000 ^ (b.length - 1) := Nat.pow_le_pow_right (by omega) (by omega)
  omega
theorem Norm.inj : ∀ {a b : List Nat}, Norm a → Norm b → val a = val b → a = b
  | [], b, _, hb, h => ((hb.zero).1 h.symm).symm
  | a, [], ha, _, h => (ha.zero).1 h
  | d :: a, e :: b, ha, hb, h => by
    have h1 := ha.1.head
    have h2 := hb.1.head
    simp only [val] at h
    have hd : d = e := by omega
    have hv : val a = val b := by omega
    have na : Norm a := ⟨ha.1.tail, fun hl => ha.2 (by rw [List.getLast?_cons, hl]; rfl)⟩
    have nb : Norm b := ⟨hb.1.tail, fun hl => hb.2 (by rw [List.getLast?_cons, hl]; rfl)⟩
    rw [hd, Norm.inj na nb hv]
def dg (l : List Nat) (k : Nat) : Nat := l.getD k 0
theorem dg_get {l : List Nat} {k : Nat} (h : k < l.length) : dg l k = l[k] := by simp [dg, h]
theorem dg_out {l : List Nat} {k : Nat} (h : l.length ≤ k) : dg l k = 0 := by simp [dg, h]
theorem dg_lt {l : List Nat} (h : Dig l) (k : Nat) : dg l k < 1000000000 := by
  by_cases hk : k < l.length
  · rw [dg_get hk]; exact h.get k hk
  · rw [dg_out (by omega)]; omega
theorem dg_ext {a b : List Nat} (hl : a.length = b.length) (h : ∀ k, k < a.length → dg a k = dg b k) : a = b := by
  apply List.ext_getElem hl
  intro k h1 h2
  have := h k h1
  rwa [dg_get h1, dg_get h2] at this
theorem dg_map {l : List Nat} {k : Nat} (h : k < l.length) {α : Type} (f : Nat → α) : (l.map f)[k]? = some (f (dg l k)) := by simp [dg, h]
theorem val_dg (l : List Nat) (k : Nat) (hk : k < l.length) : val l = val (l.take k) + 1000000000 ^ k * (dg l k + 1000000000 * val (l.drop (k + 1))) := by rw [dg_get hk]; exact val_at l k hk
theorem take_dg (l : List Nat) (k : Nat) (hk : k < l.length) : l.take (k + 1) = l.take k ++ [dg l k] := by rw [dg_get hk, List.take_succ_eq_append_getElem hk]
theorem val_take_succ (l : List Nat) (k : Nat) : val (l.take (k + 1)) = val (l.take k) + 1000000000 ^ k * dg l k := by
  by_cases h : k < l.length
  · rw [take_dg l k h, val_snoc, List.length_take, Nat.min_eq_left (by omega)]
  · rw [dg_out (by omega), List.take_of_length_le (by omega), List.take_of_length_le (by omega)]
    omega
theorem dg_set_same {l : List Nat} {j d : Nat} (h : j < l.length) : dg (l.set j d) j = d := by simp [dg, h]
theorem dg_set_other {l : List Nat} {j k d : Nat} (h : j ≠ k) : dg (l.set j d) k = dg l k := by simp [dg, h]
theorem Dig.set {l : List Nat} {j d : Nat} (h : Dig l) (hd : d < 1000000000) : Dig (l.set j d) := fun x hx => by
  rcases List.mem_or_eq_of_mem_set hx with h1 | h1
  · exact h x h1
  · rw [h1]; exact hd
theorem val_set {l : List Nat} {j d : Nat} (h : j < l.length) : val (l.set j d) + 1000000000 ^ j * dg l j = val l + 1000000000 ^ j * d := by
  have h1 := val_dg l j h
  have h2 := val_dg (l.set j d) j (by simpa using h)
  rw [dg_set_same h] at h2
  have e1 : (l.set j d).take j = l.take j := by rw [List.take_set, List.set_eq_of_length_le (by rw [List.length_take]; omega)]
  have e2 : (l.set j d).drop (j + 1) = l.drop (j + 1) := by rw [List.drop_set_of_lt (by omega)]
  rw [e1, e2] at h2
  rw [Nat.mul_add] at h1 h2
  omega
theorem mul_step {o b : List Nat} {i k c ai V : Nat} (hj : i + k < o.length) (h : val o + 1000000000 ^ (i + k) * c = V + 1000000000 ^ i * (ai * val (b.take k))) :
    val (o.set (i + k) ((dg o (i + k) + c + ai * dg b k) % 1000000000)) + 1000000000 ^ (i + (k + 1)) * ((dg o (i + k) + c + ai * dg b k) / 1000000000) = V + 1000000000 ^ i * (ai * val (b.take (k + 1))) := by
  have h1 := val_set (d := (dg o (i + k) + c + ai * dg b k) % 1000000000) hj
  have h2 : 1000000000 ^ (i + k) * (dg o (i + k) + c + ai * dg b k) = 1000000000 ^ (i + k) * ((dg o (i + k) + c + ai * dg b k) % 1000000000) + 1000000000 ^ (i + (k + 1)) * ((dg o (i + k) + c + ai * dg b k) / 1000000000) := by
    rw [show i + (k + 1) = i + k + 1 by omega, Nat.pow_succ, Nat.mul_assoc, ← Nat.mul_add, Nat.mod_add_div]
  have h3 : 1000000000 ^ i * (ai * val (b.take (k + 1))) = 1000000000 ^ i * (ai * val (b.take k)) + 1000000000 ^ (i + k) * (ai * dg b k) := by
    rw [val_take_succ, Nat.mul_add, Nat.mul_add, Nat.pow_add]
    congr 1
    rw [Nat.mul_left_comm ai, Nat.mul_assoc]
  rw [Nat.mul_add, Nat.mul_add] at h2
  omega
def digs (x : Nat) : List Nat := if h : x = 0 then [] else x % 1000000000 :: digs (x / 1000000000)
termination_by x
decreasing_by omega
theorem digs_zero : digs 0 = [] := by rw [digs]; simp
theorem digs_pos {x : Nat} (h : x ≠ 0) : digs x = x % 1000000000 :: digs (x / 1000000000) := by rw [digs]; simp [h]
theorem val_digs (x : Nat) : val (digs x) = x := by
  induction x using Nat.strongRecOn with
  | _ x ih =>
    by_cases h : x = 0
    · subst h; rw [digs_zero]; rfl
    · rw [digs_pos h, val, ih (x / 1000000000) (by omega)]
      omega
theorem norm_digs (x : Nat) : Norm (digs x) := by
  induction x using Nat.strongRecOn with
  | _ x ih =>
    by_cases h : x = 0
    · subst h; rw [digs_zero]; exact Norm.nil
    · rw [digs_pos h]
      obtain ⟨h1, h2⟩ := ih (x / 1000000000) (by omega)
      refine ⟨Dig.cons (Nat.mod_lt _ (by omega)) h1, ?_⟩
      by_cases hq : x / 1000000000 = 0
      · rw [hq, digs_zero]
        simp
        omega
      · rw [List.getLast?_cons]
        rw [digs_pos hq] at h2 ⊢
        rw [List.getLast?_cons] at h2
        rw [List.getLast?_cons]
        simpa using h2
theorem Norm.eq_digs {l : List Nat} (h : Norm l) : l = digs (val l) := h.inj (norm_digs _) (val_digs _).symm
end Go.Proofs.YtlhmfgbaefaneabGreatDoor.ref
namespace Go.Proofs.YtlhmfgbaefaneabGreatDoor.ref
def pad : Nat → Nat → List UInt8
  | 0, _ => []
  | k + 1, d => pad k (d / 10) ++ [UInt8.ofNat (48 + d % 10)]
theorem pad_length : ∀ k d : Nat, (pad k d).length = k
  | 0, _ => rfl
  | k + 1, d => by rw [pad, List.length_append, pad_length k]; rfl
theorem pad_cons : ∀ k d : Nat, pad (k + 1) d = UInt8.ofNat (48 + d / 10 ^ k % 10) :: pad k d
  | 0, d => by simp [pad]
  | k + 1, d => by
    rw [pad, pad_cons k (d / 10), Nat.div_div_eq_div_mul, show 10 * 10 ^ k = 10 ^ (k + 1) by rw [Nat.pow_succ, Nat.mul_comm], List.cons_append]
    rfl
theorem pad_append : ∀ (k m u v : Nat), u < 10 ^ k → pad (m + k) (u + 10 ^ k * v) = pad m v ++ pad k u
  | 0, m, u, v, h => by
    obtain rfl : u = 0 := by simpa using h
    simp [pad]
  | k + 1, m, u, v, h => by
    rw [Nat.pow_succ] at h
    have e : u + 10 ^ (k + 1) * v = u + 10 * (10 ^ k * v) := by rw [Nat.pow_succ, Nat.mul_comm (10 ^ k) 10, Nat.mul_assoc]
    rw [e, show m + (k + 1) = (m + k) + 1 by omega, pad, show (u + 10 * (10 ^ k * v)) / 10 = u / 10 + 10 ^ k * v by omega, pad_append k m (u / 10) v (by omega), show (u + 10 * (10 ^ k * v)) % 10 = u % 10 by omega, List.append_assoc]
    rfl
theorem pad_nought {m x : Nat} (h : x < 10 ^ m) : pad (m + 1) x = 48 :: pad m x := by
  rw [pad_cons, Nat.div_eq_of_lt h]
  rfl
theorem pad_dec : ∀ (m x : Nat), x < 10 ^ (m + 1) → (m = 0 ∨ 10 ^ m ≤ x) → pad (m + 1) x = Lib.decDigits x
  | 0, x, h, _ => by
    rw [Lib.decDigits, dif_pos (by simpa using h), pad, pad, Nat.mod_eq_of_lt (by simpa using h)]
    rfl
  | m + 1, x, h, h2 => by
    have h3 : 10 ^ (m + 1) ≤ x := h2.resolve_left (by omega)
    have hp : 1 ≤ 10 ^ m := Nat.pow_pos (by omega)
    rw [Nat.pow_succ] at h h3
    rw [Lib.decDigits, dif_neg (by omega), pad, pad_dec m (x / 10) (by omega) (Or.inr (by omega))]
theorem pad_head {m x : Nat} (h : x < 10 ^ (m + 1)) (h2 : 10 ^ m ≤ x) : (UInt8.ofNat (48 + x / 10 ^ m % 10)).toNat ≠ 48 := by
  have h1 : 1 ≤ x / 10 ^ m := (Nat.le_div_iff_mul_le (Nat.pow_pos (by omega))).2 (by omega)
  have h3 : x / 10 ^ m < 10 := (Nat.div_lt_iff_lt_mul (Nat.pow_pos (by omega))).2 (by rw [Nat.pow_succ] at h; omega)
  rw [UInt8.toNat_ofNat']
  omega
def str (l : List UInt8) : ByteArray := ⟨l.toArray⟩
theorem str_append (a b : List UInt8) : str a ++ str b = str (a ++ b) := by
  apply ByteArray.ext
  simp [str]
theorem str_size (l : List UInt8) : (str l).size = l.length := rfl
theorem str_tail (c : UInt8) (l : List UInt8) : (str (c :: l)).extract 1 (str (c :: l)).size = str l := by
  apply ByteArray.ext
  simp [str, ByteArray.size]
def ch (l : List UInt8) (i : Nat) : Nat := (l.getD i 0).toNat
def seg (l : List UInt8) (st : Nat) : Nat → Nat
  | 0 => 0
  | m + 1 => seg l st m * 10 + (ch l (st + m) - 48)
def IsDig (l : List UInt8) (i : Nat) : Prop := 48 ≤ ch l i ∧ ch l i ≤ 57
def Numeral (l : List UInt8) : Prop := 1 ≤ l.length ∧ l.length ≤ 4000 ∧ (1 < l.length → ch l 0 ≠ 48) ∧ ∀ i, i < l.length → IsDig l i
theorem seg_lt {l : List UInt8} {st m : Nat} (h : ∀ i, st ≤ i → i < st + m → IsDig l i) : seg l st m < 10 ^ m := by
  induction m with
  | zero => simp [seg]
  | succ m ih =>
    have h1 := ih fun i h1 h2 => h i h1 (by omega)
    have h2 := h (st + m) (by omega) (by omega)
    unfold IsDig at h2
    rw [seg, Nat.pow_succ]
    omega
theorem seg_add (l : List UInt8) (st a : Nat) : ∀ b, seg l st (a + b) = seg l st a * 10 ^ b + seg l (st + a) b
  | 0 => by simp [seg]
  | b + 1 => by
    rw [← Nat.add_assoc, seg, seg, seg_add l st a b, Nat.pow_succ, Nat.add_mul, Nat.mul_assoc, show st + (a + b) = st + a + b by omega]
    omega
theorem take_pad {l : List UInt8} : ∀ m, m ≤ l.length → (∀ i, i < m → IsDig l i) → l.take m = pad m (seg l 0 m)
  | 0, _, _ => rfl
  | m + 1, hm, h => by
    have h2 := h m (by omega)
    unfold IsDig at h2
    have hc : ch l m = l[m].toNat := by simp [ch, show m < l.length by omega]
    rw [List.take_succ_eq_append_getElem (by omega), take_pad m (by omega) fun i hi => h i (by omega), seg, pad, Nat.zero_add, show (seg l 0 m * 10 + (ch l m - 48)) / 10 = seg l 0 m by omega,
      show 48 + (seg l 0 m * 10 + (ch l m - 48)) % 10 = ch l m by omega, hc, UInt8.ofNat_toNat]
theorem Numeral.dec {l : List UInt8} (h : Numeral l) : l = Lib.decDigits (seg l 0 l.length) := by
  obtain ⟨h1, _, h3, h4⟩ := h
  have h5 := take_pad l.length (Nat.le_refl _) h4
  rw [List.take_length] at h5
  have h6 := seg_lt (st := 0) (m := l.length) fun i _ hi => h4 i (by omega)
  obtain ⟨m, hm⟩ : ∃ m, l.length = m + 1 := ⟨l.length - 1, by omega⟩
  rw [hm] at h5 h6 ⊢
  rw [← pad_dec m _ h6 ?_]
  · exact h5
  · by_cases h0 : m = 0
    · exact Or.inl h0
    · right
      have h7 := seg_add l 0 1 m
      rw [Nat.add_comm 1 m] at h7
      have h8 := h4 0 (by omega)
      unfold IsDig at h8
      have h9 := h3 (by omega)
      have h10 : 1 ≤ seg l 0 1 := by simp [seg]; omega
      have h11 := Nat.mul_le_mul_right (10 ^ m) h10
      omega
end Go.Proofs.YtlhmfgbaefaneabGreatDoor.ref
namespace Go.Proofs.YtlhmfgbaefaneabGreatDoor.date
open Go Go.RowKit Go.Proofs.YtlhmfgbaefaneabGreatDoor.nat
open Go.Proofs.YtlhmfgbaefaneabGreatDoor.ref (str str_size str_append)
set_option maxRecDepth 100000 in
theorem Mul_one (n : Nat) (w : World) (hn : n ≤ 21) :
    Calls Tryz.prog 133 #[.int .u64 1, .int .u64 (n : Nat)] w fun e w' => e = .returned (.tuple #[.int .u64 0, .int .u64 (n : Nat)]) ∧ w = w' := by
  have M := nat.Mul64_any 1 n (by omega) (by omega) w
  rw [show 1 * n / 18446744073709551616 = 0 by omega, show 1 * n % 18446744073709551616 = n by omega] at M
  have HM : Hid (Calls Tryz.prog 174 #[.int .u64 1, .int .u64 (n : Nat)] w fun e w' => e = .returned (.tuple #[.int .u64 0, .int .u64 (n : Nat)]) ∧ w' = w) := Lib.hid M
  clear M
  go_enter Tryz.func133, Tryz.ntmps133
  go_wp2_with (first
    | (go_at_call 174; (with_reducible refine (HM.out).mono ?_); rintro e w1 ⟨rfl, rfl⟩)
    | (fail "no arm"))
  go_ret2
  exact ⟨rfl, rfl⟩
set_option maxRecDepth 100000 in
theorem HasPrefix_any (s p : ByteArray) (b : Bool) (w : World) (hp : p.size ≤ s.size) (_hs : s.size ≤ 4611686018427387904) (hx : ((s.extract 0 p.size).toList == p.toList) = b) :
    Calls Tryz.prog 134 #[.string s, .string p] w fun e w' => e = .returned (.bool b) ∧ w = w' := by
  have HC : Hid (Calls Tryz.prog 175 #[.string s, .string p] w fun e w' => e = .returned (.bool b) ∧ w = w') := Lib.hid (by
    go_enter Tryz.func175, Tryz.ntmps175
    go_wp2
    go_ret
    exact ⟨rfl, rfl⟩)
  clear hx
  go_enter Tryz.func134, Tryz.ntmps134
  go_wp2_with (first
    | (go_at_call 175; (with_reducible refine (HC.out).mono ?_); rintro e w1 ⟨rfl, rfl⟩)
    | (fail "no arm"))
  go_ret
  exact ⟨rfl, rfl⟩
theorem zeroes_ext (n : Nat) (hn : n ≤ 64) : (⟨#[48, 48, 48, 48, 48, 48, 48, 48, 48, 48, 48, 48, 48, 48, 48, 48, 48, 48, 48, 48, 48, 48, 48, 48, 48, 48, 48, 48, 48, 48, 48, 48, 48, 48, 48, 48, 48, 48, 48, 48, 48, 48, 48, 48, 48, 48, 48, 48, 48, 48, 48, 48, 48, 48, 48, 48, 48, 48, 48, 48, 48, 48, 48, 48]⟩ : ByteArray).extract 0 n = str (List.replicate n 48) := by
  have h : ∀ L : List UInt8, (str L).extract 0 n = str (L.take n) := fun L => by apply ByteArray.ext; simp [str]
  rw [show (⟨#[48, 48, 48, 48, 48, 48, 48, 48, 48, 48, 48, 48, 48, 48, 48, 48, 48, 48, 48, 48, 48, 48, 48, 48, 48, 48, 48, 48, 48, 48, 48, 48, 48, 48, 48, 48, 48, 48, 48, 48, 48, 48, 48, 48, 48, 48, 48, 48, 48, 48, 48, 48, 48, 48, 48, 48, 48, 48, 48, 48, 48, 48, 48, 48]⟩ : ByteArray) = str (List.replicate 64 48) from rfl, h, List.take_replicate, Nat.min_eq_left hn]
set_option maxRecDepth 100000 in
theorem Repeat_nought (z : Int) (n : Nat) (hz : z = n) (w : World) (h1 : 1 ≤ n) (h2 : n ≤ 21) :
    Calls Tryz.prog 101 #[.string ⟨#[48]⟩, .int .i64 z] w fun e w' => e = .returned (.string (str (List.replicate n 48))) ∧ Below w.heap.size w w' := by
  subst hz
  rcases (show n = 1 ∨ 2 ≤ n by omega) with rfl | h3
  · have he : (⟨#[48]⟩ : ByteArray) = str (List.replicate 1 48) := rfl
    rw [he]
    generalize str (List.replicate 1 48) = s at *
    clear he
    go_enter Tryz.func101, Tryz.ntmps101
    go_wp2
    go_ret
    exact ⟨rfl, Below.refl _ _⟩
  · have HM := Lib.hid (fun W => Mul_one n W h2)
    have HS := Lib.hid (fun W => HasPrefix_any ⟨#[32, 32, 32, 32, 32, 32, 32, 32, 32, 32, 32, 32, 32, 32, 32, 32, 32, 32, 32, 32, 32, 32, 32, 32, 32, 32, 32, 32, 32, 32, 32, 32, 32, 32, 32, 32, 32, 32, 32, 32, 32, 32, 32, 32, 32, 32, 32, 32, 32, 32, 32, 32, 32, 32, 32, 32, 32, 32, 32, 32, 32, 32, 32, 32, 32, 32, 32, 32, 32, 32, 32, 32, 32, 32, 32, 32, 32, 32, 32, 32, 32, 32, 32, 32, 32, 32, 32, 32, 32, 32, 32, 32, 32, 32, 32, 32, 32, 32, 32, 32, 32, 32, 32, 32, 32, 32, 32, 32, 32, 32, 32, 32, 32, 32, 32, 32, 32, 32, 32, 32, 32, 32, 32, 32, 32, 32, 32, 32]⟩ ⟨#[48]⟩ false W (by decide) (by decide) (by decide +kernel))
    have HD := Lib.hid (fun W => HasPrefix_any ⟨#[45, 45, 45, 45, 45, 45, 45, 45, 45, 45, 45, 45, 45, 45, 45, 45, 45, 45, 45, 45, 45, 45, 45, 45, 45, 45, 45, 45, 45, 45, 45, 45, 45, 45, 45, 45, 45, 45, 45, 45, 45, 45, 45, 45, 45, 45, 45, 45, 45, 45, 45, 45, 45, 45, 45, 45, 45, 45, 45, 45, 45, 45, 45, 45, 45, 45, 45, 45, 45, 45, 45, 45, 45, 45, 45, 45, 45, 45, 45, 45, 45, 45, 45, 45, 45, 45, 45, 45, 45, 45, 45, 45, 45, 45, 45, 45, 45, 45, 45, 45, 45, 45, 45, 45, 45, 45, 45, 45, 45, 45, 45, 45, 45, 45, 45, 45, 45, 45, 45, 45, 45, 45, 45, 45, 45, 45, 45, 45]⟩ ⟨#[48]⟩ false W (by decide) (by decide) (by decide +kernel))
    have HZ := Lib.hid (fun W => HasPrefix_any ⟨#[48, 48, 48, 48, 48, 48, 48, 48, 48, 48, 48, 48, 48, 48, 48, 48, 48, 48, 48, 48, 48, 48, 48, 48, 48, 48, 48, 48, 48, 48, 48, 48, 48, 48, 48, 48, 48, 48, 48, 48, 48, 48, 48, 48, 48, 48, 48, 48, 48, 48, 48, 48, 48, 48, 48, 48, 48, 48, 48, 48, 48, 48, 48, 48]⟩ ⟨#[48]⟩ true W (by decide) (by decide) (by decide +kernel))
    have hx := zeroes_ext n (by omega)
    have hsz : (⟨#[48, 48, 48, 48, 48, 48, 48, 48, 48, 48, 48, 48, 48, 48, 48, 48, 48, 48, 48, 48, 48, 48, 48, 48, 48, 48, 48, 48, 48, 48, 48, 48, 48, 48, 48, 48, 48, 48, 48, 48, 48, 48, 48, 48, 48, 48, 48, 48, 48, 48, 48, 48, 48, 48, 48, 48, 48, 48, 48, 48, 48, 48, 48, 48]⟩ : ByteArray).size = 64 := rfl
    generalize str (List.replicate n 48) = R at *
    have kz : (⟨#[48]⟩ : ByteArray).size = 1 := rfl
    have kg : ∀ h : 0 < (⟨#[48]⟩ : ByteArray).size, ((⟨#[48]⟩ : ByteArray)[0]'h).toNat = 48 := fun _ => rfl
    generalize (⟨#[48]⟩ : ByteArray) = k at *
    have hn0 : ((n : Int) == 0) = false := by simp; omega
    have hn1 : ((n : Int) == 1) = false := by simp; omega
    go_enter Tryz.func101, Tryz.ntmps101
    go_wp2_with (first
      | (go_at_call 133; (with_reducible refine (HM.out _).mono ?_); rintro e w1 ⟨rfl, rfl⟩)
      | (go_at_call 134; (with_reducible refine (HS.out _).mono ?_); rintro e w1 ⟨rfl, rfl⟩)
      | (go_at_call 134; (with_reducible refine (HD.out _).mono ?_); rintro e w1 ⟨rfl, rfl⟩)
      | (go_at_call 134; (with_reducible refine (HZ.out _).mono ?_); rintro e w1 ⟨rfl, rfl⟩)
      | (fail "no arm"))
    go_ret
    exact ⟨rfl, Below.refl _ _⟩
set_option maxRecDepth 100000 in
theorem Repeat_zero (w : World) :
    Calls Tryz.prog 101 #[.string ⟨#[48]⟩, .int .i64 0] w fun e w' => e = .returned (.string (str [])) ∧ Below w.heap.size w w' := by
  go_enter Tryz.func101, Tryz.ntmps101
  go_wp2
  go_ret
  exact ⟨rfl, Below.refl _ _⟩
theorem Repeat_at (z : Int) (n : Nat) (hz : z = n) (w : World) (h2 : n ≤ 21) :
    Calls Tryz.prog 101 #[.string ⟨#[48]⟩, .int .i64 z] w fun e w' => e = .returned (.string (str (List.replicate n 48))) ∧ Below w.heap.size w w' := by
  rcases Nat.eq_zero_or_pos n with h | h
  · subst h
    subst hz
    exact Repeat_zero w
  · exact Repeat_nought z n hz w h h2
end Go.Proofs.YtlhmfgbaefaneabGreatDoor.date
namespace Go.Proofs.YtlhmfgbaefaneabGreatDoor.itoa
open Go Go.RowKit Go.Shelf
def layM_ren : Go.Shelf.Ren := ⟨fun | 171 => 100 | 243 => 132 | 246 => 172 | 283 => 213 | 284 => 214 | 285 => 215 | 286 => 216 | 129 => 233 | 317 => 234 | 318 => 235 | 319 => 236 | 320 => 237 | 337 => 245 | 338 => 246 | n => n, fun | 3 => 3 | 9 => 9 | 2 => 2 | 4 => 4 | 171 => 236 | 0 => 0 | 53 => 80 | 37 => 41 | 5 => 5 | 173 => 239 | 212 => 256 | 51 => 183 | 20 => 20 | 213 => 257 | 46 => 142 | 232 => 270 | 233 => 271 | n => n, fun | 17 => 2 | 18 => 8 | 19 => 9 | n => n⟩
theorem layM : Go.Proofs.LaysM.n171 Tryz.prog layM_ren := {
  mixed := by kernel_rfl
  f129 := Tryz.func233.trans (congrArg some (by kernel_rfl))
  f171 := Tryz.func100.trans (congrArg some (by kernel_rfl))
  f243 := Tryz.func132.trans (congrArg some (by kernel_rfl))
  f246 := Tryz.func172.trans (congrArg some (by kernel_rfl))
  f283 := Tryz.func213.trans (congrArg some (by kernel_rfl))
  f284 := Tryz.func214.trans (congrArg some (by kernel_rfl))
  f285 := Tryz.func215.trans (congrArg some (by kernel_rfl))
  f286 := Tryz.func216.trans (congrArg some (by kernel_rfl))
  f317 := Tryz.func234.trans (congrArg some (by kernel_rfl))
  f318 := Tryz.func235.trans (congrArg some (by kernel_rfl))
  f319 := Tryz.func236.trans (congrArg some (by kernel_rfl))
  f320 := Tryz.func237.trans (congrArg some (by kernel_rfl))
  f337 := Tryz.func245.trans (congrArg some (by kernel_rfl))
  f338 := Tryz.func246.trans (congrArg some (by kernel_rfl))
  t0 := Tryz.underlying0
  a0 := Tryz.isAgg0
  z0 := Tryz.sizeOf0
  v0 := Tryz.zeroValue0
  t2 := Tryz.underlying2
  a2 := Tryz.isAgg2
  z2 := Tryz.sizeOf2
  v2 := Tryz.zeroValue2
  t3 := Tryz.underlying3
  a3 := Tryz.isAgg3
  z3 := Tryz.sizeOf3
  v3 := Tryz.zeroValue3
  t4 := Tryz.underlying4
  a4 := Tryz.isAgg4
  z4 := Tryz.sizeOf4
  v4 := Tryz.zeroValue4
  t5 := Tryz.underlying5
  a5 := Tryz.isAgg5
  z5 := Tryz.sizeOf5
  v5 := Tryz.zeroValue5
  t9 := Tryz.underlying9
  a9 := Tryz.isAgg9
  z9 := Tryz.sizeOf9
  v9 := Tryz.zeroValue9
  t20 := Tryz.underlying20
  a20 := Tryz.isAgg20
  z20 := Tryz.sizeOf20
  v20 := Tryz.zeroValue20
  t37 := Tryz.underlying41
  a37 := Tryz.isAgg41
  z37 := Tryz.sizeOf41
  v37 := Tryz.zeroValue41
  t46 := Tryz.underlying142
  a46 := Tryz.isAgg142
  z46 := Tryz.sizeOf142
  v46 := Tryz.zeroValue142
  t51 := Tryz.underlying183
  a51 := Tryz.isAgg183
  z51 := Tryz.sizeOf183
  v51 := Tryz.zeroValue183
  t53 := Tryz.underlying80
  a53 := Tryz.isAgg80
  z53 := Tryz.sizeOf80
  v53 := Tryz.zeroValue80
  t171 := Tryz.underlying236
  a171 := Tryz.isAgg236
  z171 := Tryz.sizeOf236
  v171 := Tryz.zeroValue236
  t173 := Tryz.underlying239
  a173 := Tryz.isAgg239
  z173 := Tryz.sizeOf239
  v173 := Tryz.zeroValue239
  t212 := Tryz.underlying256
  a212 := Tryz.isAgg256
  z212 := Tryz.sizeOf256
  v212 := Tryz.zeroValue256
  t213 := Tryz.underlying257
  a213 := Tryz.isAgg257
  z213 := Tryz.sizeOf257
  t232 := Tryz.underlying270
  a232 := Tryz.isAgg270
  z232 := Tryz.sizeOf270
  v232 := Tryz.zeroValue270
  t233 := Tryz.underlying271
  a233 := Tryz.isAgg271
  z233 := Tryz.sizeOf271
  v233 := Tryz.zeroValue271
  g17 := by kernel_rfl
  g18 := by kernel_rfl
  g19 := by kernel_rfl
  i0 := by kernel_rfl
  i2 := by kernel_rfl
  i3 := by kernel_rfl
  i4 := by kernel_rfl
  i5 := by kernel_rfl
  i9 := by kernel_rfl
  i20 := by kernel_rfl
  i37 := by kernel_rfl
  i46 := by kernel_rfl
  i51 := by kernel_rfl
  i53 := by kernel_rfl
  i171 := by kernel_rfl
  i173 := by kernel_rfl
  i212 := by kernel_rfl
  i232 := by kernel_rfl
  i233 := by kernel_rfl
  m17 := by kernel_rfl
  m18 := by kernel_rfl
  m19 := by kernel_rfl }
def Tab (w : World) : Prop := ∃ t fr, w.heap[2]? = some (.cells (Lib.pow10Tab.map fun z => Value.int .u64 z).toArray t fr)
theorem Tab.below {w w' : World} {n : Nat} (h : Tab w) (hb : Below n w w') (hn : n = w.heap.size) : Tab w' := by
  obtain ⟨t, fr, h⟩ := h
  exact ⟨t, fr, by rw [hb.block _ (by subst hn; exact (Array.getElem?_eq_some_iff.1 h).1), h]⟩
theorem Tab.keep {w w' : World} (h : Tab w) (hb : Below w.heap.size w w') : Tab w' := h.below hb rfl
theorem below_grow (w : World) (k : Nat) (os : Array Obj) : Below w.heap.size w (Sort.grow (w.drewN k) os) := by
  have hd : Below w.heap.size w (w.drewN k) := by
    induction k with
    | zero => exact Below.refl _ _
    | succ k ih => exact ih.drew
  refine hd.trans ⟨rfl, rfl, rfl, by simp [Sort.grow], fun j hj => ?_⟩
  have := hd.size
  simp only [Sort.grow]
  rw [Array.getElem?_append_left (by omega)]
theorem Itoa_any (n : Int) (h0 : -9223372036854775808 ≤ n) (h1 : n ≤ 9223372036854775807) (w : World) (ht : Tab w) :
    Calls Tryz.prog 100 #[.int .i64 n] w fun e w' => e = .returned (.string ⟨(Lib.itoa n).toArray⟩) ∧ Below w.heap.size w w' := by
  obtain ⟨t, fr, ht⟩ := ht
  refine (Any.strconv_Itoa layM n h0 h1 w ?_).mono ?_
  · unfold Lib.TabIs World.var?
    rw [show Tryz.prog.globalNamed _ = some 2 by kernel_rfl]
    simp only [Option.bind_some]
    rw [ht]
  · rintro e w' ⟨rfl, k, os, rfl⟩
    exact ⟨rfl, below_grow w k os⟩
end Go.Proofs.YtlhmfgbaefaneabGreatDoor.itoa
namespace Go.Proofs.YtlhmfgbaefaneabGreatDoor.ref6
open Go Go.RowKit Go.Proofs.YtlhmfgbaefaneabGreatDoor.day
def thirty (y m d y' m' d' : Int) : Int := 360 * (y' - y) + 30 * (m' - m) + min d' 30 - min d 30
end Go.Proofs.YtlhmfgbaefaneabGreatDoor.ref6
namespace Go.Proofs.YtlhmfgbaefaneabGreatDoor.ref6
open Go Go.RowKit Go.Proofs.YtlhmfgbaefaneabGreatDoor.day
open Go.Proofs.YtlhmfgbaefaneabGreatDoor.ref (str pad str_append str_size pad_cons pad_length)
def dayText (y m d : Int) : List UInt8 := pad 4 y.toNat ++ [45] ++ pad 2 m.toNat ++ [45] ++ pad 2 d.toNat
end Go.Proofs.YtlhmfgbaefaneabGreatDoor.ref6
namespace Go.Proofs.YtlhmfgbaefaneabGreatDoor.ref6
open Go Go.RowKit Go.Proofs.YtlhmfgbaefaneabGreatDoor.day
def clip (fin : Bool) (y m d Y M : Int) : Int := if (fin = true ∧ d = mlen y m) ∨ mlen Y M < d then mlen Y M else d
end Go.Proofs.YtlhmfgbaefaneabGreatDoor.ref6
namespace Go.Proofs.YtlhmfgbaefaneabGreatDoor.ref
def IntText (l : List UInt8) (z : Int) : Prop := (Numeral l ∧ z = (seg l 0 l.length : Nat)) ∨ ∃ t, l = 45 :: t ∧ Numeral t ∧ seg t 0 t.length ≠ 0 ∧ z = -(seg t 0 t.length : Nat)
theorem numeral_head {t : List UInt8} : ¬ Numeral (45 :: t) := fun h => by
  have := h.2.2.2 0 (by simp)
  unfold IsDig ch at this
  simp at this
theorem IntText.itoa {l : List UInt8} {z : Int} (h : IntText l z) : l = Lib.itoa z := by
  unfold Lib.itoa
  rcases h with ⟨h, rfl⟩ | ⟨t, rfl, h, h0, rfl⟩
  · rw [if_neg (by omega)]
    exact h.dec
  · rw [if_pos (by omega), show (-(seg t 0 t.length : Nat) : Int).natAbs = seg t 0 t.length by omega, ← h.dec]
theorem IntText.inj {l : List UInt8} {z y : Int} (h : IntText l z) (k : IntText l y) : z = y := by
  rcases h with ⟨h, rfl⟩ | ⟨t, rfl, h, h0, rfl⟩
  · rcases k with ⟨k, rfl⟩ | ⟨t, rfl, k, k0, rfl⟩
    · rfl
    · exact absurd h numeral_head
  · rcases k with ⟨k, rfl⟩ | ⟨t', k1, k, k0, rfl⟩
    · exact absurd k numeral_head
    · simp at k1
      rw [k1]
end Go.Proofs.YtlhmfgbaefaneabGreatDoor.ref
namespace Go.Proofs.YtlhmfgbaefaneabGreatDoor.ref
theorem ch_left {a b : List UInt8} {i : Nat} (h : i < a.length) : ch (a ++ b) i = ch a i := by
  unfold ch
  rw [List.getD_eq_getElem?_getD, List.getD_eq_getElem?_getD, List.getElem?_append_left h]
theorem ch_last {a : List UInt8} {c : UInt8} : ch (a ++ [c]) a.length = c.toNat := by
  unfold ch
  rw [List.getD_eq_getElem?_getD, List.getElem?_append_right (Nat.le_refl _), Nat.sub_self]
  rfl
theorem seg_congr {l l' : List UInt8} {st : Nat} : ∀ m, (∀ i, i < m → ch l (st + i) = ch l' (st + i)) → seg l st m = seg l' st m
  | 0, _ => rfl
  | m + 1, h => by rw [seg, seg, seg_congr m fun i hi => h i (by omega), h m (by omega)]
theorem pad_reads : ∀ k d : Nat, (∀ i, i < k → IsDig (pad k d) i) ∧ seg (pad k d) 0 k = d % 10 ^ k
  | 0, d => ⟨fun i h => absurd h (by omega), by simp [seg, Nat.mod_one]⟩
  | k + 1, d => by
    have ih := pad_reads k (d / 10)
    have hl := pad_length k (d / 10)
    have hc : ch (pad (k + 1) d) k = 48 + d % 10 := by
      have h := ch_last (a := pad k (d / 10)) (c := UInt8.ofNat (48 + d % 10))
      rw [hl, UInt8.toNat_ofNat'] at h
      rw [pad, h]
      omega
    have hlt : ∀ i, i < k → ch (pad (k + 1) d) i = ch (pad k (d / 10)) i := fun i hi => by rw [pad, ch_left (by omega)]
    refine ⟨fun i hi => ?_, ?_⟩
    · rcases Nat.lt_or_ge i k with h | h
      · have := ih.1 i h
        unfold IsDig at this ⊢
        rw [hlt i h]
        exact this
      · obtain rfl : i = k := by omega
        unfold IsDig
        rw [hc]
        omega
    · rw [seg, Nat.zero_add, hc, seg_congr (l' := pad k (d / 10)) k (fun i hi => by rw [Nat.zero_add]; exact hlt i hi), ih.2, Nat.pow_succ, Nat.mul_comm (10 ^ k) 10, Nat.mod_mul]
      omega
theorem digits_of : ∀ (p x : Nat), x < 10 ^ (p + 1) → ∃ m, x < 10 ^ (m + 1) ∧ (m = 0 ∨ 10 ^ m ≤ x) ∧ m ≤ p
  | 0, x, h => ⟨0, h, Or.inl rfl, Nat.le_refl _⟩
  | p + 1, x, h => by
    rcases Nat.lt_or_ge x (10 ^ (p + 1)) with h1 | h1
    · obtain ⟨m, a, b, c⟩ := digits_of p x h1
      exact ⟨m, a, b, by omega⟩
    · exact ⟨p + 1, h, Or.inr h1, Nat.le_refl _⟩
theorem dec_numeral {x p : Nat} (h : x < 10 ^ (p + 1)) (hp : p < 4000) : Numeral (Lib.decDigits x) ∧ seg (Lib.decDigits x) 0 (Lib.decDigits x).length = x ∧ (Lib.decDigits x).length ≤ p + 1 := by
  obtain ⟨m, h1, h2, h3⟩ := digits_of p x h
  have hr := pad_reads (m + 1) x
  have hl := pad_length (m + 1) x
  rw [← pad_dec m x h1 h2, hl]
  refine ⟨⟨by omega, by omega, fun hm => ?_, fun i hi => hr.1 i (by omega)⟩, ?_, by omega⟩
  · have h4 := h2.resolve_left (by omega)
    have h5 := pad_head h1 h4
    have h6 : ch (pad (m + 1) x) 0 = (UInt8.ofNat (48 + x / 10 ^ m % 10)).toNat := by rw [pad_cons]; rfl
    rw [h6]
    exact h5
  · rw [hr.2, Nat.mod_eq_of_lt h1]
end Go.Proofs.YtlhmfgbaefaneabGreatDoor.ref
