/-
  DecTexts answers true for every text and number. Conditions: begun answers true; texts of at most 2^62 bytes.
-/
import Derived.Test.YtfpooimjjpamoaaGreatDoorD00
import Derived.Test.YtfpooimjjpamoaaGreatDoorF22
namespace Go.Proofs.YtfpooimjjpamoaaGreatDoor.law2
open Go.RowKit Go.Proofs.YtfpooimjjpamoaaGreatDoor.nat
open Go.Proofs.YtfpooimjjpamoaaGreatDoor.ref (str signed decText)
theorem pick_dec (d : List UInt8) (hd : d.length ≤ 12) (J : Int) (j1 : 0 ≤ J) (j2 : J < 12) :
    ∃ l : List UInt8, l.length ≤ 4000 ∧ (#[Value.string ({ data := #[43] } ++ str d), Value.string ({ data := #[48] } ++ str d), Value.string (str d ++ { data := #[46] }), Value.string ({ data := #[46] } ++ str d), Value.string ({ data := #[45] } ++ str d ++ { data := #[46, 48] }), Value.string ({ data := #[45, 45] } ++ str d), Value.string (str d ++ { data := #[101, 49] }), Value.string (str d ++ { data := #[46, 49, 46, 50] }), Value.string ({ data := #[32] } ++ str d), Value.string (str d ++ { data := #[32] }), Value.string { data := #[45, 48, 46, 48] }, Value.string (str d ++ { data := #[46, 48, 48, 48, 48, 48, 48, 48, 48, 48, 48, 48, 48, 48, 48, 48, 48, 48, 48, 48, 48, 48] })] : Array Value)[J.toNat]'(by simp; omega) = Value.string (str l) := by
  obtain ⟨k, rfl⟩ : ∃ k : Nat, J = (k : Int) := ⟨J.toNat, by omega⟩
  have hk : k < 12 := by omega
  rcases (show k = 0 ∨ k = 1 ∨ k = 2 ∨ k = 3 ∨ k = 4 ∨ k = 5 ∨ k = 6 ∨ k = 7 ∨ k = 8 ∨ k = 9 ∨ k = 10 ∨ k = 11 by omega) with rfl | rfl | rfl | rfl | rfl | rfl | rfl | rfl | rfl | rfl | rfl | rfl
  · exact ⟨[43] ++ d, by simp; omega, by rw [← ref.str_append]; rfl⟩
  · exact ⟨[48] ++ d, by simp; omega, by rw [← ref.str_append]; rfl⟩
  · exact ⟨d ++ [46], by simp; omega, by rw [← ref.str_append]; rfl⟩
  · exact ⟨[46] ++ d, by simp; omega, by rw [← ref.str_append]; rfl⟩
  · exact ⟨[45] ++ d ++ [46,48], by simp; omega, by rw [← ref.str_append, ← ref.str_append]; rfl⟩
  · exact ⟨[45,45] ++ d, by simp; omega, by rw [← ref.str_append]; rfl⟩
  · exact ⟨d ++ [101,49], by simp; omega, by rw [← ref.str_append]; rfl⟩
  · exact ⟨d ++ [46,49,46,50], by simp; omega, by rw [← ref.str_append]; rfl⟩
  · exact ⟨[32] ++ d, by simp; omega, by rw [← ref.str_append]; rfl⟩
  · exact ⟨d ++ [32], by simp; omega, by rw [← ref.str_append]; rfl⟩
  · exact ⟨[45,48,46,48], by simp, rfl⟩
  · exact ⟨d ++ [46,48,48,48,48,48,48,48,48,48,48,48,48,48,48,48,48,48,48,48,48,48], by simp; omega, by rw [← ref.str_append]; rfl⟩
def dt1_ops : Array Oper := #[
  { dst := some 63, op := Go.Op.move (Go.Operand.tmp 10), type := 29, pos := "more.go:239", after := #[], guard := none },
  { dst := some 64, op := Go.Op.binOp Go.BinOp.eql 29 (Go.Operand.tmp 63) (Go.Operand.const Go.Value.nilIface) 29, type := 4, pos := "more.go:239", after := #[{ on := 0, ground := Go.Ground.data }], guard := none },
  { dst := some 65, op := Go.Op.move (Go.Operand.tmp 13), type := 4, pos := "more.go:239", after := #[], guard := none },
  { dst := some 66, op := Go.Op.binOp Go.BinOp.eql 4 (Go.Operand.tmp 64) (Go.Operand.tmp 65) 4, type := 4, pos := "more.go:239", after := #[{ on := 1, ground := Go.Ground.data }, { on := 2, ground := Go.Ground.data }], guard := none },
  { dst := some 67, op := Go.Op.move (Go.Operand.tmp 66), type := 4, pos := "more.go:239", after := #[{ on := 3, ground := Go.Ground.data }], guard := none },
  { dst := some 68, op := Go.Op.move (Go.Operand.tmp 9), type := 3, pos := "more.go:239", after := #[{ on := 4, ground := Go.Ground.guard }], guard := some (4, true) },
  { dst := some 69, op := Go.Op.move (Go.Operand.tmp 12), type := 3, pos := "more.go:239", after := #[{ on := 4, ground := Go.Ground.guard }], guard := some (4, true) },
  { dst := some 70, op := Go.Op.binOp Go.BinOp.eql 3 (Go.Operand.tmp 68) (Go.Operand.tmp 69) 3, type := 4, pos := "more.go:239", after := #[{ on := 5, ground := Go.Ground.data }, { on := 6, ground := Go.Ground.data }, { on := 4, ground := Go.Ground.guard }], guard := some (4, true) },
  { dst := some 71, op := Go.Op.pick (Go.Operand.tmp 67) (Go.Operand.tmp 70) (Go.Operand.const (Go.Value.bool false)), type := 4, pos := "more.go:239", after := #[{ on := 4, ground := Go.Ground.data }, { on := 7, ground := Go.Ground.data }], guard := none },
  { dst := some 72, op := Go.Op.move (Go.Operand.tmp 71), type := 4, pos := "more.go:239", after := #[{ on := 8, ground := Go.Ground.data }, { on := 4, ground := Go.Ground.chain }], guard := none },
  { dst := some 73, op := Go.Op.move (Go.Operand.tmp 13), type := 4, pos := "more.go:239", after := #[{ on := 9, ground := Go.Ground.guard }], guard := some (9, true) },
  { dst := some 74, op := Go.Op.unOp Go.UnOp.not 4 (Go.Operand.tmp 73), type := 4, pos := "more.go:239", after := #[{ on := 10, ground := Go.Ground.data }, { on := 9, ground := Go.Ground.guard }], guard := some (9, true) },
  { dst := some 75, op := Go.Op.move (Go.Operand.tmp 74), type := 4, pos := "more.go:239", after := #[{ on := 11, ground := Go.Ground.data }, { on := 9, ground := Go.Ground.chain }, { on := 9, ground := Go.Ground.guard }], guard := some (9, true) },
  { dst := some 76, op := Go.Op.move (Go.Operand.tmp 8), type := 82, pos := "more.go:239", after := #[{ on := 12, ground := Go.Ground.guard }], guard := some (12, true) },
  { dst := some 77, op := Go.Op.binOp Go.BinOp.eql 82 (Go.Operand.tmp 76) (Go.Operand.const (Go.Value.pointer none)) 82, type := 4, pos := "more.go:239", after := #[{ on := 13, ground := Go.Ground.data }, { on := 12, ground := Go.Ground.guard }], guard := some (12, true) },
  { dst := some 78, op := Go.Op.pick (Go.Operand.tmp 75) (Go.Operand.tmp 77) (Go.Operand.const (Go.Value.bool false)), type := 4, pos := "more.go:239", after := #[{ on := 12, ground := Go.Ground.data }, { on := 14, ground := Go.Ground.data }, { on := 9, ground := Go.Ground.guard }], guard := some (9, true) },
  { dst := some 79, op := Go.Op.move (Go.Operand.tmp 78), type := 4, pos := "more.go:239", after := #[{ on := 15, ground := Go.Ground.data }, { on := 12, ground := Go.Ground.chain }, { on := 9, ground := Go.Ground.guard }], guard := some (9, true) },
  { dst := some 80, op := Go.Op.move (Go.Operand.tmp 13), type := 4, pos := "more.go:239", after := #[{ on := 16, ground := Go.Ground.guard }], guard := some (16, false) },
  { dst := some 81, op := Go.Op.move (Go.Operand.tmp 80), type := 4, pos := "more.go:239", after := #[{ on := 17, ground := Go.Ground.data }, { on := 16, ground := Go.Ground.chain }, { on := 16, ground := Go.Ground.guard }], guard := some (16, false) },
  { dst := some 82, op := Go.Op.move (Go.Operand.tmp 8), type := 82, pos := "more.go:239", after := #[{ on := 18, ground := Go.Ground.guard }], guard := some (18, true) },
  { dst := some 83, op := Go.Op.call { callee := Go.Callee.value (Go.Operand.func 73), args := #[Go.Operand.tmp 82], argTypes := #[82] }, type := 9, pos := "more.go:239", after := #[{ on := 19, ground := Go.Ground.data }, { on := 18, ground := Go.Ground.chain }, { on := 18, ground := Go.Ground.guard }], guard := some (18, true) },
  { dst := some 84, op := Go.Op.load 86 (Go.Operand.tmp 11), type := 86, pos := "more.go:239", after := #[{ on := 18, ground := Go.Ground.guard }], guard := some (18, true) },
  { dst := some 85, op := Go.Op.call { callee := Go.Callee.value (Go.Operand.func 76), args := #[Go.Operand.tmp 84], argTypes := #[86] }, type := 9, pos := "more.go:239", after := #[{ on := 21, ground := Go.Ground.data }, { on := 20, ground := Go.Ground.chain }, { on := 18, ground := Go.Ground.guard }], guard := some (18, true) },
  { dst := some 86, op := Go.Op.binOp Go.BinOp.eql 9 (Go.Operand.tmp 83) (Go.Operand.tmp 85) 9, type := 4, pos := "more.go:239", after := #[{ on := 20, ground := Go.Ground.data }, { on := 22, ground := Go.Ground.data }, { on := 18, ground := Go.Ground.guard }], guard := some (18, true) },
  { dst := some 87, op := Go.Op.pick (Go.Operand.tmp 81) (Go.Operand.tmp 86) (Go.Operand.const (Go.Value.bool false)), type := 4, pos := "more.go:239", after := #[{ on := 18, ground := Go.Ground.data }, { on := 23, ground := Go.Ground.data }, { on := 16, ground := Go.Ground.guard }], guard := some (16, false) },
  { dst := some 88, op := Go.Op.pick (Go.Operand.tmp 79) (Go.Operand.const (Go.Value.bool true)) (Go.Operand.tmp 87), type := 4, pos := "more.go:239", after := #[{ on := 16, ground := Go.Ground.data }, { on := 24, ground := Go.Ground.data }, { on := 9, ground := Go.Ground.guard }], guard := some (9, true) },
  { dst := some 89, op := Go.Op.pick (Go.Operand.tmp 72) (Go.Operand.tmp 88) (Go.Operand.const (Go.Value.bool false)), type := 4, pos := "more.go:239", after := #[{ on := 9, ground := Go.Ground.data }, { on := 25, ground := Go.Ground.data }], guard := none },
  { dst := some 4, op := Go.Op.assign (Go.Operand.tmp 89), type := 4, pos := "more.go:239", after := #[{ on := 26, ground := Go.Ground.data }, { on := 22, ground := Go.Ground.chain }, { on := 0, ground := Go.Ground.phase }, { on := 1, ground := Go.Ground.phase }, { on := 2, ground := Go.Ground.phase }, { on := 3, ground := Go.Ground.phase }, { on := 4, ground := Go.Ground.phase }, { on := 5, ground := Go.Ground.phase }, { on := 6, ground := Go.Ground.phase }, { on := 7, ground := Go.Ground.phase }, { on := 8, ground := Go.Ground.phase }, { on := 9, ground := Go.Ground.phase }, { on := 10, ground := Go.Ground.phase }, { on := 11, ground := Go.Ground.phase }, { on := 12, ground := Go.Ground.phase }, { on := 13, ground := Go.Ground.phase }, { on := 14, ground := Go.Ground.phase }, { on := 15, ground := Go.Ground.phase }, { on := 16, ground := Go.Ground.phase }, { on := 17, ground := Go.Ground.phase }, { on := 18, ground := Go.Ground.phase }, { on := 19, ground := Go.Ground.phase }, { on := 20, ground := Go.Ground.phase }, { on := 21, ground := Go.Ground.phase }, { on := 22, ground := Go.Ground.phase }, { on := 23, ground := Go.Ground.phase }, { on := 24, ground := Go.Ground.phase }, { on := 25, ground := Go.Ground.phase }, { on := 26, ground := Go.Ground.phase }], guard := none }]
def dt1_plan : List (Nat × Bool) := [(0, false), (1, false), (2, false), (3, false), (4, false), (5, false), (6, false), (7, false), (8, false), (9, false), (10, false), (11, false), (12, false), (13, false), (14, false), (15, false), (16, false), (17, false), (18, false), (19, false), (21, false), (20, true), (22, true), (23, false), (24, false), (25, false), (26, false), (27, false)]
theorem dt1_sel : Region.noSelect dt1_ops = true := by kernel_rfl
theorem dt1_len : dt1_plan.length = dt1_ops.size := by kernel_rfl
theorem dt1_ok : plan.planB (plan.rows .any dt1_ops) dt1_plan 0 = true := by kernel_rfl
theorem dt1_g0 : dt1_ops[0]? = some { dst := some 63, op := Go.Op.move (Go.Operand.tmp 10), type := 29, pos := "more.go:239", after := #[], guard := none } := rfl
theorem dt1_g1 : dt1_ops[1]? = some { dst := some 64, op := Go.Op.binOp Go.BinOp.eql 29 (Go.Operand.tmp 63) (Go.Operand.const Go.Value.nilIface) 29, type := 4, pos := "more.go:239", after := #[{ on := 0, ground := Go.Ground.data }], guard := none } := rfl
theorem dt1_g2 : dt1_ops[2]? = some { dst := some 65, op := Go.Op.move (Go.Operand.tmp 13), type := 4, pos := "more.go:239", after := #[], guard := none } := rfl
theorem dt1_g3 : dt1_ops[3]? = some { dst := some 66, op := Go.Op.binOp Go.BinOp.eql 4 (Go.Operand.tmp 64) (Go.Operand.tmp 65) 4, type := 4, pos := "more.go:239", after := #[{ on := 1, ground := Go.Ground.data }, { on := 2, ground := Go.Ground.data }], guard := none } := rfl
theorem dt1_g4 : dt1_ops[4]? = some { dst := some 67, op := Go.Op.move (Go.Operand.tmp 66), type := 4, pos := "more.go:239", after := #[{ on := 3, ground := Go.Ground.data }], guard := none } := rfl
theorem dt1_g5 : dt1_ops[5]? = some { dst := some 68, op := Go.Op.move (Go.Operand.tmp 9), type := 3, pos := "more.go:239", after := #[{ on := 4, ground := Go.Ground.guard }], guard := some (4, true) } := rfl
theorem dt1_g6 : dt1_ops[6]? = some { dst := some 69, op := Go.Op.move (Go.Operand.tmp 12), type := 3, pos := "more.go:239", after := #[{ on := 4, ground := Go.Ground.guard }], guard := some (4, true) } := rfl
theorem dt1_g7 : dt1_ops[7]? = some { dst := some 70, op := Go.Op.binOp Go.BinOp.eql 3 (Go.Operand.tmp 68) (Go.Operand.tmp 69) 3, type := 4, pos := "more.go:239", after := #[{ on := 5, ground := Go.Ground.data }, { on := 6, ground := Go.Ground.data }, { on := 4, ground := Go.Ground.guard }], guard := some (4, true) } := rfl
theorem dt1_g8 : dt1_ops[8]? = some { dst := some 71, op := Go.Op.pick (Go.Operand.tmp 67) (Go.Operand.tmp 70) (Go.Operand.const (Go.Value.bool false)), type := 4, pos := "more.go:239", after := #[{ on := 4, ground := Go.Ground.data }, { on := 7, ground := Go.Ground.data }], guard := none } := rfl
theorem dt1_g9 : dt1_ops[9]? = some { dst := some 72, op := Go.Op.move (Go.Operand.tmp 71), type := 4, pos := "more.go:239", after := #[{ on := 8, ground := Go.Ground.data }, { on := 4, ground := Go.Ground.chain }], guard := none } := rfl
theorem dt1_g10 : dt1_ops[10]? = some { dst := some 73, op := Go.Op.move (Go.Operand.tmp 13), type := 4, pos := "more.go:239", after := #[{ on := 9, ground := Go.Ground.guard }], guard := some (9, true) } := rfl
theorem dt1_g11 : dt1_ops[11]? = some { dst := some 74, op := Go.Op.unOp Go.UnOp.not 4 (Go.Operand.tmp 73), type := 4, pos := "more.go:239", after := #[{ on := 10, ground := Go.Ground.data }, { on := 9, ground := Go.Ground.guard }], guard := some (9, true) } := rfl
theorem dt1_g12 : dt1_ops[12]? = some { dst := some 75, op := Go.Op.move (Go.Operand.tmp 74), type := 4, pos := "more.go:239", after := #[{ on := 11, ground := Go.Ground.data }, { on := 9, ground := Go.Ground.chain }, { on := 9, ground := Go.Ground.guard }], guard := some (9, true) } := rfl
theorem dt1_g13 : dt1_ops[13]? = some { dst := some 76, op := Go.Op.move (Go.Operand.tmp 8), type := 82, pos := "more.go:239", after := #[{ on := 12, ground := Go.Ground.guard }], guard := some (12, true) } := rfl
theorem dt1_g14 : dt1_ops[14]? = some { dst := some 77, op := Go.Op.binOp Go.BinOp.eql 82 (Go.Operand.tmp 76) (Go.Operand.const (Go.Value.pointer none)) 82, type := 4, pos := "more.go:239", after := #[{ on := 13, ground := Go.Ground.data }, { on := 12, ground := Go.Ground.guard }], guard := some (12, true) } := rfl
theorem dt1_g15 : dt1_ops[15]? = some { dst := some 78, op := Go.Op.pick (Go.Operand.tmp 75) (Go.Operand.tmp 77) (Go.Operand.const (Go.Value.bool false)), type := 4, pos := "more.go:239", after := #[{ on := 12, ground := Go.Ground.data }, { on := 14, ground := Go.Ground.data }, { on := 9, ground := Go.Ground.guard }], guard := some (9, true) } := rfl
theorem dt1_g16 : dt1_ops[16]? = some { dst := some 79, op := Go.Op.move (Go.Operand.tmp 78), type := 4, pos := "more.go:239", after := #[{ on := 15, ground := Go.Ground.data }, { on := 12, ground := Go.Ground.chain }, { on := 9, ground := Go.Ground.guard }], guard := some (9, true) } := rfl
theorem dt1_g17 : dt1_ops[17]? = some { dst := some 80, op := Go.Op.move (Go.Operand.tmp 13), type := 4, pos := "more.go:239", after := #[{ on := 16, ground := Go.Ground.guard }], guard := some (16, false) } := rfl
theorem dt1_g18 : dt1_ops[18]? = some { dst := some 81, op := Go.Op.move (Go.Operand.tmp 80), type := 4, pos := "more.go:239", after := #[{ on := 17, ground := Go.Ground.data }, { on := 16, ground := Go.Ground.chain }, { on := 16, ground := Go.Ground.guard }], guard := some (16, false) } := rfl
theorem dt1_g19 : dt1_ops[19]? = some { dst := some 82, op := Go.Op.move (Go.Operand.tmp 8), type := 82, pos := "more.go:239", after := #[{ on := 18, ground := Go.Ground.guard }], guard := some (18, true) } := rfl
theorem dt1_g20 : dt1_ops[20]? = some { dst := some 83, op := Go.Op.call { callee := Go.Callee.value (Go.Operand.func 73), args := #[Go.Operand.tmp 82], argTypes := #[82] }, type := 9, pos := "more.go:239", after := #[{ on := 19, ground := Go.Ground.data }, { on := 18, ground := Go.Ground.chain }, { on := 18, ground := Go.Ground.guard }], guard := some (18, true) } := rfl
theorem dt1_g21 : dt1_ops[21]? = some { dst := some 84, op := Go.Op.load 86 (Go.Operand.tmp 11), type := 86, pos := "more.go:239", after := #[{ on := 18, ground := Go.Ground.guard }], guard := some (18, true) } := rfl
theorem dt1_g22 : dt1_ops[22]? = some { dst := some 85, op := Go.Op.call { callee := Go.Callee.value (Go.Operand.func 76), args := #[Go.Operand.tmp 84], argTypes := #[86] }, type := 9, pos := "more.go:239", after := #[{ on := 21, ground := Go.Ground.data }, { on := 20, ground := Go.Ground.chain }, { on := 18, ground := Go.Ground.guard }], guard := some (18, true) } := rfl
theorem dt1_g23 : dt1_ops[23]? = some { dst := some 86, op := Go.Op.binOp Go.BinOp.eql 9 (Go.Operand.tmp 83) (Go.Operand.tmp 85) 9, type := 4, pos := "more.go:239", after := #[{ on := 20, ground := Go.Ground.data }, { on := 22, ground := Go.Ground.data }, { on := 18, ground := Go.Ground.guard }], guard := some (18, true) } := rfl
theorem dt1_g24 : dt1_ops[24]? = some { dst := some 87, op := Go.Op.pick (Go.Operand.tmp 81) (Go.Operand.tmp 86) (Go.Operand.const (Go.Value.bool false)), type := 4, pos := "more.go:239", after := #[{ on := 18, ground := Go.Ground.data }, { on := 23, ground := Go.Ground.data }, { on := 16, ground := Go.Ground.guard }], guard := some (16, false) } := rfl
theorem dt1_g25 : dt1_ops[25]? = some { dst := some 88, op := Go.Op.pick (Go.Operand.tmp 79) (Go.Operand.const (Go.Value.bool true)) (Go.Operand.tmp 87), type := 4, pos := "more.go:239", after := #[{ on := 16, ground := Go.Ground.data }, { on := 24, ground := Go.Ground.data }, { on := 9, ground := Go.Ground.guard }], guard := some (9, true) } := rfl
theorem dt1_g26 : dt1_ops[26]? = some { dst := some 89, op := Go.Op.pick (Go.Operand.tmp 72) (Go.Operand.tmp 88) (Go.Operand.const (Go.Value.bool false)), type := 4, pos := "more.go:239", after := #[{ on := 9, ground := Go.Ground.data }, { on := 25, ground := Go.Ground.data }], guard := none } := rfl
theorem dt1_g27 : dt1_ops[27]? = some { dst := some 4, op := Go.Op.assign (Go.Operand.tmp 89), type := 4, pos := "more.go:239", after := #[{ on := 26, ground := Go.Ground.data }, { on := 22, ground := Go.Ground.chain }, { on := 0, ground := Go.Ground.phase }, { on := 1, ground := Go.Ground.phase }, { on := 2, ground := Go.Ground.phase }, { on := 3, ground := Go.Ground.phase }, { on := 4, ground := Go.Ground.phase }, { on := 5, ground := Go.Ground.phase }, { on := 6, ground := Go.Ground.phase }, { on := 7, ground := Go.Ground.phase }, { on := 8, ground := Go.Ground.phase }, { on := 9, ground := Go.Ground.phase }, { on := 10, ground := Go.Ground.phase }, { on := 11, ground := Go.Ground.phase }, { on := 12, ground := Go.Ground.phase }, { on := 13, ground := Go.Ground.phase }, { on := 14, ground := Go.Ground.phase }, { on := 15, ground := Go.Ground.phase }, { on := 16, ground := Go.Ground.phase }, { on := 17, ground := Go.Ground.phase }, { on := 18, ground := Go.Ground.phase }, { on := 19, ground := Go.Ground.phase }, { on := 20, ground := Go.Ground.phase }, { on := 21, ground := Go.Ground.phase }, { on := 22, ground := Go.Ground.phase }, { on := 23, ground := Go.Ground.phase }, { on := 24, ground := Go.Ground.phase }, { on := 25, ground := Go.Ground.phase }, { on := 26, ground := Go.Ground.phase }], guard := none } := rfl
def dt2_ops : Array Oper := #[
  { dst := some 63, op := Go.Op.move (Go.Operand.tmp 10), type := 29, pos := "more.go:239", after := #[], guard := none },
  { dst := some 64, op := Go.Op.binOp Go.BinOp.eql 29 (Go.Operand.tmp 63) (Go.Operand.const Go.Value.nilIface) 29, type := 4, pos := "more.go:239", after := #[{ on := 0, ground := Go.Ground.data }], guard := none },
  { dst := some 65, op := Go.Op.move (Go.Operand.tmp 13), type := 4, pos := "more.go:239", after := #[], guard := none },
  { dst := some 66, op := Go.Op.binOp Go.BinOp.eql 4 (Go.Operand.tmp 64) (Go.Operand.tmp 65) 4, type := 4, pos := "more.go:239", after := #[{ on := 1, ground := Go.Ground.data }, { on := 2, ground := Go.Ground.data }], guard := none },
  { dst := some 67, op := Go.Op.move (Go.Operand.tmp 66), type := 4, pos := "more.go:239", after := #[{ on := 3, ground := Go.Ground.data }], guard := none },
  { dst := some 68, op := Go.Op.move (Go.Operand.tmp 9), type := 3, pos := "more.go:239", after := #[{ on := 4, ground := Go.Ground.guard }], guard := some (4, true) },
  { dst := some 69, op := Go.Op.move (Go.Operand.tmp 12), type := 3, pos := "more.go:239", after := #[{ on := 4, ground := Go.Ground.guard }], guard := some (4, true) },
  { dst := some 70, op := Go.Op.binOp Go.BinOp.eql 3 (Go.Operand.tmp 68) (Go.Operand.tmp 69) 3, type := 4, pos := "more.go:239", after := #[{ on := 5, ground := Go.Ground.data }, { on := 6, ground := Go.Ground.data }, { on := 4, ground := Go.Ground.guard }], guard := some (4, true) },
  { dst := some 71, op := Go.Op.pick (Go.Operand.tmp 67) (Go.Operand.tmp 70) (Go.Operand.const (Go.Value.bool false)), type := 4, pos := "more.go:239", after := #[{ on := 4, ground := Go.Ground.data }, { on := 7, ground := Go.Ground.data }], guard := none },
  { dst := some 72, op := Go.Op.move (Go.Operand.tmp 71), type := 4, pos := "more.go:239", after := #[{ on := 8, ground := Go.Ground.data }, { on := 4, ground := Go.Ground.chain }], guard := none },
  { dst := some 73, op := Go.Op.move (Go.Operand.tmp 13), type := 4, pos := "more.go:239", after := #[{ on := 9, ground := Go.Ground.guard }], guard := some (9, true) },
  { dst := some 74, op := Go.Op.unOp Go.UnOp.not 4 (Go.Operand.tmp 73), type := 4, pos := "more.go:239", after := #[{ on := 10, ground := Go.Ground.data }, { on := 9, ground := Go.Ground.guard }], guard := some (9, true) },
  { dst := some 75, op := Go.Op.move (Go.Operand.tmp 74), type := 4, pos := "more.go:239", after := #[{ on := 11, ground := Go.Ground.data }, { on := 9, ground := Go.Ground.chain }, { on := 9, ground := Go.Ground.guard }], guard := some (9, true) },
  { dst := some 76, op := Go.Op.move (Go.Operand.tmp 8), type := 82, pos := "more.go:239", after := #[{ on := 12, ground := Go.Ground.guard }], guard := some (12, true) },
  { dst := some 77, op := Go.Op.binOp Go.BinOp.eql 82 (Go.Operand.tmp 76) (Go.Operand.const (Go.Value.pointer none)) 82, type := 4, pos := "more.go:239", after := #[{ on := 13, ground := Go.Ground.data }, { on := 12, ground := Go.Ground.guard }], guard := some (12, true) },
  { dst := some 78, op := Go.Op.pick (Go.Operand.tmp 75) (Go.Operand.tmp 77) (Go.Operand.const (Go.Value.bool false)), type := 4, pos := "more.go:239", after := #[{ on := 12, ground := Go.Ground.data }, { on := 14, ground := Go.Ground.data }, { on := 9, ground := Go.Ground.guard }], guard := some (9, true) },
  { dst := some 79, op := Go.Op.move (Go.Operand.tmp 78), type := 4, pos := "more.go:239", after := #[{ on := 15, ground := Go.Ground.data }, { on := 12, ground := Go.Ground.chain }, { on := 9, ground := Go.Ground.guard }], guard := some (9, true) },
  { dst := some 80, op := Go.Op.move (Go.Operand.tmp 13), type := 4, pos := "more.go:239", after := #[{ on := 16, ground := Go.Ground.guard }], guard := some (16, false) },
  { dst := some 81, op := Go.Op.move (Go.Operand.tmp 80), type := 4, pos := "more.go:239", after := #[{ on := 17, ground := Go.Ground.data }, { on := 16, ground := Go.Ground.chain }, { on := 16, ground := Go.Ground.guard }], guard := some (16, false) },
  { dst := some 82, op := Go.Op.move (Go.Operand.tmp 8), type := 82, pos := "more.go:239", after := #[{ on := 18, ground := Go.Ground.guard }], guard := some (18, true) },
  { dst := some 83, op := Go.Op.call { callee := Go.Callee.value (Go.Operand.func 73), args := #[Go.Operand.tmp 82], argTypes := #[82] }, type := 9, pos := "more.go:239", after := #[{ on := 19, ground := Go.Ground.data }, { on := 18, ground := Go.Ground.chain }, { on := 18, ground := Go.Ground.guard }], guard := some (18, true) },
  { dst := some 84, op := Go.Op.load 86 (Go.Operand.tmp 11), type := 86, pos := "more.go:239", after := #[{ on := 18, ground := Go.Ground.guard }], guard := some (18, true) },
  { dst := some 85, op := Go.Op.call { callee := Go.Callee.value (Go.Operand.func 76), args := #[Go.Operand.tmp 84], argTypes := #[86] }, type := 9, pos := "more.go:239", after := #[{ on := 21, ground := Go.Ground.data }, { on := 20, ground := Go.Ground.chain }, { on := 18, ground := Go.Ground.guard }], guard := some (18, true) },
  { dst := some 86, op := Go.Op.binOp Go.BinOp.eql 9 (Go.Operand.tmp 83) (Go.Operand.tmp 85) 9, type := 4, pos := "more.go:239", after := #[{ on := 20, ground := Go.Ground.data }, { on := 22, ground := Go.Ground.data }, { on := 18, ground := Go.Ground.guard }], guard := some (18, true) },
  { dst := some 87, op := Go.Op.pick (Go.Operand.tmp 81) (Go.Operand.tmp 86) (Go.Operand.const (Go.Value.bool false)), type := 4, pos := "more.go:239", after := #[{ on := 18, ground := Go.Ground.data }, { on := 23, ground := Go.Ground.data }, { on := 16, ground := Go.Ground.guard }], guard := some (16, false) },
  { dst := some 88, op := Go.Op.pick (Go.Operand.tmp 79) (Go.Operand.const (Go.Value.bool true)) (Go.Operand.tmp 87), type := 4, pos := "more.go:239", after := #[{ on := 16, ground := Go.Ground.data }, { on := 24, ground := Go.Ground.data }, { on := 9, ground := Go.Ground.guard }], guard := some (9, true) },
  { dst := some 89, op := Go.Op.pick (Go.Operand.tmp 72) (Go.Operand.tmp 88) (Go.Operand.const (Go.Value.bool false)), type := 4, pos := "more.go:239", after := #[{ on := 9, ground := Go.Ground.data }, { on := 25, ground := Go.Ground.data }], guard := none },
  { dst := some 4, op := Go.Op.assign (Go.Operand.tmp 89), type := 4, pos := "more.go:239", after := #[{ on := 26, ground := Go.Ground.data }, { on := 22, ground := Go.Ground.chain }, { on := 0, ground := Go.Ground.phase }, { on := 1, ground := Go.Ground.phase }, { on := 2, ground := Go.Ground.phase }, { on := 3, ground := Go.Ground.phase }, { on := 4, ground := Go.Ground.phase }, { on := 5, ground := Go.Ground.phase }, { on := 6, ground := Go.Ground.phase }, { on := 7, ground := Go.Ground.phase }, { on := 8, ground := Go.Ground.phase }, { on := 9, ground := Go.Ground.phase }, { on := 10, ground := Go.Ground.phase }, { on := 11, ground := Go.Ground.phase }, { on := 12, ground := Go.Ground.phase }, { on := 13, ground := Go.Ground.phase }, { on := 14, ground := Go.Ground.phase }, { on := 15, ground := Go.Ground.phase }, { on := 16, ground := Go.Ground.phase }, { on := 17, ground := Go.Ground.phase }, { on := 18, ground := Go.Ground.phase }, { on := 19, ground := Go.Ground.phase }, { on := 20, ground := Go.Ground.phase }, { on := 21, ground := Go.Ground.phase }, { on := 22, ground := Go.Ground.phase }, { on := 23, ground := Go.Ground.phase }, { on := 24, ground := Go.Ground.phase }, { on := 25, ground := Go.Ground.phase }, { on := 26, ground := Go.Ground.phase }], guard := none }]
def dt2_plan : List (Nat × Bool) := [(0, false), (1, false), (2, false), (3, false), (4, false), (5, false), (6, false), (7, false), (8, false), (9, false), (10, false), (11, false), (12, false), (13, false), (14, false), (15, false), (16, false), (17, false), (18, false), (19, false), (20, false), (21, false), (22, false), (23, false), (24, false), (25, false), (26, false), (27, false)]
theorem dt2_sel : Region.noSelect dt2_ops = true := by kernel_rfl
theorem dt2_len : dt2_plan.length = dt2_ops.size := by kernel_rfl
theorem dt2_ok : plan.planB (plan.rows .any dt2_ops) dt2_plan 0 = true := by kernel_rfl
theorem dt2_g0 : dt2_ops[0]? = some { dst := some 63, op := Go.Op.move (Go.Operand.tmp 10), type := 29, pos := "more.go:239", after := #[], guard := none } := rfl
theorem dt2_g1 : dt2_ops[1]? = some { dst := some 64, op := Go.Op.binOp Go.BinOp.eql 29 (Go.Operand.tmp 63) (Go.Operand.const Go.Value.nilIface) 29, type := 4, pos := "more.go:239", after := #[{ on := 0, ground := Go.Ground.data }], guard := none } := rfl
theorem dt2_g2 : dt2_ops[2]? = some { dst := some 65, op := Go.Op.move (Go.Operand.tmp 13), type := 4, pos := "more.go:239", after := #[], guard := none } := rfl
theorem dt2_g3 : dt2_ops[3]? = some { dst := some 66, op := Go.Op.binOp Go.BinOp.eql 4 (Go.Operand.tmp 64) (Go.Operand.tmp 65) 4, type := 4, pos := "more.go:239", after := #[{ on := 1, ground := Go.Ground.data }, { on := 2, ground := Go.Ground.data }], guard := none } := rfl
theorem dt2_g4 : dt2_ops[4]? = some { dst := some 67, op := Go.Op.move (Go.Operand.tmp 66), type := 4, pos := "more.go:239", after := #[{ on := 3, ground := Go.Ground.data }], guard := none } := rfl
theorem dt2_g5 : dt2_ops[5]? = some { dst := some 68, op := Go.Op.move (Go.Operand.tmp 9), type := 3, pos := "more.go:239", after := #[{ on := 4, ground := Go.Ground.guard }], guard := some (4, true) } := rfl
theorem dt2_g6 : dt2_ops[6]? = some { dst := some 69, op := Go.Op.move (Go.Operand.tmp 12), type := 3, pos := "more.go:239", after := #[{ on := 4, ground := Go.Ground.guard }], guard := some (4, true) } := rfl
theorem dt2_g7 : dt2_ops[7]? = some { dst := some 70, op := Go.Op.binOp Go.BinOp.eql 3 (Go.Operand.tmp 68) (Go.Operand.tmp 69) 3, type := 4, pos := "more.go:239", after := #[{ on := 5, ground := Go.Ground.data }, { on := 6, ground := Go.Ground.data }, { on := 4, ground := Go.Ground.guard }], guard := some (4, true) } := rfl
theorem dt2_g8 : dt2_ops[8]? = some { dst := some 71, op := Go.Op.pick (Go.Operand.tmp 67) (Go.Operand.tmp 70) (Go.Operand.const (Go.Value.bool false)), type := 4, pos := "more.go:239", after := #[{ on := 4, ground := Go.Ground.data }, { on := 7, ground := Go.Ground.data }], guard := none } := rfl
theorem dt2_g9 : dt2_ops[9]? = some { dst := some 72, op := Go.Op.move (Go.Operand.tmp 71), type := 4, pos := "more.go:239", after := #[{ on := 8, ground := Go.Ground.data }, { on := 4, ground := Go.Ground.chain }], guard := none } := rfl
theorem dt2_g10 : dt2_ops[10]? = some { dst := some 73, op := Go.Op.move (Go.Operand.tmp 13), type := 4, pos := "more.go:239", after := #[{ on := 9, ground := Go.Ground.guard }], guard := some (9, true) } := rfl
theorem dt2_g11 : dt2_ops[11]? = some { dst := some 74, op := Go.Op.unOp Go.UnOp.not 4 (Go.Operand.tmp 73), type := 4, pos := "more.go:239", after := #[{ on := 10, ground := Go.Ground.data }, { on := 9, ground := Go.Ground.guard }], guard := some (9, true) } := rfl
theorem dt2_g12 : dt2_ops[12]? = some { dst := some 75, op := Go.Op.move (Go.Operand.tmp 74), type := 4, pos := "more.go:239", after := #[{ on := 11, ground := Go.Ground.data }, { on := 9, ground := Go.Ground.chain }, { on := 9, ground := Go.Ground.guard }], guard := some (9, true) } := rfl
theorem dt2_g13 : dt2_ops[13]? = some { dst := some 76, op := Go.Op.move (Go.Operand.tmp 8), type := 82, pos := "more.go:239", after := #[{ on := 12, ground := Go.Ground.guard }], guard := some (12, true) } := rfl
theorem dt2_g14 : dt2_ops[14]? = some { dst := some 77, op := Go.Op.binOp Go.BinOp.eql 82 (Go.Operand.tmp 76) (Go.Operand.const (Go.Value.pointer none)) 82, type := 4, pos := "more.go:239", after := #[{ on := 13, ground := Go.Ground.data }, { on := 12, ground := Go.Ground.guard }], guard := some (12, true) } := rfl
theorem dt2_g15 : dt2_ops[15]? = some { dst := some 78, op := Go.Op.pick (Go.Operand.tmp 75) (Go.Operand.tmp 77) (Go.Operand.const (Go.Value.bool false)), type := 4, pos := "more.go:239", after := #[{ on := 12, ground := Go.Ground.data }, { on := 14, ground := Go.Ground.data }, { on := 9, ground := Go.Ground.guard }], guard := some (9, true) } := rfl
theorem dt2_g16 : dt2_ops[16]? = some { dst := some 79, op := Go.Op.move (Go.Operand.tmp 78), type := 4, pos := "more.go:239", after := #[{ on := 15, ground := Go.Ground.data }, { on := 12, ground := Go.Ground.chain }, { on := 9, ground := Go.Ground.guard }], guard := some (9, true) } := rfl
theorem dt2_g17 : dt2_ops[17]? = some { dst := some 80, op := Go.Op.move (Go.Operand.tmp 13), type := 4, pos := "more.go:239", after := #[{ on := 16, ground := Go.Ground.guard }], guard := some (16, false) } := rfl
theorem dt2_g18 : dt2_ops[18]? = some { dst := some 81, op := Go.Op.move (Go.Operand.tmp 80), type := 4, pos := "more.go:239", after := #[{ on := 17, ground := Go.Ground.data }, { on := 16, ground := Go.Ground.chain }, { on := 16, ground := Go.Ground.guard }], guard := some (16, false) } := rfl
theorem dt2_g19 : dt2_ops[19]? = some { dst := some 82, op := Go.Op.move (Go.Operand.tmp 8), type := 82, pos := "more.go:239", after := #[{ on := 18, ground := Go.Ground.guard }], guard := some (18, true) } := rfl
theorem dt2_g20 : dt2_ops[20]? = some { dst := some 83, op := Go.Op.call { callee := Go.Callee.value (Go.Operand.func 73), args := #[Go.Operand.tmp 82], argTypes := #[82] }, type := 9, pos := "more.go:239", after := #[{ on := 19, ground := Go.Ground.data }, { on := 18, ground := Go.Ground.chain }, { on := 18, ground := Go.Ground.guard }], guard := some (18, true) } := rfl
theorem dt2_g21 : dt2_ops[21]? = some { dst := some 84, op := Go.Op.load 86 (Go.Operand.tmp 11), type := 86, pos := "more.go:239", after := #[{ on := 18, ground := Go.Ground.guard }], guard := some (18, true) } := rfl
theorem dt2_g22 : dt2_ops[22]? = some { dst := some 85, op := Go.Op.call { callee := Go.Callee.value (Go.Operand.func 76), args := #[Go.Operand.tmp 84], argTypes := #[86] }, type := 9, pos := "more.go:239", after := #[{ on := 21, ground := Go.Ground.data }, { on := 20, ground := Go.Ground.chain }, { on := 18, ground := Go.Ground.guard }], guard := some (18, true) } := rfl
theorem dt2_g23 : dt2_ops[23]? = some { dst := some 86, op := Go.Op.binOp Go.BinOp.eql 9 (Go.Operand.tmp 83) (Go.Operand.tmp 85) 9, type := 4, pos := "more.go:239", after := #[{ on := 20, ground := Go.Ground.data }, { on := 22, ground := Go.Ground.data }, { on := 18, ground := Go.Ground.guard }], guard := some (18, true) } := rfl
theorem dt2_g24 : dt2_ops[24]? = some { dst := some 87, op := Go.Op.pick (Go.Operand.tmp 81) (Go.Operand.tmp 86) (Go.Operand.const (Go.Value.bool false)), type := 4, pos := "more.go:239", after := #[{ on := 18, ground := Go.Ground.data }, { on := 23, ground := Go.Ground.data }, { on := 16, ground := Go.Ground.guard }], guard := some (16, false) } := rfl
theorem dt2_g25 : dt2_ops[25]? = some { dst := some 88, op := Go.Op.pick (Go.Operand.tmp 79) (Go.Operand.const (Go.Value.bool true)) (Go.Operand.tmp 87), type := 4, pos := "more.go:239", after := #[{ on := 16, ground := Go.Ground.data }, { on := 24, ground := Go.Ground.data }, { on := 9, ground := Go.Ground.guard }], guard := some (9, true) } := rfl
theorem dt2_g26 : dt2_ops[26]? = some { dst := some 89, op := Go.Op.pick (Go.Operand.tmp 72) (Go.Operand.tmp 88) (Go.Operand.const (Go.Value.bool false)), type := 4, pos := "more.go:239", after := #[{ on := 9, ground := Go.Ground.data }, { on := 25, ground := Go.Ground.data }], guard := none } := rfl
theorem dt2_g27 : dt2_ops[27]? = some { dst := some 4, op := Go.Op.assign (Go.Operand.tmp 89), type := 4, pos := "more.go:239", after := #[{ on := 26, ground := Go.Ground.data }, { on := 22, ground := Go.Ground.chain }, { on := 0, ground := Go.Ground.phase }, { on := 1, ground := Go.Ground.phase }, { on := 2, ground := Go.Ground.phase }, { on := 3, ground := Go.Ground.phase }, { on := 4, ground := Go.Ground.phase }, { on := 5, ground := Go.Ground.phase }, { on := 6, ground := Go.Ground.phase }, { on := 7, ground := Go.Ground.phase }, { on := 8, ground := Go.Ground.phase }, { on := 9, ground := Go.Ground.phase }, { on := 10, ground := Go.Ground.phase }, { on := 11, ground := Go.Ground.phase }, { on := 12, ground := Go.Ground.phase }, { on := 13, ground := Go.Ground.phase }, { on := 14, ground := Go.Ground.phase }, { on := 15, ground := Go.Ground.phase }, { on := 16, ground := Go.Ground.phase }, { on := 17, ground := Go.Ground.phase }, { on := 18, ground := Go.Ground.phase }, { on := 19, ground := Go.Ground.phase }, { on := 20, ground := Go.Ground.phase }, { on := 21, ground := Go.Ground.phase }, { on := 22, ground := Go.Ground.phase }, { on := 23, ground := Go.Ground.phase }, { on := 24, ground := Go.Ground.phase }, { on := 25, ground := Go.Ground.phase }, { on := 26, ground := Go.Ground.phase }], guard := none } := rfl
set_option maxRecDepth 100000 in
set_option maxHeartbeats 4000000 in
theorem LwDecTexts (HBg : BegunC) (s : List UInt8) (hs : s.length ≤ 4611686018427387904) (how : Int) (_how1 : -9223372036854775808 ≤ how) (_how2 : how < 9223372036854775808) (w : World) (hd : Hd w) :
    Calls Tryz.prog 24 #[.string (str s), .int .i64 how] w fun e w' => e = .returned (.bool true) ∧ Below w.heap.size w w' := by
  unfold BegunC at HBg
  have HBG := Lib.hid HBg
  have HG := Lib.hid hd
  clear HBg hd
  have HD : Hid (∀ W, Calls Tryz.prog 101 #[.string (str s), .int .i64 12] W fun e w' => ∃ t, e = .returned (.string (str t)) ∧ (ref.Numeral t ∧ t.length ≤ max 12 1) ∧ W = w') := Lib.hid (fun W => Digits_any s 12 W hs (by omega))
  have t5 : -12 < how.tmod 12 := Int.lt_tmod_of_pos how (by decide)
  have t6 : how.tmod 12 < 12 := Int.tmod_lt_of_pos how (by decide)
  obtain ⟨J, hJ⟩ : ∃ J : Int, (how.tmod 12 + 12) % 12 = J := ⟨_, rfl⟩
  have j1 : 0 ≤ J := by omega
  have j2 : J < 12 := by omega
  clear hs
  generalize str s = zs at *
  go_enter Tryz.func24, Tryz.ntmps24
  go_wp2_with (first
    | (go_at_call 25; (with_reducible refine (HBG.out _ HG.out).mono ?_); rintro e W1 ⟨rfl, hb⟩
       have HB1 := Lib.hid hb
       clear hb)
    | (go_at_call 101; (with_reducible refine (HD.out _).mono ?_); rintro e w9 ⟨d, rfl, ⟨-, hdl⟩, rfl⟩
       obtain ⟨l0, hl0, hv⟩ := pick_dec d (by omega) J j1 j2
       have HT : Hid (∀ W, Calls Tryz.prog 43 #[.string (str l0), .int .i64 70] W fun e w' => e = .returned (.string (str (l0.take 70))) ∧ W = w') := Lib.hid (fun W => law2.Text_any l0 70 W (by omega) (by omega))
       obtain ⟨l, hl⟩ : ∃ l, l0.take 70 = l := ⟨_, rfl⟩
       have hll : l.length ≤ 70 := by rw [← hl]; exact List.length_take_le _ _
       rw [hl] at HT
       have HL := Lib.hid hll
       have hsz : (str d).size ≤ 12 := by rw [ref.str_size]; omega
       generalize str l0 = sl0 at *
       generalize str d = sd at *
       clear hl hl0 hll hdl HD)
    | (go_at_call 43; (with_reducible refine (HT.out _).mono ?_); rintro e w9 ⟨rfl, rfl⟩
       clear HT)
    | (fail "no arm"))
  by_cases h : ∃ neg n k, ref.DecForm l neg n k
  · have hll := HL.out
    obtain ⟨neg, n, k, hf⟩ := h
    have hk : k ≤ 20 := dec.form_places hf
    have hZ : Bz (signed neg n) 60 := dec.Bz_signed (dec.form_low hf)
    obtain ⟨q, hq⟩ : ∃ q : Rat, q = ((signed neg n : Int) : Rat) / ((10 ^ k : Nat) : Rat) := ⟨_, rfl⟩
    have L_q := Lib.hid (dec.br_ten hq hk hZ (by decide))
    have G1 := fun W => DGet_yes l neg n k q W hq hf
    have G2 := fun W => GetDec_yes l neg n k W (by omega) hf
    have QT := Lib.hid (fun W v (h : ref.IsQ W v (signed neg n) (10 ^ k)) => QText_at v _ _ 60 q W (Nat.pow_pos (by omega)) hq h hZ ((dec.Bn_ten hk).le (by decide)) (by decide))
    have G1 := Lib.hid G1
    have G2 := Lib.hid G2
    clear hk hZ hq hf hll
    generalize str l = sl at *
    generalize signed neg n = Z at *
    generalize 10 ^ k = D at *
    go_wp2_with (first
      | (go_at_call 78; (with_reducible refine (G1.out _).mono ?_); rintro e W2 ⟨a, rfl, ⟨h_a, n_a⟩, hb⟩
         obtain ⟨p_a, rfl⟩ := h_a.some n_a
         have H_a := Lib.hid h_a
         have N_a := Lib.hid n_a
         have HB2 := Lib.hid (nat.below_tr ((Below.refl _ _).alloc (Nat.le_refl _) _) hb)
         clear h_a n_a hb G1)
      | (go_at_call 79; (with_reducible refine (G2.out _).mono ?_); rintro e W3 ⟨x, rfl, h_x, hb⟩
         obtain ⟨s_x, t_x, rfl, h3, h4⟩ := id h_x
         obtain ⟨o_x, c_x, rfl⟩ := IsX_slice h3
         obtain ⟨u_x, e_x, rfl⟩ := IsX_slice h4
         have H_x := Lib.hid h_x
         have HB3 := Lib.hid hb
         have HB4 := Lib.hid (show Below W3.heap.size W3 (W3.alloc (.cells #[.bool (decide (Z < 0)), .slice o_x (ref.digs (Int.natAbs Z)).length c_x, .slice u_x (ref.digs D).length e_x] 86)) from (Below.refl _ _).alloc (Nat.le_refl _) _)
         have M_x := Lib.hid (cells3_new W3 (.bool (decide (Z < 0))) (.slice o_x (ref.digs (Int.natAbs Z)).length c_x) (.slice u_x (ref.digs D).length e_x) 86)
         clear h_x hb G2 h3 h4)
      | (fail "no arm"))
    obtain ⟨W4, hW4⟩ : ∃ W : World, W = (W3.alloc (.cells #[.bool (decide (Z < 0)), .slice o_x (ref.digs (Int.natAbs Z)).length c_x, .slice u_x (ref.digs D).length e_x] 86)) := ⟨_, rfl⟩
    rw [← hW4] at HB4 M_x ⊢
    clear hW4
    have c1 := fun (W : World) (v0 : Value) (hh0 : rat.IsR W v0 q)  => rat.Text_any v0 q W hh0 (L_q.out.rat (by decide))
    have C1 := Lib.hid c1
    clear c1
    generalize str (rat.rtxt q) = sq at *
    have HOLD := Lib.hid (fun W (hW : Below W4.heap.size W4 W) => (show Below W4.heap.size W4 W ∧ W.cell? ⟨W3.heap.size, 0, none⟩ = some (.bool (decide (Z < 0))) ∧ W.cell? ⟨W3.heap.size, 1, none⟩ = some (.slice o_x (ref.digs (Int.natAbs Z)).length c_x) ∧ W.cell? ⟨W3.heap.size, 2, none⟩ = some (.slice u_x (ref.digs D).length e_x) from ⟨hW, (M_x.out.below hW).1, (M_x.out.below hW).2.1, (M_x.out.below hW).2.2⟩))
    refine plan.region_plan (S := fun w' => Below W4.heap.size W4 w' ∧ w'.cell? ⟨W3.heap.size, 0, none⟩ = some (.bool (decide (Z < 0))) ∧ w'.cell? ⟨W3.heap.size, 1, none⟩ = some (.slice o_x (ref.digs (Int.natAbs Z)).length c_x) ∧ w'.cell? ⟨W3.heap.size, 2, none⟩ = some (.slice u_x (ref.digs D).length e_x)) (ops := dt1_ops) (l := dt1_plan) (by kernel_rfl) dt1_sel dt1_len dt1_ok (fun _ _ d _ _ h => by cases d <;> exact h) ?_ (fun hHeld => ?_)
    · exact HOLD.out _ (Below.refl _ _).drew
    unfold dt1_plan
    refine plan.wpPlan_take (v := ?_) dt1_g0 (Or.inl ⟨by kernel_rfl, ?_⟩) ?_
    rotate_left
    · intro w hSw
      (try dsimp only at hSw)
      go_simp
      (try with_reducible rfl)
    simp only [Act.put, List.setIfInBounds_toArray, List.set_cons_zero, List.set_cons_succ]
    refine plan.wpPlan_take (v := ?_) dt1_g1 (Or.inl ⟨by kernel_rfl, ?_⟩) ?_
    rotate_left
    · intro w hSw
      (try dsimp only at hSw)
      go_simp
      (try with_reducible rfl)
    simp only [Act.put, List.setIfInBounds_toArray, List.set_cons_zero, List.set_cons_succ]
    refine plan.wpPlan_take (v := ?_) dt1_g2 (Or.inl ⟨by kernel_rfl, ?_⟩) ?_
    rotate_left
    · intro w hSw
      (try dsimp only at hSw)
      go_simp
      (try with_reducible rfl)
    simp only [Act.put, List.setIfInBounds_toArray, List.set_cons_zero, List.set_cons_succ]
    refine plan.wpPlan_take (v := ?_) dt1_g3 (Or.inl ⟨by kernel_rfl, ?_⟩) ?_
    rotate_left
    · intro w hSw
      (try dsimp only at hSw)
      go_simp
      (try with_reducible rfl)
    simp only [Act.put, List.setIfInBounds_toArray, List.set_cons_zero, List.set_cons_succ]
    refine plan.wpPlan_take (v := ?_) dt1_g4 (Or.inl ⟨by kernel_rfl, ?_⟩) ?_
    rotate_left
    · intro w hSw
      (try dsimp only at hSw)
      go_simp
      (try with_reducible rfl)
    simp only [Act.put, List.setIfInBounds_toArray, List.set_cons_zero, List.set_cons_succ]
    refine plan.wpPlan_take (v := ?_) dt1_g5 (Or.inl ⟨by kernel_rfl, ?_⟩) ?_
    rotate_left
    · intro w hSw
      (try dsimp only at hSw)
      go_simp
      (try with_reducible rfl)
    simp only [Act.put, List.setIfInBounds_toArray, List.set_cons_zero, List.set_cons_succ]
    refine plan.wpPlan_take (v := ?_) dt1_g6 (Or.inl ⟨by kernel_rfl, ?_⟩) ?_
    rotate_left
    · intro w hSw
      (try dsimp only at hSw)
      go_simp
      (try with_reducible rfl)
    simp only [Act.put, List.setIfInBounds_toArray, List.set_cons_zero, List.set_cons_succ]
    refine plan.wpPlan_take (v := ?_) dt1_g7 (Or.inl ⟨by kernel_rfl, ?_⟩) ?_
    rotate_left
    · intro w hSw
      (try dsimp only at hSw)
      go_simp
      (try with_reducible rfl)
    simp only [Act.put, List.setIfInBounds_toArray, List.set_cons_zero, List.set_cons_succ]
    refine plan.wpPlan_take (v := ?_) dt1_g8 (Or.inl ⟨by kernel_rfl, ?_⟩) ?_
    rotate_left
    · intro w hSw
      (try dsimp only at hSw)
      go_simp
      (try with_reducible rfl)
    simp only [Act.put, List.setIfInBounds_toArray, List.set_cons_zero, List.set_cons_succ]
    refine plan.wpPlan_take (v := ?_) dt1_g9 (Or.inl ⟨by kernel_rfl, ?_⟩) ?_
    rotate_left
    · intro w hSw
      (try dsimp only at hSw)
      go_simp
      (try with_reducible rfl)
    simp only [Act.put, List.setIfInBounds_toArray, List.set_cons_zero, List.set_cons_succ]
    refine plan.wpPlan_take (v := ?_) dt1_g10 (Or.inl ⟨by kernel_rfl, ?_⟩) ?_
    rotate_left
    · intro w hSw
      (try dsimp only at hSw)
      go_simp
      (try with_reducible rfl)
    simp only [Act.put, List.setIfInBounds_toArray, List.set_cons_zero, List.set_cons_succ]
    refine plan.wpPlan_take (v := ?_) dt1_g11 (Or.inl ⟨by kernel_rfl, ?_⟩) ?_
    rotate_left
    · intro w hSw
      (try dsimp only at hSw)
      go_simp
      (try with_reducible rfl)
    simp only [Act.put, List.setIfInBounds_toArray, List.set_cons_zero, List.set_cons_succ]
    refine plan.wpPlan_take (v := ?_) dt1_g12 (Or.inl ⟨by kernel_rfl, ?_⟩) ?_
    rotate_left
    · intro w hSw
      (try dsimp only at hSw)
      go_simp
      (try with_reducible rfl)
    simp only [Act.put, List.setIfInBounds_toArray, List.set_cons_zero, List.set_cons_succ]
    refine plan.wpPlan_take (v := undef) dt1_g13 (Or.inr ⟨by kernel_rfl, rfl⟩) ?_
    simp only [Act.put, List.setIfInBounds_toArray, List.set_cons_zero, List.set_cons_succ]
    refine plan.wpPlan_take (v := undef) dt1_g14 (Or.inr ⟨by kernel_rfl, rfl⟩) ?_
    simp only [Act.put, List.setIfInBounds_toArray, List.set_cons_zero, List.set_cons_succ]
    refine plan.wpPlan_take (v := ?_) dt1_g15 (Or.inl ⟨by kernel_rfl, ?_⟩) ?_
    rotate_left
    · intro w hSw
      (try dsimp only at hSw)
      go_simp
      (try with_reducible rfl)
    simp only [Act.put, List.setIfInBounds_toArray, List.set_cons_zero, List.set_cons_succ]
    refine plan.wpPlan_take (v := ?_) dt1_g16 (Or.inl ⟨by kernel_rfl, ?_⟩) ?_
    rotate_left
    · intro w hSw
      (try dsimp only at hSw)
      go_simp
      (try with_reducible rfl)
    simp only [Act.put, List.setIfInBounds_toArray, List.set_cons_zero, List.set_cons_succ]
    refine plan.wpPlan_take (v := ?_) dt1_g17 (Or.inl ⟨by kernel_rfl, ?_⟩) ?_
    rotate_left
    · intro w hSw
      (try dsimp only at hSw)
      go_simp
      (try with_reducible rfl)
    simp only [Act.put, List.setIfInBounds_toArray, List.set_cons_zero, List.set_cons_succ]
    refine plan.wpPlan_take (v := ?_) dt1_g18 (Or.inl ⟨by kernel_rfl, ?_⟩) ?_
    rotate_left
    · intro w hSw
      (try dsimp only at hSw)
      go_simp
      (try with_reducible rfl)
    simp only [Act.put, List.setIfInBounds_toArray, List.set_cons_zero, List.set_cons_succ]
    refine plan.wpPlan_take (v := ?_) dt1_g19 (Or.inl ⟨by kernel_rfl, ?_⟩) ?_
    rotate_left
    · intro w hSw
      (try dsimp only at hSw)
      go_simp
      (try with_reducible rfl)
    simp only [Act.put, List.setIfInBounds_toArray, List.set_cons_zero, List.set_cons_succ]
    refine plan.wpPlan_take (v := ?_) dt1_g21 (Or.inl ⟨by kernel_rfl, ?_⟩) ?_
    rotate_left
    · intro w hSw
      (try dsimp only at hSw)
      go_simp
      (try with_reducible rfl)
    simp only [Act.put, List.setIfInBounds_toArray, List.set_cons_zero, List.set_cons_succ]
    refine plan.wpPlan_call dt1_g20 (fun K hK => ?_)
    rw [if_pos (by kernel_rfl)]
    go_simp
    (go_at_call 73; (with_reducible refine (C1.out _ _ (((H_a.out.below HB3.out).below HB4.out).below (Below.refl _ _).drew)).mono ?_); rintro e W5 ⟨rfl, hb⟩
     have HB5 := Lib.hid (nat.below_tr (Below.refl _ _).drew hb)
     have HR5 := Lib.hid HB5.out
     clear hb C1)
    (try dsimp only)
    refine hK.out _ _ ?_ (fun hHeld => ?_)
    · exact HOLD.out _ HR5.out
    clear hK K
    refine plan.wpPlan_call dt1_g22 (fun K hK => ?_)
    rw [if_pos (by kernel_rfl)]
    go_simp
    (go_at_call 76; (with_reducible refine (QT.out _ _ ((H_x.out.below HB4.out).below HR5.out)).mono ?_); rintro e W6 ⟨rfl, hb⟩
     have HB6 := Lib.hid hb
     have HR6 := Lib.hid (nat.below_tr HR5.out HB6.out)
     obtain ⟨d6_x_0, d6_x_1, d6_x_2⟩ := (M_x.out.below HR6.out)
     clear hb)
    (try dsimp only)
    refine hK.out _ _ ?_ (fun hHeld => ?_)
    · exact HOLD.out _ HR6.out
    clear hK K
    refine plan.wpPlan_take (v := ?_) dt1_g23 (Or.inl ⟨by kernel_rfl, ?_⟩) ?_
    rotate_left
    · intro w hSw
      (try dsimp only at hSw)
      go_simp
      (try with_reducible rfl)
    simp only [Act.put, List.setIfInBounds_toArray, List.set_cons_zero, List.set_cons_succ]
    refine plan.wpPlan_take (v := ?_) dt1_g24 (Or.inl ⟨by kernel_rfl, ?_⟩) ?_
    rotate_left
    · intro w hSw
      (try dsimp only at hSw)
      go_simp
      (try with_reducible rfl)
    simp only [Act.put, List.setIfInBounds_toArray, List.set_cons_zero, List.set_cons_succ]
    refine plan.wpPlan_take (v := ?_) dt1_g25 (Or.inl ⟨by kernel_rfl, ?_⟩) ?_
    rotate_left
    · intro w hSw
      (try dsimp only at hSw)
      go_simp
      (try with_reducible rfl)
    simp only [Act.put, List.setIfInBounds_toArray, List.set_cons_zero, List.set_cons_succ]
    refine plan.wpPlan_take (v := ?_) dt1_g26 (Or.inl ⟨by kernel_rfl, ?_⟩) ?_
    rotate_left
    · intro w hSw
      (try dsimp only at hSw)
      go_simp
      (try with_reducible rfl)
    simp only [Act.put, List.setIfInBounds_toArray, List.set_cons_zero, List.set_cons_succ]
    refine plan.wpPlan_take (v := ?_) dt1_g27 (Or.inl ⟨by kernel_rfl, ?_⟩) ?_
    rotate_left
    · intro w hSw
      (try dsimp only at hSw)
      go_simp
      (try with_reducible rfl)
    simp only [Act.put, List.setIfInBounds_toArray, List.set_cons_zero, List.set_cons_succ]
    refine plan.wpPlan_done ?_
    go_wp2
    skip
    all_goals (go_ret; exact ⟨rfl, (nat.below_tr (nat.below_tr (nat.below_tr (nat.below_tr (nat.below_tr HB1.out HB2.out) HB3.out) HB4.out) HB5.out) HB6.out)⟩)
  · have hll := HL.out
    have G1 := Lib.hid (fun W => dec.Get_bad l W (by omega) (fun neg n k hf => h ⟨neg, n, k, hf⟩))
    have G2 := Lib.hid (fun W => GetDec_no l W (by omega) (fun neg n k hf => h ⟨neg, n, k, hf⟩))
    generalize str l = sl at *
    clear h hll
    go_wp2_with (first
      | (go_at_call 78; (with_reducible refine (G1.out _).mono ?_); rintro e W2 ⟨rfl, hb⟩
         have HB2 := Lib.hid (nat.below_tr ((Below.refl _ _).alloc (Nat.le_refl _) _) hb)
         clear hb G1)
      | (go_at_call 79; (with_reducible refine (G2.out _).mono ?_); rintro e W3 ⟨rfl, hb⟩
         have HB3 := Lib.hid hb
         have HB4 := Lib.hid (show Below W3.heap.size W3 (W3.alloc (.cells #[.bool false, .slice none 0 0, .slice none 0 0] 86)) from (Below.refl _ _).alloc (Nat.le_refl _) _)
         have M_x := Lib.hid (cells3_new W3 (.bool false) (.slice none 0 0) (.slice none 0 0) 86)
         clear hb G2)
      | (fail "no arm"))
    obtain ⟨W4, hW4⟩ : ∃ W : World, W = (W3.alloc (.cells #[.bool false, .slice none 0 0, .slice none 0 0] 86)) := ⟨_, rfl⟩
    rw [← hW4] at HB4 M_x ⊢
    clear hW4
    have HOLD := Lib.hid (fun W (hW : Below W4.heap.size W4 W) => (show Below W4.heap.size W4 W ∧ W.cell? ⟨W3.heap.size, 0, none⟩ = some (.bool false) ∧ W.cell? ⟨W3.heap.size, 1, none⟩ = some (.slice none 0 0) ∧ W.cell? ⟨W3.heap.size, 2, none⟩ = some (.slice none 0 0) from ⟨hW, (M_x.out.below hW).1, (M_x.out.below hW).2.1, (M_x.out.below hW).2.2⟩))
    refine plan.region_plan (S := fun w' => Below W4.heap.size W4 w' ∧ w'.cell? ⟨W3.heap.size, 0, none⟩ = some (.bool false) ∧ w'.cell? ⟨W3.heap.size, 1, none⟩ = some (.slice none 0 0) ∧ w'.cell? ⟨W3.heap.size, 2, none⟩ = some (.slice none 0 0)) (ops := dt2_ops) (l := dt2_plan) (by kernel_rfl) dt2_sel dt2_len dt2_ok (fun _ _ d _ _ h => by cases d <;> exact h) ?_ (fun hHeld => ?_)
    · exact HOLD.out _ (Below.refl _ _).drew
    unfold dt2_plan
    refine plan.wpPlan_take (v := ?_) dt2_g0 (Or.inl ⟨by kernel_rfl, ?_⟩) ?_
    rotate_left
    · intro w hSw
      (try dsimp only at hSw)
      go_simp
      (try with_reducible rfl)
    simp only [Act.put, List.setIfInBounds_toArray, List.set_cons_zero, List.set_cons_succ]
    refine plan.wpPlan_take (v := ?_) dt2_g1 (Or.inl ⟨by kernel_rfl, ?_⟩) ?_
    rotate_left
    · intro w hSw
      (try dsimp only at hSw)
      go_simp
      (try with_reducible rfl)
    simp only [Act.put, List.setIfInBounds_toArray, List.set_cons_zero, List.set_cons_succ]
    refine plan.wpPlan_take (v := ?_) dt2_g2 (Or.inl ⟨by kernel_rfl, ?_⟩) ?_
    rotate_left
    · intro w hSw
      (try dsimp only at hSw)
      go_simp
      (try with_reducible rfl)
    simp only [Act.put, List.setIfInBounds_toArray, List.set_cons_zero, List.set_cons_succ]
    refine plan.wpPlan_take (v := ?_) dt2_g3 (Or.inl ⟨by kernel_rfl, ?_⟩) ?_
    rotate_left
    · intro w hSw
      (try dsimp only at hSw)
      go_simp
      (try with_reducible rfl)
    simp only [Act.put, List.setIfInBounds_toArray, List.set_cons_zero, List.set_cons_succ]
    refine plan.wpPlan_take (v := ?_) dt2_g4 (Or.inl ⟨by kernel_rfl, ?_⟩) ?_
    rotate_left
    · intro w hSw
      (try dsimp only at hSw)
      go_simp
      (try with_reducible rfl)
    simp only [Act.put, List.setIfInBounds_toArray, List.set_cons_zero, List.set_cons_succ]
    refine plan.wpPlan_take (v := ?_) dt2_g5 (Or.inl ⟨by kernel_rfl, ?_⟩) ?_
    rotate_left
    · intro w hSw
      (try dsimp only at hSw)
      go_simp
      (try with_reducible rfl)
    simp only [Act.put, List.setIfInBounds_toArray, List.set_cons_zero, List.set_cons_succ]
    refine plan.wpPlan_take (v := ?_) dt2_g6 (Or.inl ⟨by kernel_rfl, ?_⟩) ?_
    rotate_left
    · intro w hSw
      (try dsimp only at hSw)
      go_simp
      (try with_reducible rfl)
    simp only [Act.put, List.setIfInBounds_toArray, List.set_cons_zero, List.set_cons_succ]
    refine plan.wpPlan_take (v := ?_) dt2_g7 (Or.inl ⟨by kernel_rfl, ?_⟩) ?_
    rotate_left
    · intro w hSw
      (try dsimp only at hSw)
      go_simp
      (try with_reducible rfl)
    simp only [Act.put, List.setIfInBounds_toArray, List.set_cons_zero, List.set_cons_succ]
    refine plan.wpPlan_take (v := ?_) dt2_g8 (Or.inl ⟨by kernel_rfl, ?_⟩) ?_
    rotate_left
    · intro w hSw
      (try dsimp only at hSw)
      go_simp
      (try with_reducible rfl)
    simp only [Act.put, List.setIfInBounds_toArray, List.set_cons_zero, List.set_cons_succ]
    refine plan.wpPlan_take (v := ?_) dt2_g9 (Or.inl ⟨by kernel_rfl, ?_⟩) ?_
    rotate_left
    · intro w hSw
      (try dsimp only at hSw)
      go_simp
      (try with_reducible rfl)
    simp only [Act.put, List.setIfInBounds_toArray, List.set_cons_zero, List.set_cons_succ]
    refine plan.wpPlan_take (v := ?_) dt2_g10 (Or.inl ⟨by kernel_rfl, ?_⟩) ?_
    rotate_left
    · intro w hSw
      (try dsimp only at hSw)
      go_simp
      (try with_reducible rfl)
    simp only [Act.put, List.setIfInBounds_toArray, List.set_cons_zero, List.set_cons_succ]
    refine plan.wpPlan_take (v := ?_) dt2_g11 (Or.inl ⟨by kernel_rfl, ?_⟩) ?_
    rotate_left
    · intro w hSw
      (try dsimp only at hSw)
      go_simp
      (try with_reducible rfl)
    simp only [Act.put, List.setIfInBounds_toArray, List.set_cons_zero, List.set_cons_succ]
    refine plan.wpPlan_take (v := ?_) dt2_g12 (Or.inl ⟨by kernel_rfl, ?_⟩) ?_
    rotate_left
    · intro w hSw
      (try dsimp only at hSw)
      go_simp
      (try with_reducible rfl)
    simp only [Act.put, List.setIfInBounds_toArray, List.set_cons_zero, List.set_cons_succ]
    refine plan.wpPlan_take (v := ?_) dt2_g13 (Or.inl ⟨by kernel_rfl, ?_⟩) ?_
    rotate_left
    · intro w hSw
      (try dsimp only at hSw)
      go_simp
      (try with_reducible rfl)
    simp only [Act.put, List.setIfInBounds_toArray, List.set_cons_zero, List.set_cons_succ]
    refine plan.wpPlan_take (v := ?_) dt2_g14 (Or.inl ⟨by kernel_rfl, ?_⟩) ?_
    rotate_left
    · intro w hSw
      (try dsimp only at hSw)
      go_simp
      (try with_reducible rfl)
    simp only [Act.put, List.setIfInBounds_toArray, List.set_cons_zero, List.set_cons_succ]
    refine plan.wpPlan_take (v := ?_) dt2_g15 (Or.inl ⟨by kernel_rfl, ?_⟩) ?_
    rotate_left
    · intro w hSw
      (try dsimp only at hSw)
      go_simp
      (try with_reducible rfl)
    simp only [Act.put, List.setIfInBounds_toArray, List.set_cons_zero, List.set_cons_succ]
    refine plan.wpPlan_take (v := ?_) dt2_g16 (Or.inl ⟨by kernel_rfl, ?_⟩) ?_
    rotate_left
    · intro w hSw
      (try dsimp only at hSw)
      go_simp
      (try with_reducible rfl)
    simp only [Act.put, List.setIfInBounds_toArray, List.set_cons_zero, List.set_cons_succ]
    refine plan.wpPlan_take (v := undef) dt2_g17 (Or.inr ⟨by kernel_rfl, rfl⟩) ?_
    simp only [Act.put, List.setIfInBounds_toArray, List.set_cons_zero, List.set_cons_succ]
    refine plan.wpPlan_take (v := undef) dt2_g18 (Or.inr ⟨by kernel_rfl, rfl⟩) ?_
    simp only [Act.put, List.setIfInBounds_toArray, List.set_cons_zero, List.set_cons_succ]
    refine plan.wpPlan_take (v := undef) dt2_g19 (Or.inr ⟨by kernel_rfl, rfl⟩) ?_
    simp only [Act.put, List.setIfInBounds_toArray, List.set_cons_zero, List.set_cons_succ]
    refine plan.wpPlan_take (v := undef) dt2_g20 (Or.inr ⟨by kernel_rfl, rfl⟩) ?_
    simp only [Act.put, List.setIfInBounds_toArray, List.set_cons_zero, List.set_cons_succ]
    refine plan.wpPlan_take (v := undef) dt2_g21 (Or.inr ⟨by kernel_rfl, rfl⟩) ?_
    simp only [Act.put, List.setIfInBounds_toArray, List.set_cons_zero, List.set_cons_succ]
    refine plan.wpPlan_take (v := undef) dt2_g22 (Or.inr ⟨by kernel_rfl, rfl⟩) ?_
    simp only [Act.put, List.setIfInBounds_toArray, List.set_cons_zero, List.set_cons_succ]
    refine plan.wpPlan_take (v := undef) dt2_g23 (Or.inr ⟨by kernel_rfl, rfl⟩) ?_
    simp only [Act.put, List.setIfInBounds_toArray, List.set_cons_zero, List.set_cons_succ]
    refine plan.wpPlan_take (v := undef) dt2_g24 (Or.inr ⟨by kernel_rfl, rfl⟩) ?_
    simp only [Act.put, List.setIfInBounds_toArray, List.set_cons_zero, List.set_cons_succ]
    refine plan.wpPlan_take (v := ?_) dt2_g25 (Or.inl ⟨by kernel_rfl, ?_⟩) ?_
    rotate_left
    · intro w hSw
      (try dsimp only at hSw)
      go_simp
      (try with_reducible rfl)
    simp only [Act.put, List.setIfInBounds_toArray, List.set_cons_zero, List.set_cons_succ]
    refine plan.wpPlan_take (v := ?_) dt2_g26 (Or.inl ⟨by kernel_rfl, ?_⟩) ?_
    rotate_left
    · intro w hSw
      (try dsimp only at hSw)
      go_simp
      (try with_reducible rfl)
    simp only [Act.put, List.setIfInBounds_toArray, List.set_cons_zero, List.set_cons_succ]
    refine plan.wpPlan_take (v := ?_) dt2_g27 (Or.inl ⟨by kernel_rfl, ?_⟩) ?_
    rotate_left
    · intro w hSw
      (try dsimp only at hSw)
      go_simp
      (try with_reducible rfl)
    simp only [Act.put, List.setIfInBounds_toArray, List.set_cons_zero, List.set_cons_succ]
    refine plan.wpPlan_done ?_
    go_wp2
    skip
    all_goals (go_ret; exact ⟨rfl, nat.below_tr (nat.below_tr (nat.below_tr (nat.below_tr HB1.out HB2.out) HB3.out) HB4.out) (Below.refl _ _).drew⟩)
end Go.Proofs.YtfpooimjjpamoaaGreatDoor.law2
