/-
  NumAll answers true for every two texts, two signs and a number. Conditions: begun answers true; texts of at most 2^62 bytes.
-/
import Derived.Test.YtfpooimjjpamoaaGreatDoorM37
namespace Go.Proofs.YtfpooimjjpamoaaGreatDoor.law2
open Go.RowKit Go.Proofs.YtfpooimjjpamoaaGreatDoor.nat
open Go.Proofs.YtfpooimjjpamoaaGreatDoor.ref (str)
theorem small_both (z : Int) : ∃ (v : Int) (b : Bool), (∀ (a : Value) (w : World), num.IsZ w a z → Calls Tryz.prog 58 #[a] w fun e w' => e = .returned (.tuple #[.int .i64 v, .bool b]) ∧ w = w') ∧
    (∀ (a : Value) (w : World), ref.IsI w a z → Calls Tryz.prog 59 #[a] w fun e w' => e = .returned (.tuple #[.int .i64 v, .bool b]) ∧ Below w.heap.size w w') := by
  rcases (show (-9223372036854775808 ≤ z ∧ z < 9223372036854775808) ∨ (z < -9223372036854775808 ∨ 9223372036854775808 ≤ z) by omega) with h | h
  · exact ⟨z, true, fun a w ha => num.Small_in a z w ha h.1 h.2, fun a w ha => ref.ISmall_in a z w ha h.1 h.2⟩
  · exact ⟨0, false, fun a w ha => num.Small_out a z w ha h, fun a w ha => ref.ISmall_out a z w ha h⟩
def na_ops : Array Oper := #[
  { dst := some 114, op := Go.Op.move (Go.Operand.tmp 12), type := 55, pos := "law.go:185", after := #[], guard := none },
  { dst := some 115, op := Go.Op.call { callee := Go.Callee.value (Go.Operand.func 52), args := #[Go.Operand.tmp 114], argTypes := #[55] }, type := 9, pos := "law.go:185", after := #[{ on := 0, ground := Go.Ground.data }], guard := none },
  { dst := some 116, op := Go.Op.load 57 (Go.Operand.tmp 13), type := 57, pos := "law.go:185", after := #[], guard := none },
  { dst := some 117, op := Go.Op.call { callee := Go.Callee.value (Go.Operand.func 53), args := #[Go.Operand.tmp 116], argTypes := #[57] }, type := 9, pos := "law.go:185", after := #[{ on := 2, ground := Go.Ground.data }, { on := 1, ground := Go.Ground.chain }], guard := none },
  { dst := some 118, op := Go.Op.binOp Go.BinOp.eql 9 (Go.Operand.tmp 115) (Go.Operand.tmp 117) 9, type := 4, pos := "law.go:185", after := #[{ on := 1, ground := Go.Ground.data }, { on := 3, ground := Go.Ground.data }], guard := none },
  { dst := some 119, op := Go.Op.move (Go.Operand.tmp 118), type := 4, pos := "law.go:185", after := #[{ on := 4, ground := Go.Ground.data }, { on := 3, ground := Go.Ground.chain }], guard := none },
  { dst := some 120, op := Go.Op.move (Go.Operand.tmp 12), type := 55, pos := "law.go:185", after := #[{ on := 5, ground := Go.Ground.guard }], guard := some (5, true) },
  { dst := some 121, op := Go.Op.move (Go.Operand.tmp 14), type := 55, pos := "law.go:185", after := #[{ on := 5, ground := Go.Ground.guard }], guard := some (5, true) },
  { dst := some 122, op := Go.Op.call { callee := Go.Callee.value (Go.Operand.func 55), args := #[Go.Operand.tmp 120, Go.Operand.tmp 121], argTypes := #[55, 55] }, type := 55, pos := "law.go:185", after := #[{ on := 6, ground := Go.Ground.data }, { on := 7, ground := Go.Ground.data }, { on := 5, ground := Go.Ground.chain }, { on := 5, ground := Go.Ground.guard }], guard := some (5, true) },
  { dst := some 123, op := Go.Op.call { callee := Go.Callee.value (Go.Operand.func 52), args := #[Go.Operand.tmp 122], argTypes := #[55] }, type := 9, pos := "law.go:185", after := #[{ on := 8, ground := Go.Ground.data }, { on := 8, ground := Go.Ground.chain }, { on := 5, ground := Go.Ground.guard }], guard := some (5, true) },
  { dst := some 124, op := Go.Op.load 57 (Go.Operand.tmp 13), type := 57, pos := "law.go:185", after := #[{ on := 5, ground := Go.Ground.guard }], guard := some (5, true) },
  { dst := some 125, op := Go.Op.load 57 (Go.Operand.tmp 15), type := 57, pos := "law.go:185", after := #[{ on := 5, ground := Go.Ground.guard }], guard := some (5, true) },
  { dst := some 126, op := Go.Op.call { callee := Go.Callee.value (Go.Operand.func 60), args := #[Go.Operand.tmp 124, Go.Operand.tmp 125], argTypes := #[57, 57] }, type := 57, pos := "law.go:185", after := #[{ on := 10, ground := Go.Ground.data }, { on := 11, ground := Go.Ground.data }, { on := 9, ground := Go.Ground.chain }, { on := 5, ground := Go.Ground.guard }], guard := some (5, true) },
  { dst := some 127, op := Go.Op.call { callee := Go.Callee.value (Go.Operand.func 53), args := #[Go.Operand.tmp 126], argTypes := #[57] }, type := 9, pos := "law.go:185", after := #[{ on := 12, ground := Go.Ground.data }, { on := 12, ground := Go.Ground.chain }, { on := 5, ground := Go.Ground.guard }], guard := some (5, true) },
  { dst := some 128, op := Go.Op.binOp Go.BinOp.eql 9 (Go.Operand.tmp 123) (Go.Operand.tmp 127) 9, type := 4, pos := "law.go:185", after := #[{ on := 9, ground := Go.Ground.data }, { on := 13, ground := Go.Ground.data }, { on := 5, ground := Go.Ground.guard }], guard := some (5, true) },
  { dst := some 129, op := Go.Op.pick (Go.Operand.tmp 119) (Go.Operand.tmp 128) (Go.Operand.const (Go.Value.bool false)), type := 4, pos := "law.go:185", after := #[{ on := 5, ground := Go.Ground.data }, { on := 14, ground := Go.Ground.data }], guard := none },
  { dst := some 130, op := Go.Op.move (Go.Operand.tmp 129), type := 4, pos := "law.go:185", after := #[{ on := 15, ground := Go.Ground.data }, { on := 13, ground := Go.Ground.chain }], guard := none },
  { dst := some 131, op := Go.Op.move (Go.Operand.tmp 12), type := 55, pos := "law.go:185", after := #[{ on := 16, ground := Go.Ground.guard }], guard := some (16, true) },
  { dst := some 132, op := Go.Op.move (Go.Operand.tmp 14), type := 55, pos := "law.go:185", after := #[{ on := 16, ground := Go.Ground.guard }], guard := some (16, true) },
  { dst := some 133, op := Go.Op.call { callee := Go.Callee.value (Go.Operand.func 61), args := #[Go.Operand.tmp 131, Go.Operand.tmp 132], argTypes := #[55, 55] }, type := 55, pos := "law.go:185", after := #[{ on := 17, ground := Go.Ground.data }, { on := 18, ground := Go.Ground.data }, { on := 16, ground := Go.Ground.chain }, { on := 16, ground := Go.Ground.guard }], guard := some (16, true) },
  { dst := some 134, op := Go.Op.call { callee := Go.Callee.value (Go.Operand.func 52), args := #[Go.Operand.tmp 133], argTypes := #[55] }, type := 9, pos := "law.go:185", after := #[{ on := 19, ground := Go.Ground.data }, { on := 19, ground := Go.Ground.chain }, { on := 16, ground := Go.Ground.guard }], guard := some (16, true) },
  { dst := some 135, op := Go.Op.load 57 (Go.Operand.tmp 13), type := 57, pos := "law.go:185", after := #[{ on := 16, ground := Go.Ground.guard }], guard := some (16, true) },
  { dst := some 136, op := Go.Op.load 57 (Go.Operand.tmp 15), type := 57, pos := "law.go:185", after := #[{ on := 16, ground := Go.Ground.guard }], guard := some (16, true) },
  { dst := some 137, op := Go.Op.call { callee := Go.Callee.value (Go.Operand.func 62), args := #[Go.Operand.tmp 136], argTypes := #[57] }, type := 57, pos := "law.go:185", after := #[{ on := 22, ground := Go.Ground.data }, { on := 20, ground := Go.Ground.chain }, { on := 16, ground := Go.Ground.guard }], guard := some (16, true) },
  { dst := some 138, op := Go.Op.call { callee := Go.Callee.value (Go.Operand.func 60), args := #[Go.Operand.tmp 135, Go.Operand.tmp 137], argTypes := #[57, 57] }, type := 57, pos := "law.go:185", after := #[{ on := 21, ground := Go.Ground.data }, { on := 23, ground := Go.Ground.data }, { on := 23, ground := Go.Ground.chain }, { on := 16, ground := Go.Ground.guard }], guard := some (16, true) },
  { dst := some 139, op := Go.Op.call { callee := Go.Callee.value (Go.Operand.func 53), args := #[Go.Operand.tmp 138], argTypes := #[57] }, type := 9, pos := "law.go:185", after := #[{ on := 24, ground := Go.Ground.data }, { on := 24, ground := Go.Ground.chain }, { on := 16, ground := Go.Ground.guard }], guard := some (16, true) },
  { dst := some 140, op := Go.Op.binOp Go.BinOp.eql 9 (Go.Operand.tmp 134) (Go.Operand.tmp 139) 9, type := 4, pos := "law.go:185", after := #[{ on := 20, ground := Go.Ground.data }, { on := 25, ground := Go.Ground.data }, { on := 16, ground := Go.Ground.guard }], guard := some (16, true) },
  { dst := some 141, op := Go.Op.pick (Go.Operand.tmp 130) (Go.Operand.tmp 140) (Go.Operand.const (Go.Value.bool false)), type := 4, pos := "law.go:185", after := #[{ on := 16, ground := Go.Ground.data }, { on := 26, ground := Go.Ground.data }], guard := none },
  { dst := some 142, op := Go.Op.move (Go.Operand.tmp 141), type := 4, pos := "law.go:185", after := #[{ on := 27, ground := Go.Ground.data }, { on := 25, ground := Go.Ground.chain }], guard := none },
  { dst := some 143, op := Go.Op.move (Go.Operand.tmp 12), type := 55, pos := "law.go:185", after := #[{ on := 28, ground := Go.Ground.guard }], guard := some (28, true) },
  { dst := some 144, op := Go.Op.move (Go.Operand.tmp 14), type := 55, pos := "law.go:185", after := #[{ on := 28, ground := Go.Ground.guard }], guard := some (28, true) },
  { dst := some 145, op := Go.Op.call { callee := Go.Callee.value (Go.Operand.func 54), args := #[Go.Operand.tmp 143, Go.Operand.tmp 144], argTypes := #[55, 55] }, type := 55, pos := "law.go:185", after := #[{ on := 29, ground := Go.Ground.data }, { on := 30, ground := Go.Ground.data }, { on := 28, ground := Go.Ground.chain }, { on := 28, ground := Go.Ground.guard }], guard := some (28, true) },
  { dst := some 146, op := Go.Op.call { callee := Go.Callee.value (Go.Operand.func 52), args := #[Go.Operand.tmp 145], argTypes := #[55] }, type := 9, pos := "law.go:185", after := #[{ on := 31, ground := Go.Ground.data }, { on := 31, ground := Go.Ground.chain }, { on := 28, ground := Go.Ground.guard }], guard := some (28, true) },
  { dst := some 147, op := Go.Op.load 57 (Go.Operand.tmp 13), type := 57, pos := "law.go:185", after := #[{ on := 28, ground := Go.Ground.guard }], guard := some (28, true) },
  { dst := some 148, op := Go.Op.load 57 (Go.Operand.tmp 15), type := 57, pos := "law.go:185", after := #[{ on := 28, ground := Go.Ground.guard }], guard := some (28, true) },
  { dst := some 149, op := Go.Op.call { callee := Go.Callee.value (Go.Operand.func 63), args := #[Go.Operand.tmp 147, Go.Operand.tmp 148], argTypes := #[57, 57] }, type := 57, pos := "law.go:185", after := #[{ on := 33, ground := Go.Ground.data }, { on := 34, ground := Go.Ground.data }, { on := 32, ground := Go.Ground.chain }, { on := 28, ground := Go.Ground.guard }], guard := some (28, true) },
  { dst := some 150, op := Go.Op.call { callee := Go.Callee.value (Go.Operand.func 53), args := #[Go.Operand.tmp 149], argTypes := #[57] }, type := 9, pos := "law.go:185", after := #[{ on := 35, ground := Go.Ground.data }, { on := 35, ground := Go.Ground.chain }, { on := 28, ground := Go.Ground.guard }], guard := some (28, true) },
  { dst := some 151, op := Go.Op.binOp Go.BinOp.eql 9 (Go.Operand.tmp 146) (Go.Operand.tmp 150) 9, type := 4, pos := "law.go:185", after := #[{ on := 32, ground := Go.Ground.data }, { on := 36, ground := Go.Ground.data }, { on := 28, ground := Go.Ground.guard }], guard := some (28, true) },
  { dst := some 152, op := Go.Op.pick (Go.Operand.tmp 142) (Go.Operand.tmp 151) (Go.Operand.const (Go.Value.bool false)), type := 4, pos := "law.go:185", after := #[{ on := 28, ground := Go.Ground.data }, { on := 37, ground := Go.Ground.data }], guard := none },
  { dst := some 153, op := Go.Op.move (Go.Operand.tmp 152), type := 4, pos := "law.go:185", after := #[{ on := 38, ground := Go.Ground.data }, { on := 36, ground := Go.Ground.chain }], guard := none },
  { dst := some 154, op := Go.Op.move (Go.Operand.tmp 12), type := 55, pos := "law.go:185", after := #[{ on := 39, ground := Go.Ground.guard }], guard := some (39, true) },
  { dst := some 155, op := Go.Op.move (Go.Operand.tmp 14), type := 55, pos := "law.go:185", after := #[{ on := 39, ground := Go.Ground.guard }], guard := some (39, true) },
  { dst := some 156, op := Go.Op.call { callee := Go.Callee.value (Go.Operand.func 56), args := #[Go.Operand.tmp 154, Go.Operand.tmp 155], argTypes := #[55, 55] }, type := 3, pos := "law.go:185", after := #[{ on := 40, ground := Go.Ground.data }, { on := 41, ground := Go.Ground.data }, { on := 39, ground := Go.Ground.chain }, { on := 39, ground := Go.Ground.guard }], guard := some (39, true) },
  { dst := some 157, op := Go.Op.load 57 (Go.Operand.tmp 13), type := 57, pos := "law.go:185", after := #[{ on := 39, ground := Go.Ground.guard }], guard := some (39, true) },
  { dst := some 158, op := Go.Op.load 57 (Go.Operand.tmp 15), type := 57, pos := "law.go:185", after := #[{ on := 39, ground := Go.Ground.guard }], guard := some (39, true) },
  { dst := some 159, op := Go.Op.call { callee := Go.Callee.value (Go.Operand.func 64), args := #[Go.Operand.tmp 157, Go.Operand.tmp 158], argTypes := #[57, 57] }, type := 3, pos := "law.go:185", after := #[{ on := 43, ground := Go.Ground.data }, { on := 44, ground := Go.Ground.data }, { on := 42, ground := Go.Ground.chain }, { on := 39, ground := Go.Ground.guard }], guard := some (39, true) },
  { dst := some 160, op := Go.Op.binOp Go.BinOp.eql 3 (Go.Operand.tmp 156) (Go.Operand.tmp 159) 3, type := 4, pos := "law.go:185", after := #[{ on := 42, ground := Go.Ground.data }, { on := 45, ground := Go.Ground.data }, { on := 39, ground := Go.Ground.guard }], guard := some (39, true) },
  { dst := some 161, op := Go.Op.pick (Go.Operand.tmp 153) (Go.Operand.tmp 160) (Go.Operand.const (Go.Value.bool false)), type := 4, pos := "law.go:185", after := #[{ on := 39, ground := Go.Ground.data }, { on := 46, ground := Go.Ground.data }], guard := none },
  { dst := some 162, op := Go.Op.move (Go.Operand.tmp 161), type := 4, pos := "law.go:185", after := #[{ on := 47, ground := Go.Ground.data }, { on := 45, ground := Go.Ground.chain }], guard := none },
  { dst := some 163, op := Go.Op.move (Go.Operand.tmp 12), type := 55, pos := "law.go:185", after := #[{ on := 48, ground := Go.Ground.guard }], guard := some (48, true) },
  { dst := some 164, op := Go.Op.call { callee := Go.Callee.value (Go.Operand.func 65), args := #[Go.Operand.tmp 163], argTypes := #[55] }, type := 55, pos := "law.go:185", after := #[{ on := 49, ground := Go.Ground.data }, { on := 48, ground := Go.Ground.chain }, { on := 48, ground := Go.Ground.guard }], guard := some (48, true) },
  { dst := some 165, op := Go.Op.call { callee := Go.Callee.value (Go.Operand.func 52), args := #[Go.Operand.tmp 164], argTypes := #[55] }, type := 9, pos := "law.go:185", after := #[{ on := 50, ground := Go.Ground.data }, { on := 50, ground := Go.Ground.chain }, { on := 48, ground := Go.Ground.guard }], guard := some (48, true) },
  { dst := some 166, op := Go.Op.load 57 (Go.Operand.tmp 13), type := 57, pos := "law.go:185", after := #[{ on := 48, ground := Go.Ground.guard }], guard := some (48, true) },
  { dst := some 167, op := Go.Op.call { callee := Go.Callee.value (Go.Operand.func 62), args := #[Go.Operand.tmp 166], argTypes := #[57] }, type := 57, pos := "law.go:185", after := #[{ on := 52, ground := Go.Ground.data }, { on := 51, ground := Go.Ground.chain }, { on := 48, ground := Go.Ground.guard }], guard := some (48, true) },
  { dst := some 168, op := Go.Op.call { callee := Go.Callee.value (Go.Operand.func 53), args := #[Go.Operand.tmp 167], argTypes := #[57] }, type := 9, pos := "law.go:185", after := #[{ on := 53, ground := Go.Ground.data }, { on := 53, ground := Go.Ground.chain }, { on := 48, ground := Go.Ground.guard }], guard := some (48, true) },
  { dst := some 169, op := Go.Op.binOp Go.BinOp.eql 9 (Go.Operand.tmp 165) (Go.Operand.tmp 168) 9, type := 4, pos := "law.go:185", after := #[{ on := 51, ground := Go.Ground.data }, { on := 54, ground := Go.Ground.data }, { on := 48, ground := Go.Ground.guard }], guard := some (48, true) },
  { dst := some 170, op := Go.Op.pick (Go.Operand.tmp 162) (Go.Operand.tmp 169) (Go.Operand.const (Go.Value.bool false)), type := 4, pos := "law.go:185", after := #[{ on := 48, ground := Go.Ground.data }, { on := 55, ground := Go.Ground.data }], guard := none },
  { dst := some 171, op := Go.Op.move (Go.Operand.tmp 170), type := 4, pos := "law.go:185", after := #[{ on := 56, ground := Go.Ground.data }, { on := 54, ground := Go.Ground.chain }], guard := none },
  { dst := some 172, op := Go.Op.move (Go.Operand.tmp 12), type := 55, pos := "law.go:185", after := #[{ on := 57, ground := Go.Ground.guard }], guard := some (57, true) },
  { dst := some 173, op := Go.Op.call { callee := Go.Callee.value (Go.Operand.func 66), args := #[Go.Operand.tmp 172], argTypes := #[55] }, type := 23, pos := "law.go:185", after := #[{ on := 58, ground := Go.Ground.data }, { on := 57, ground := Go.Ground.chain }, { on := 57, ground := Go.Ground.guard }], guard := some (57, true) },
  { dst := some 174, op := Go.Op.call { callee := Go.Callee.value (Go.Operand.func 30), args := #[Go.Operand.tmp 173], argTypes := #[23] }, type := 9, pos := "law.go:185", after := #[{ on := 59, ground := Go.Ground.data }, { on := 59, ground := Go.Ground.chain }, { on := 57, ground := Go.Ground.guard }], guard := some (57, true) },
  { dst := some 175, op := Go.Op.fieldAddr 57 (Go.Operand.tmp 13) 1, type := 0, pos := "law.go:185", after := #[{ on := 57, ground := Go.Ground.guard }], guard := some (57, true) },
  { dst := some 176, op := Go.Op.load 25 (Go.Operand.tmp 175), type := 25, pos := "law.go:185", after := #[{ on := 61, ground := Go.Ground.data }, { on := 57, ground := Go.Ground.guard }], guard := some (57, true) },
  { dst := some 177, op := Go.Op.call { callee := Go.Callee.value (Go.Operand.func 32), args := #[Go.Operand.tmp 176], argTypes := #[25] }, type := 9, pos := "law.go:185", after := #[{ on := 62, ground := Go.Ground.data }, { on := 60, ground := Go.Ground.chain }, { on := 57, ground := Go.Ground.guard }], guard := some (57, true) },
  { dst := some 178, op := Go.Op.binOp Go.BinOp.eql 9 (Go.Operand.tmp 174) (Go.Operand.tmp 177) 9, type := 4, pos := "law.go:185", after := #[{ on := 60, ground := Go.Ground.data }, { on := 63, ground := Go.Ground.data }, { on := 57, ground := Go.Ground.guard }], guard := some (57, true) },
  { dst := some 179, op := Go.Op.pick (Go.Operand.tmp 171) (Go.Operand.tmp 178) (Go.Operand.const (Go.Value.bool false)), type := 4, pos := "law.go:185", after := #[{ on := 57, ground := Go.Ground.data }, { on := 64, ground := Go.Ground.data }], guard := none },
  { dst := some 180, op := Go.Op.move (Go.Operand.tmp 179), type := 4, pos := "law.go:185", after := #[{ on := 65, ground := Go.Ground.data }, { on := 63, ground := Go.Ground.chain }], guard := none },
  { dst := some 181, op := Go.Op.move (Go.Operand.tmp 12), type := 55, pos := "law.go:185", after := #[{ on := 66, ground := Go.Ground.guard }], guard := some (66, true) },
  { dst := some 182, op := Go.Op.call { callee := Go.Callee.value (Go.Operand.func 67), args := #[Go.Operand.tmp 181], argTypes := #[55] }, type := 3, pos := "law.go:185", after := #[{ on := 67, ground := Go.Ground.data }, { on := 66, ground := Go.Ground.chain }, { on := 66, ground := Go.Ground.guard }], guard := some (66, true) },
  { dst := some 183, op := Go.Op.load 57 (Go.Operand.tmp 13), type := 57, pos := "law.go:185", after := #[{ on := 66, ground := Go.Ground.guard }], guard := some (66, true) },
  { dst := some 184, op := Go.Op.build 57 #[], type := 57, pos := "law.go:185", after := #[{ on := 66, ground := Go.Ground.guard }], guard := some (66, true) },
  { dst := some 185, op := Go.Op.call { callee := Go.Callee.value (Go.Operand.func 64), args := #[Go.Operand.tmp 183, Go.Operand.tmp 184], argTypes := #[57, 57] }, type := 3, pos := "law.go:185", after := #[{ on := 69, ground := Go.Ground.data }, { on := 70, ground := Go.Ground.data }, { on := 68, ground := Go.Ground.chain }, { on := 66, ground := Go.Ground.guard }], guard := some (66, true) },
  { dst := some 186, op := Go.Op.binOp Go.BinOp.eql 3 (Go.Operand.tmp 182) (Go.Operand.tmp 185) 3, type := 4, pos := "law.go:185", after := #[{ on := 68, ground := Go.Ground.data }, { on := 71, ground := Go.Ground.data }, { on := 66, ground := Go.Ground.guard }], guard := some (66, true) },
  { dst := some 187, op := Go.Op.pick (Go.Operand.tmp 180) (Go.Operand.tmp 186) (Go.Operand.const (Go.Value.bool false)), type := 4, pos := "law.go:185", after := #[{ on := 66, ground := Go.Ground.data }, { on := 72, ground := Go.Ground.data }], guard := none },
  { dst := some 188, op := Go.Op.move (Go.Operand.tmp 187), type := 4, pos := "law.go:185", after := #[{ on := 73, ground := Go.Ground.data }, { on := 71, ground := Go.Ground.chain }], guard := none },
  { dst := some 189, op := Go.Op.move (Go.Operand.tmp 23), type := 4, pos := "law.go:185", after := #[{ on := 74, ground := Go.Ground.guard }], guard := some (74, true) },
  { dst := some 190, op := Go.Op.pick (Go.Operand.tmp 188) (Go.Operand.tmp 189) (Go.Operand.const (Go.Value.bool false)), type := 4, pos := "law.go:185", after := #[{ on := 74, ground := Go.Ground.data }, { on := 75, ground := Go.Ground.data }], guard := none },
  { dst := some 191, op := Go.Op.move (Go.Operand.tmp 190), type := 4, pos := "law.go:185", after := #[{ on := 76, ground := Go.Ground.data }, { on := 74, ground := Go.Ground.chain }], guard := none },
  { dst := some 192, op := Go.Op.move (Go.Operand.tmp 22), type := 2, pos := "law.go:185", after := #[{ on := 77, ground := Go.Ground.guard }], guard := some (77, true) },
  { dst := some 193, op := Go.Op.move (Go.Operand.tmp 4), type := 2, pos := "law.go:185", after := #[{ on := 77, ground := Go.Ground.guard }], guard := some (77, true) },
  { dst := some 194, op := Go.Op.binOp Go.BinOp.eql 2 (Go.Operand.tmp 192) (Go.Operand.tmp 193) 2, type := 4, pos := "law.go:185", after := #[{ on := 78, ground := Go.Ground.data }, { on := 79, ground := Go.Ground.data }, { on := 77, ground := Go.Ground.guard }], guard := some (77, true) },
  { dst := some 195, op := Go.Op.pick (Go.Operand.tmp 191) (Go.Operand.tmp 194) (Go.Operand.const (Go.Value.bool false)), type := 4, pos := "law.go:185", after := #[{ on := 77, ground := Go.Ground.data }, { on := 80, ground := Go.Ground.data }], guard := none },
  { dst := some 196, op := Go.Op.move (Go.Operand.tmp 195), type := 4, pos := "law.go:185", after := #[{ on := 81, ground := Go.Ground.data }, { on := 77, ground := Go.Ground.chain }], guard := none },
  { dst := some 197, op := Go.Op.move (Go.Operand.tmp 21), type := 55, pos := "law.go:185", after := #[{ on := 82, ground := Go.Ground.guard }], guard := some (82, true) },
  { dst := some 198, op := Go.Op.call { callee := Go.Callee.value (Go.Operand.func 52), args := #[Go.Operand.tmp 197], argTypes := #[55] }, type := 9, pos := "law.go:185", after := #[{ on := 83, ground := Go.Ground.data }, { on := 82, ground := Go.Ground.chain }, { on := 82, ground := Go.Ground.guard }], guard := some (82, true) },
  { dst := some 199, op := Go.Op.move (Go.Operand.tmp 4), type := 2, pos := "law.go:185", after := #[{ on := 82, ground := Go.Ground.guard }], guard := some (82, true) },
  { dst := some 200, op := Go.Op.call { callee := Go.Callee.value (Go.Operand.func 68), args := #[Go.Operand.tmp 199], argTypes := #[2] }, type := 57, pos := "law.go:185", after := #[{ on := 85, ground := Go.Ground.data }, { on := 84, ground := Go.Ground.chain }, { on := 82, ground := Go.Ground.guard }], guard := some (82, true) },
  { dst := some 201, op := Go.Op.call { callee := Go.Callee.value (Go.Operand.func 53), args := #[Go.Operand.tmp 200], argTypes := #[57] }, type := 9, pos := "law.go:185", after := #[{ on := 86, ground := Go.Ground.data }, { on := 86, ground := Go.Ground.chain }, { on := 82, ground := Go.Ground.guard }], guard := some (82, true) },
  { dst := some 202, op := Go.Op.binOp Go.BinOp.eql 9 (Go.Operand.tmp 198) (Go.Operand.tmp 201) 9, type := 4, pos := "law.go:185", after := #[{ on := 84, ground := Go.Ground.data }, { on := 87, ground := Go.Ground.data }, { on := 82, ground := Go.Ground.guard }], guard := some (82, true) },
  { dst := some 203, op := Go.Op.pick (Go.Operand.tmp 196) (Go.Operand.tmp 202) (Go.Operand.const (Go.Value.bool false)), type := 4, pos := "law.go:185", after := #[{ on := 82, ground := Go.Ground.data }, { on := 88, ground := Go.Ground.data }], guard := none },
  { dst := some 204, op := Go.Op.move (Go.Operand.tmp 203), type := 4, pos := "law.go:185", after := #[{ on := 89, ground := Go.Ground.data }, { on := 87, ground := Go.Ground.chain }], guard := none },
  { dst := some 205, op := Go.Op.move (Go.Operand.tmp 25), type := 4, pos := "law.go:185", after := #[{ on := 90, ground := Go.Ground.guard }], guard := some (90, true) },
  { dst := some 206, op := Go.Op.move (Go.Operand.tmp 27), type := 4, pos := "law.go:185", after := #[{ on := 90, ground := Go.Ground.guard }], guard := some (90, true) },
  { dst := some 207, op := Go.Op.binOp Go.BinOp.eql 4 (Go.Operand.tmp 205) (Go.Operand.tmp 206) 4, type := 4, pos := "law.go:185", after := #[{ on := 91, ground := Go.Ground.data }, { on := 92, ground := Go.Ground.data }, { on := 90, ground := Go.Ground.guard }], guard := some (90, true) },
  { dst := some 208, op := Go.Op.pick (Go.Operand.tmp 204) (Go.Operand.tmp 207) (Go.Operand.const (Go.Value.bool false)), type := 4, pos := "law.go:185", after := #[{ on := 90, ground := Go.Ground.data }, { on := 93, ground := Go.Ground.data }], guard := none },
  { dst := some 209, op := Go.Op.move (Go.Operand.tmp 208), type := 4, pos := "law.go:185", after := #[{ on := 94, ground := Go.Ground.data }, { on := 90, ground := Go.Ground.chain }], guard := none },
  { dst := some 210, op := Go.Op.move (Go.Operand.tmp 24), type := 2, pos := "law.go:185", after := #[{ on := 95, ground := Go.Ground.guard }], guard := some (95, true) },
  { dst := some 211, op := Go.Op.move (Go.Operand.tmp 26), type := 2, pos := "law.go:185", after := #[{ on := 95, ground := Go.Ground.guard }], guard := some (95, true) },
  { dst := some 212, op := Go.Op.binOp Go.BinOp.eql 2 (Go.Operand.tmp 210) (Go.Operand.tmp 211) 2, type := 4, pos := "law.go:185", after := #[{ on := 96, ground := Go.Ground.data }, { on := 97, ground := Go.Ground.data }, { on := 95, ground := Go.Ground.guard }], guard := some (95, true) },
  { dst := some 213, op := Go.Op.pick (Go.Operand.tmp 209) (Go.Operand.tmp 212) (Go.Operand.const (Go.Value.bool false)), type := 4, pos := "law.go:185", after := #[{ on := 95, ground := Go.Ground.data }, { on := 98, ground := Go.Ground.data }], guard := none },
  { dst := some 10, op := Go.Op.assign (Go.Operand.tmp 213), type := 4, pos := "law.go:185", after := ([{ on := 99, ground := Go.Ground.data }, { on := 95, ground := Go.Ground.chain }, { on := 0, ground := Go.Ground.phase }, { on := 1, ground := Go.Ground.phase }, { on := 2, ground := Go.Ground.phase }, { on := 3, ground := Go.Ground.phase }, { on := 4, ground := Go.Ground.phase }, { on := 5, ground := Go.Ground.phase }, { on := 6, ground := Go.Ground.phase }, { on := 7, ground := Go.Ground.phase }, { on := 8, ground := Go.Ground.phase }, { on := 9, ground := Go.Ground.phase }, { on := 10, ground := Go.Ground.phase }, { on := 11, ground := Go.Ground.phase }, { on := 12, ground := Go.Ground.phase }, { on := 13, ground := Go.Ground.phase }, { on := 14, ground := Go.Ground.phase }, { on := 15, ground := Go.Ground.phase }, { on := 16, ground := Go.Ground.phase }, { on := 17, ground := Go.Ground.phase }, { on := 18, ground := Go.Ground.phase }, { on := 19, ground := Go.Ground.phase }, { on := 20, ground := Go.Ground.phase }, { on := 21, ground := Go.Ground.phase }, { on := 22, ground := Go.Ground.phase }, { on := 23, ground := Go.Ground.phase }, { on := 24, ground := Go.Ground.phase }, { on := 25, ground := Go.Ground.phase }, { on := 26, ground := Go.Ground.phase }, { on := 27, ground := Go.Ground.phase }, { on := 28, ground := Go.Ground.phase }, { on := 29, ground := Go.Ground.phase }, { on := 30, ground := Go.Ground.phase }, { on := 31, ground := Go.Ground.phase }, { on := 32, ground := Go.Ground.phase }, { on := 33, ground := Go.Ground.phase }, { on := 34, ground := Go.Ground.phase }, { on := 35, ground := Go.Ground.phase }, { on := 36, ground := Go.Ground.phase }, { on := 37, ground := Go.Ground.phase }, { on := 38, ground := Go.Ground.phase }, { on := 39, ground := Go.Ground.phase }, { on := 40, ground := Go.Ground.phase }, { on := 41, ground := Go.Ground.phase }, { on := 42, ground := Go.Ground.phase }, { on := 43, ground := Go.Ground.phase }, { on := 44, ground := Go.Ground.phase }, { on := 45, ground := Go.Ground.phase }, { on := 46, ground := Go.Ground.phase }, { on := 47, ground := Go.Ground.phase }, { on := 48, ground := Go.Ground.phase }].append [{ on := 49, ground := Go.Ground.phase }, { on := 50, ground := Go.Ground.phase }, { on := 51, ground := Go.Ground.phase }, { on := 52, ground := Go.Ground.phase }, { on := 53, ground := Go.Ground.phase }, { on := 54, ground := Go.Ground.phase }, { on := 55, ground := Go.Ground.phase }, { on := 56, ground := Go.Ground.phase }, { on := 57, ground := Go.Ground.phase }, { on := 58, ground := Go.Ground.phase }, { on := 59, ground := Go.Ground.phase }, { on := 60, ground := Go.Ground.phase }, { on := 61, ground := Go.Ground.phase }, { on := 62, ground := Go.Ground.phase }, { on := 63, ground := Go.Ground.phase }, { on := 64, ground := Go.Ground.phase }, { on := 65, ground := Go.Ground.phase }, { on := 66, ground := Go.Ground.phase }, { on := 67, ground := Go.Ground.phase }, { on := 68, ground := Go.Ground.phase }, { on := 69, ground := Go.Ground.phase }, { on := 70, ground := Go.Ground.phase }, { on := 71, ground := Go.Ground.phase }, { on := 72, ground := Go.Ground.phase }, { on := 73, ground := Go.Ground.phase }, { on := 74, ground := Go.Ground.phase }, { on := 75, ground := Go.Ground.phase }, { on := 76, ground := Go.Ground.phase }, { on := 77, ground := Go.Ground.phase }, { on := 78, ground := Go.Ground.phase }, { on := 79, ground := Go.Ground.phase }, { on := 80, ground := Go.Ground.phase }, { on := 81, ground := Go.Ground.phase }, { on := 82, ground := Go.Ground.phase }, { on := 83, ground := Go.Ground.phase }, { on := 84, ground := Go.Ground.phase }, { on := 85, ground := Go.Ground.phase }, { on := 86, ground := Go.Ground.phase }, { on := 87, ground := Go.Ground.phase }, { on := 88, ground := Go.Ground.phase }, { on := 89, ground := Go.Ground.phase }, { on := 90, ground := Go.Ground.phase }, { on := 91, ground := Go.Ground.phase }, { on := 92, ground := Go.Ground.phase }, { on := 93, ground := Go.Ground.phase }, { on := 94, ground := Go.Ground.phase }, { on := 95, ground := Go.Ground.phase }, { on := 96, ground := Go.Ground.phase }, { on := 97, ground := Go.Ground.phase }, { on := 98, ground := Go.Ground.phase }, { on := 99, ground := Go.Ground.phase }]).toArray, guard := none }]
def na_plan : List (Nat × Bool) := [(0, false), (2, false), (1, true), (3, true), (4, false), (5, false), (6, false), (7, false), (10, false), (11, false), (8, true), (9, true), (12, true), (13, true), (14, false), (15, false), (16, false), (17, false), (18, false), (21, false), (22, false), (19, true), (20, true), (23, true), (24, true), (25, true), (26, false), (27, false), (28, false), (29, false), (30, false), (33, false), (34, false), (31, true), (32, true), (35, true), (36, true), (37, false), (38, false), (39, false), (40, false), (41, false), (43, false), (44, false), (42, true), (45, true), (46, false), (47, false), (48, false), (49, false), (52, false), (50, true), (51, true), (53, true), (54, true), (55, false), (56, false), (57, false), (58, false), (61, false), (62, false), (59, true), (60, true), (63, true), (64, false), (65, false), (66, false), (67, false), (69, false), (70, false), (68, true), (71, true), (72, false), (73, false), (74, false), (75, false), (76, false), (77, false), (78, false), (79, false), (80, false), (81, false), (82, false), (83, false), (85, false), (84, true), (86, true), (87, true), (88, false), (89, false), (90, false), (91, false), (92, false), (93, false), (94, false), (95, false), (96, false), (97, false), (98, false), (99, false), (100, false)]
theorem na_sel : Region.noSelect na_ops = true := by kernel_rfl
theorem na_len : na_plan.length = na_ops.size := by kernel_rfl
theorem na_ok : plan.planB (plan.rows .any na_ops) na_plan 0 = true := by kernel_rfl
theorem na_g0 : na_ops[0]? = some { dst := some 114, op := Go.Op.move (Go.Operand.tmp 12), type := 55, pos := "law.go:185", after := #[], guard := none } := rfl
theorem na_g1 : na_ops[1]? = some { dst := some 115, op := Go.Op.call { callee := Go.Callee.value (Go.Operand.func 52), args := #[Go.Operand.tmp 114], argTypes := #[55] }, type := 9, pos := "law.go:185", after := #[{ on := 0, ground := Go.Ground.data }], guard := none } := rfl
theorem na_g2 : na_ops[2]? = some { dst := some 116, op := Go.Op.load 57 (Go.Operand.tmp 13), type := 57, pos := "law.go:185", after := #[], guard := none } := rfl
theorem na_g3 : na_ops[3]? = some { dst := some 117, op := Go.Op.call { callee := Go.Callee.value (Go.Operand.func 53), args := #[Go.Operand.tmp 116], argTypes := #[57] }, type := 9, pos := "law.go:185", after := #[{ on := 2, ground := Go.Ground.data }, { on := 1, ground := Go.Ground.chain }], guard := none } := rfl
theorem na_g4 : na_ops[4]? = some { dst := some 118, op := Go.Op.binOp Go.BinOp.eql 9 (Go.Operand.tmp 115) (Go.Operand.tmp 117) 9, type := 4, pos := "law.go:185", after := #[{ on := 1, ground := Go.Ground.data }, { on := 3, ground := Go.Ground.data }], guard := none } := rfl
theorem na_g5 : na_ops[5]? = some { dst := some 119, op := Go.Op.move (Go.Operand.tmp 118), type := 4, pos := "law.go:185", after := #[{ on := 4, ground := Go.Ground.data }, { on := 3, ground := Go.Ground.chain }], guard := none } := rfl
theorem na_g6 : na_ops[6]? = some { dst := some 120, op := Go.Op.move (Go.Operand.tmp 12), type := 55, pos := "law.go:185", after := #[{ on := 5, ground := Go.Ground.guard }], guard := some (5, true) } := rfl
theorem na_g7 : na_ops[7]? = some { dst := some 121, op := Go.Op.move (Go.Operand.tmp 14), type := 55, pos := "law.go:185", after := #[{ on := 5, ground := Go.Ground.guard }], guard := some (5, true) } := rfl
theorem na_g8 : na_ops[8]? = some { dst := some 122, op := Go.Op.call { callee := Go.Callee.value (Go.Operand.func 55), args := #[Go.Operand.tmp 120, Go.Operand.tmp 121], argTypes := #[55, 55] }, type := 55, pos := "law.go:185", after := #[{ on := 6, ground := Go.Ground.data }, { on := 7, ground := Go.Ground.data }, { on := 5, ground := Go.Ground.chain }, { on := 5, ground := Go.Ground.guard }], guard := some (5, true) } := rfl
theorem na_g9 : na_ops[9]? = some { dst := some 123, op := Go.Op.call { callee := Go.Callee.value (Go.Operand.func 52), args := #[Go.Operand.tmp 122], argTypes := #[55] }, type := 9, pos := "law.go:185", after := #[{ on := 8, ground := Go.Ground.data }, { on := 8, ground := Go.Ground.chain }, { on := 5, ground := Go.Ground.guard }], guard := some (5, true) } := rfl
theorem na_g10 : na_ops[10]? = some { dst := some 124, op := Go.Op.load 57 (Go.Operand.tmp 13), type := 57, pos := "law.go:185", after := #[{ on := 5, ground := Go.Ground.guard }], guard := some (5, true) } := rfl
theorem na_g11 : na_ops[11]? = some { dst := some 125, op := Go.Op.load 57 (Go.Operand.tmp 15), type := 57, pos := "law.go:185", after := #[{ on := 5, ground := Go.Ground.guard }], guard := some (5, true) } := rfl
theorem na_g12 : na_ops[12]? = some { dst := some 126, op := Go.Op.call { callee := Go.Callee.value (Go.Operand.func 60), args := #[Go.Operand.tmp 124, Go.Operand.tmp 125], argTypes := #[57, 57] }, type := 57, pos := "law.go:185", after := #[{ on := 10, ground := Go.Ground.data }, { on := 11, ground := Go.Ground.data }, { on := 9, ground := Go.Ground.chain }, { on := 5, ground := Go.Ground.guard }], guard := some (5, true) } := rfl
theorem na_g13 : na_ops[13]? = some { dst := some 127, op := Go.Op.call { callee := Go.Callee.value (Go.Operand.func 53), args := #[Go.Operand.tmp 126], argTypes := #[57] }, type := 9, pos := "law.go:185", after := #[{ on := 12, ground := Go.Ground.data }, { on := 12, ground := Go.Ground.chain }, { on := 5, ground := Go.Ground.guard }], guard := some (5, true) } := rfl
theorem na_g14 : na_ops[14]? = some { dst := some 128, op := Go.Op.binOp Go.BinOp.eql 9 (Go.Operand.tmp 123) (Go.Operand.tmp 127) 9, type := 4, pos := "law.go:185", after := #[{ on := 9, ground := Go.Ground.data }, { on := 13, ground := Go.Ground.data }, { on := 5, ground := Go.Ground.guard }], guard := some (5, true) } := rfl
theorem na_g15 : na_ops[15]? = some { dst := some 129, op := Go.Op.pick (Go.Operand.tmp 119) (Go.Operand.tmp 128) (Go.Operand.const (Go.Value.bool false)), type := 4, pos := "law.go:185", after := #[{ on := 5, ground := Go.Ground.data }, { on := 14, ground := Go.Ground.data }], guard := none } := rfl
theorem na_g16 : na_ops[16]? = some { dst := some 130, op := Go.Op.move (Go.Operand.tmp 129), type := 4, pos := "law.go:185", after := #[{ on := 15, ground := Go.Ground.data }, { on := 13, ground := Go.Ground.chain }], guard := none } := rfl
theorem na_g17 : na_ops[17]? = some { dst := some 131, op := Go.Op.move (Go.Operand.tmp 12), type := 55, pos := "law.go:185", after := #[{ on := 16, ground := Go.Ground.guard }], guard := some (16, true) } := rfl
theorem na_g18 : na_ops[18]? = some { dst := some 132, op := Go.Op.move (Go.Operand.tmp 14), type := 55, pos := "law.go:185", after := #[{ on := 16, ground := Go.Ground.guard }], guard := some (16, true) } := rfl
theorem na_g19 : na_ops[19]? = some { dst := some 133, op := Go.Op.call { callee := Go.Callee.value (Go.Operand.func 61), args := #[Go.Operand.tmp 131, Go.Operand.tmp 132], argTypes := #[55, 55] }, type := 55, pos := "law.go:185", after := #[{ on := 17, ground := Go.Ground.data }, { on := 18, ground := Go.Ground.data }, { on := 16, ground := Go.Ground.chain }, { on := 16, ground := Go.Ground.guard }], guard := some (16, true) } := rfl
theorem na_g20 : na_ops[20]? = some { dst := some 134, op := Go.Op.call { callee := Go.Callee.value (Go.Operand.func 52), args := #[Go.Operand.tmp 133], argTypes := #[55] }, type := 9, pos := "law.go:185", after := #[{ on := 19, ground := Go.Ground.data }, { on := 19, ground := Go.Ground.chain }, { on := 16, ground := Go.Ground.guard }], guard := some (16, true) } := rfl
theorem na_g21 : na_ops[21]? = some { dst := some 135, op := Go.Op.load 57 (Go.Operand.tmp 13), type := 57, pos := "law.go:185", after := #[{ on := 16, ground := Go.Ground.guard }], guard := some (16, true) } := rfl
theorem na_g22 : na_ops[22]? = some { dst := some 136, op := Go.Op.load 57 (Go.Operand.tmp 15), type := 57, pos := "law.go:185", after := #[{ on := 16, ground := Go.Ground.guard }], guard := some (16, true) } := rfl
theorem na_g23 : na_ops[23]? = some { dst := some 137, op := Go.Op.call { callee := Go.Callee.value (Go.Operand.func 62), args := #[Go.Operand.tmp 136], argTypes := #[57] }, type := 57, pos := "law.go:185", after := #[{ on := 22, ground := Go.Ground.data }, { on := 20, ground := Go.Ground.chain }, { on := 16, ground := Go.Ground.guard }], guard := some (16, true) } := rfl
theorem na_g24 : na_ops[24]? = some { dst := some 138, op := Go.Op.call { callee := Go.Callee.value (Go.Operand.func 60), args := #[Go.Operand.tmp 135, Go.Operand.tmp 137], argTypes := #[57, 57] }, type := 57, pos := "law.go:185", after := #[{ on := 21, ground := Go.Ground.data }, { on := 23, ground := Go.Ground.data }, { on := 23, ground := Go.Ground.chain }, { on := 16, ground := Go.Ground.guard }], guard := some (16, true) } := rfl
theorem na_g25 : na_ops[25]? = some { dst := some 139, op := Go.Op.call { callee := Go.Callee.value (Go.Operand.func 53), args := #[Go.Operand.tmp 138], argTypes := #[57] }, type := 9, pos := "law.go:185", after := #[{ on := 24, ground := Go.Ground.data }, { on := 24, ground := Go.Ground.chain }, { on := 16, ground := Go.Ground.guard }], guard := some (16, true) } := rfl
theorem na_g26 : na_ops[26]? = some { dst := some 140, op := Go.Op.binOp Go.BinOp.eql 9 (Go.Operand.tmp 134) (Go.Operand.tmp 139) 9, type := 4, pos := "law.go:185", after := #[{ on := 20, ground := Go.Ground.data }, { on := 25, ground := Go.Ground.data }, { on := 16, ground := Go.Ground.guard }], guard := some (16, true) } := rfl
theorem na_g27 : na_ops[27]? = some { dst := some 141, op := Go.Op.pick (Go.Operand.tmp 130) (Go.Operand.tmp 140) (Go.Operand.const (Go.Value.bool false)), type := 4, pos := "law.go:185", after := #[{ on := 16, ground := Go.Ground.data }, { on := 26, ground := Go.Ground.data }], guard := none } := rfl
theorem na_g28 : na_ops[28]? = some { dst := some 142, op := Go.Op.move (Go.Operand.tmp 141), type := 4, pos := "law.go:185", after := #[{ on := 27, ground := Go.Ground.data }, { on := 25, ground := Go.Ground.chain }], guard := none } := rfl
theorem na_g29 : na_ops[29]? = some { dst := some 143, op := Go.Op.move (Go.Operand.tmp 12), type := 55, pos := "law.go:185", after := #[{ on := 28, ground := Go.Ground.guard }], guard := some (28, true) } := rfl
theorem na_g30 : na_ops[30]? = some { dst := some 144, op := Go.Op.move (Go.Operand.tmp 14), type := 55, pos := "law.go:185", after := #[{ on := 28, ground := Go.Ground.guard }], guard := some (28, true) } := rfl
theorem na_g31 : na_ops[31]? = some { dst := some 145, op := Go.Op.call { callee := Go.Callee.value (Go.Operand.func 54), args := #[Go.Operand.tmp 143, Go.Operand.tmp 144], argTypes := #[55, 55] }, type := 55, pos := "law.go:185", after := #[{ on := 29, ground := Go.Ground.data }, { on := 30, ground := Go.Ground.data }, { on := 28, ground := Go.Ground.chain }, { on := 28, ground := Go.Ground.guard }], guard := some (28, true) } := rfl
theorem na_g32 : na_ops[32]? = some { dst := some 146, op := Go.Op.call { callee := Go.Callee.value (Go.Operand.func 52), args := #[Go.Operand.tmp 145], argTypes := #[55] }, type := 9, pos := "law.go:185", after := #[{ on := 31, ground := Go.Ground.data }, { on := 31, ground := Go.Ground.chain }, { on := 28, ground := Go.Ground.guard }], guard := some (28, true) } := rfl
theorem na_g33 : na_ops[33]? = some { dst := some 147, op := Go.Op.load 57 (Go.Operand.tmp 13), type := 57, pos := "law.go:185", after := #[{ on := 28, ground := Go.Ground.guard }], guard := some (28, true) } := rfl
theorem na_g34 : na_ops[34]? = some { dst := some 148, op := Go.Op.load 57 (Go.Operand.tmp 15), type := 57, pos := "law.go:185", after := #[{ on := 28, ground := Go.Ground.guard }], guard := some (28, true) } := rfl
theorem na_g35 : na_ops[35]? = some { dst := some 149, op := Go.Op.call { callee := Go.Callee.value (Go.Operand.func 63), args := #[Go.Operand.tmp 147, Go.Operand.tmp 148], argTypes := #[57, 57] }, type := 57, pos := "law.go:185", after := #[{ on := 33, ground := Go.Ground.data }, { on := 34, ground := Go.Ground.data }, { on := 32, ground := Go.Ground.chain }, { on := 28, ground := Go.Ground.guard }], guard := some (28, true) } := rfl
theorem na_g36 : na_ops[36]? = some { dst := some 150, op := Go.Op.call { callee := Go.Callee.value (Go.Operand.func 53), args := #[Go.Operand.tmp 149], argTypes := #[57] }, type := 9, pos := "law.go:185", after := #[{ on := 35, ground := Go.Ground.data }, { on := 35, ground := Go.Ground.chain }, { on := 28, ground := Go.Ground.guard }], guard := some (28, true) } := rfl
theorem na_g37 : na_ops[37]? = some { dst := some 151, op := Go.Op.binOp Go.BinOp.eql 9 (Go.Operand.tmp 146) (Go.Operand.tmp 150) 9, type := 4, pos := "law.go:185", after := #[{ on := 32, ground := Go.Ground.data }, { on := 36, ground := Go.Ground.data }, { on := 28, ground := Go.Ground.guard }], guard := some (28, true) } := rfl
theorem na_g38 : na_ops[38]? = some { dst := some 152, op := Go.Op.pick (Go.Operand.tmp 142) (Go.Operand.tmp 151) (Go.Operand.const (Go.Value.bool false)), type := 4, pos := "law.go:185", after := #[{ on := 28, ground := Go.Ground.data }, { on := 37, ground := Go.Ground.data }], guard := none } := rfl
theorem na_g39 : na_ops[39]? = some { dst := some 153, op := Go.Op.move (Go.Operand.tmp 152), type := 4, pos := "law.go:185", after := #[{ on := 38, ground := Go.Ground.data }, { on := 36, ground := Go.Ground.chain }], guard := none } := rfl
theorem na_g40 : na_ops[40]? = some { dst := some 154, op := Go.Op.move (Go.Operand.tmp 12), type := 55, pos := "law.go:185", after := #[{ on := 39, ground := Go.Ground.guard }], guard := some (39, true) } := rfl
theorem na_g41 : na_ops[41]? = some { dst := some 155, op := Go.Op.move (Go.Operand.tmp 14), type := 55, pos := "law.go:185", after := #[{ on := 39, ground := Go.Ground.guard }], guard := some (39, true) } := rfl
theorem na_g42 : na_ops[42]? = some { dst := some 156, op := Go.Op.call { callee := Go.Callee.value (Go.Operand.func 56), args := #[Go.Operand.tmp 154, Go.Operand.tmp 155], argTypes := #[55, 55] }, type := 3, pos := "law.go:185", after := #[{ on := 40, ground := Go.Ground.data }, { on := 41, ground := Go.Ground.data }, { on := 39, ground := Go.Ground.chain }, { on := 39, ground := Go.Ground.guard }], guard := some (39, true) } := rfl
theorem na_g43 : na_ops[43]? = some { dst := some 157, op := Go.Op.load 57 (Go.Operand.tmp 13), type := 57, pos := "law.go:185", after := #[{ on := 39, ground := Go.Ground.guard }], guard := some (39, true) } := rfl
theorem na_g44 : na_ops[44]? = some { dst := some 158, op := Go.Op.load 57 (Go.Operand.tmp 15), type := 57, pos := "law.go:185", after := #[{ on := 39, ground := Go.Ground.guard }], guard := some (39, true) } := rfl
theorem na_g45 : na_ops[45]? = some { dst := some 159, op := Go.Op.call { callee := Go.Callee.value (Go.Operand.func 64), args := #[Go.Operand.tmp 157, Go.Operand.tmp 158], argTypes := #[57, 57] }, type := 3, pos := "law.go:185", after := #[{ on := 43, ground := Go.Ground.data }, { on := 44, ground := Go.Ground.data }, { on := 42, ground := Go.Ground.chain }, { on := 39, ground := Go.Ground.guard }], guard := some (39, true) } := rfl
theorem na_g46 : na_ops[46]? = some { dst := some 160, op := Go.Op.binOp Go.BinOp.eql 3 (Go.Operand.tmp 156) (Go.Operand.tmp 159) 3, type := 4, pos := "law.go:185", after := #[{ on := 42, ground := Go.Ground.data }, { on := 45, ground := Go.Ground.data }, { on := 39, ground := Go.Ground.guard }], guard := some (39, true) } := rfl
theorem na_g47 : na_ops[47]? = some { dst := some 161, op := Go.Op.pick (Go.Operand.tmp 153) (Go.Operand.tmp 160) (Go.Operand.const (Go.Value.bool false)), type := 4, pos := "law.go:185", after := #[{ on := 39, ground := Go.Ground.data }, { on := 46, ground := Go.Ground.data }], guard := none } := rfl
theorem na_g48 : na_ops[48]? = some { dst := some 162, op := Go.Op.move (Go.Operand.tmp 161), type := 4, pos := "law.go:185", after := #[{ on := 47, ground := Go.Ground.data }, { on := 45, ground := Go.Ground.chain }], guard := none } := rfl
theorem na_g49 : na_ops[49]? = some { dst := some 163, op := Go.Op.move (Go.Operand.tmp 12), type := 55, pos := "law.go:185", after := #[{ on := 48, ground := Go.Ground.guard }], guard := some (48, true) } := rfl
theorem na_g50 : na_ops[50]? = some { dst := some 164, op := Go.Op.call { callee := Go.Callee.value (Go.Operand.func 65), args := #[Go.Operand.tmp 163], argTypes := #[55] }, type := 55, pos := "law.go:185", after := #[{ on := 49, ground := Go.Ground.data }, { on := 48, ground := Go.Ground.chain }, { on := 48, ground := Go.Ground.guard }], guard := some (48, true) } := rfl
theorem na_g51 : na_ops[51]? = some { dst := some 165, op := Go.Op.call { callee := Go.Callee.value (Go.Operand.func 52), args := #[Go.Operand.tmp 164], argTypes := #[55] }, type := 9, pos := "law.go:185", after := #[{ on := 50, ground := Go.Ground.data }, { on := 50, ground := Go.Ground.chain }, { on := 48, ground := Go.Ground.guard }], guard := some (48, true) } := rfl
theorem na_g52 : na_ops[52]? = some { dst := some 166, op := Go.Op.load 57 (Go.Operand.tmp 13), type := 57, pos := "law.go:185", after := #[{ on := 48, ground := Go.Ground.guard }], guard := some (48, true) } := rfl
theorem na_g53 : na_ops[53]? = some { dst := some 167, op := Go.Op.call { callee := Go.Callee.value (Go.Operand.func 62), args := #[Go.Operand.tmp 166], argTypes := #[57] }, type := 57, pos := "law.go:185", after := #[{ on := 52, ground := Go.Ground.data }, { on := 51, ground := Go.Ground.chain }, { on := 48, ground := Go.Ground.guard }], guard := some (48, true) } := rfl
theorem na_g54 : na_ops[54]? = some { dst := some 168, op := Go.Op.call { callee := Go.Callee.value (Go.Operand.func 53), args := #[Go.Operand.tmp 167], argTypes := #[57] }, type := 9, pos := "law.go:185", after := #[{ on := 53, ground := Go.Ground.data }, { on := 53, ground := Go.Ground.chain }, { on := 48, ground := Go.Ground.guard }], guard := some (48, true) } := rfl
theorem na_g55 : na_ops[55]? = some { dst := some 169, op := Go.Op.binOp Go.BinOp.eql 9 (Go.Operand.tmp 165) (Go.Operand.tmp 168) 9, type := 4, pos := "law.go:185", after := #[{ on := 51, ground := Go.Ground.data }, { on := 54, ground := Go.Ground.data }, { on := 48, ground := Go.Ground.guard }], guard := some (48, true) } := rfl
theorem na_g56 : na_ops[56]? = some { dst := some 170, op := Go.Op.pick (Go.Operand.tmp 162) (Go.Operand.tmp 169) (Go.Operand.const (Go.Value.bool false)), type := 4, pos := "law.go:185", after := #[{ on := 48, ground := Go.Ground.data }, { on := 55, ground := Go.Ground.data }], guard := none } := rfl
theorem na_g57 : na_ops[57]? = some { dst := some 171, op := Go.Op.move (Go.Operand.tmp 170), type := 4, pos := "law.go:185", after := #[{ on := 56, ground := Go.Ground.data }, { on := 54, ground := Go.Ground.chain }], guard := none } := rfl
theorem na_g58 : na_ops[58]? = some { dst := some 172, op := Go.Op.move (Go.Operand.tmp 12), type := 55, pos := "law.go:185", after := #[{ on := 57, ground := Go.Ground.guard }], guard := some (57, true) } := rfl
theorem na_g59 : na_ops[59]? = some { dst := some 173, op := Go.Op.call { callee := Go.Callee.value (Go.Operand.func 66), args := #[Go.Operand.tmp 172], argTypes := #[55] }, type := 23, pos := "law.go:185", after := #[{ on := 58, ground := Go.Ground.data }, { on := 57, ground := Go.Ground.chain }, { on := 57, ground := Go.Ground.guard }], guard := some (57, true) } := rfl
theorem na_g60 : na_ops[60]? = some { dst := some 174, op := Go.Op.call { callee := Go.Callee.value (Go.Operand.func 30), args := #[Go.Operand.tmp 173], argTypes := #[23] }, type := 9, pos := "law.go:185", after := #[{ on := 59, ground := Go.Ground.data }, { on := 59, ground := Go.Ground.chain }, { on := 57, ground := Go.Ground.guard }], guard := some (57, true) } := rfl
theorem na_g61 : na_ops[61]? = some { dst := some 175, op := Go.Op.fieldAddr 57 (Go.Operand.tmp 13) 1, type := 0, pos := "law.go:185", after := #[{ on := 57, ground := Go.Ground.guard }], guard := some (57, true) } := rfl
theorem na_g62 : na_ops[62]? = some { dst := some 176, op := Go.Op.load 25 (Go.Operand.tmp 175), type := 25, pos := "law.go:185", after := #[{ on := 61, ground := Go.Ground.data }, { on := 57, ground := Go.Ground.guard }], guard := some (57, true) } := rfl
theorem na_g63 : na_ops[63]? = some { dst := some 177, op := Go.Op.call { callee := Go.Callee.value (Go.Operand.func 32), args := #[Go.Operand.tmp 176], argTypes := #[25] }, type := 9, pos := "law.go:185", after := #[{ on := 62, ground := Go.Ground.data }, { on := 60, ground := Go.Ground.chain }, { on := 57, ground := Go.Ground.guard }], guard := some (57, true) } := rfl
theorem na_g64 : na_ops[64]? = some { dst := some 178, op := Go.Op.binOp Go.BinOp.eql 9 (Go.Operand.tmp 174) (Go.Operand.tmp 177) 9, type := 4, pos := "law.go:185", after := #[{ on := 60, ground := Go.Ground.data }, { on := 63, ground := Go.Ground.data }, { on := 57, ground := Go.Ground.guard }], guard := some (57, true) } := rfl
theorem na_g65 : na_ops[65]? = some { dst := some 179, op := Go.Op.pick (Go.Operand.tmp 171) (Go.Operand.tmp 178) (Go.Operand.const (Go.Value.bool false)), type := 4, pos := "law.go:185", after := #[{ on := 57, ground := Go.Ground.data }, { on := 64, ground := Go.Ground.data }], guard := none } := rfl
theorem na_g66 : na_ops[66]? = some { dst := some 180, op := Go.Op.move (Go.Operand.tmp 179), type := 4, pos := "law.go:185", after := #[{ on := 65, ground := Go.Ground.data }, { on := 63, ground := Go.Ground.chain }], guard := none } := rfl
theorem na_g67 : na_ops[67]? = some { dst := some 181, op := Go.Op.move (Go.Operand.tmp 12), type := 55, pos := "law.go:185", after := #[{ on := 66, ground := Go.Ground.guard }], guard := some (66, true) } := rfl
theorem na_g68 : na_ops[68]? = some { dst := some 182, op := Go.Op.call { callee := Go.Callee.value (Go.Operand.func 67), args := #[Go.Operand.tmp 181], argTypes := #[55] }, type := 3, pos := "law.go:185", after := #[{ on := 67, ground := Go.Ground.data }, { on := 66, ground := Go.Ground.chain }, { on := 66, ground := Go.Ground.guard }], guard := some (66, true) } := rfl
theorem na_g69 : na_ops[69]? = some { dst := some 183, op := Go.Op.load 57 (Go.Operand.tmp 13), type := 57, pos := "law.go:185", after := #[{ on := 66, ground := Go.Ground.guard }], guard := some (66, true) } := rfl
theorem na_g70 : na_ops[70]? = some { dst := some 184, op := Go.Op.build 57 #[], type := 57, pos := "law.go:185", after := #[{ on := 66, ground := Go.Ground.guard }], guard := some (66, true) } := rfl
theorem na_g71 : na_ops[71]? = some { dst := some 185, op := Go.Op.call { callee := Go.Callee.value (Go.Operand.func 64), args := #[Go.Operand.tmp 183, Go.Operand.tmp 184], argTypes := #[57, 57] }, type := 3, pos := "law.go:185", after := #[{ on := 69, ground := Go.Ground.data }, { on := 70, ground := Go.Ground.data }, { on := 68, ground := Go.Ground.chain }, { on := 66, ground := Go.Ground.guard }], guard := some (66, true) } := rfl
theorem na_g72 : na_ops[72]? = some { dst := some 186, op := Go.Op.binOp Go.BinOp.eql 3 (Go.Operand.tmp 182) (Go.Operand.tmp 185) 3, type := 4, pos := "law.go:185", after := #[{ on := 68, ground := Go.Ground.data }, { on := 71, ground := Go.Ground.data }, { on := 66, ground := Go.Ground.guard }], guard := some (66, true) } := rfl
theorem na_g73 : na_ops[73]? = some { dst := some 187, op := Go.Op.pick (Go.Operand.tmp 180) (Go.Operand.tmp 186) (Go.Operand.const (Go.Value.bool false)), type := 4, pos := "law.go:185", after := #[{ on := 66, ground := Go.Ground.data }, { on := 72, ground := Go.Ground.data }], guard := none } := rfl
theorem na_g74 : na_ops[74]? = some { dst := some 188, op := Go.Op.move (Go.Operand.tmp 187), type := 4, pos := "law.go:185", after := #[{ on := 73, ground := Go.Ground.data }, { on := 71, ground := Go.Ground.chain }], guard := none } := rfl
theorem na_g75 : na_ops[75]? = some { dst := some 189, op := Go.Op.move (Go.Operand.tmp 23), type := 4, pos := "law.go:185", after := #[{ on := 74, ground := Go.Ground.guard }], guard := some (74, true) } := rfl
theorem na_g76 : na_ops[76]? = some { dst := some 190, op := Go.Op.pick (Go.Operand.tmp 188) (Go.Operand.tmp 189) (Go.Operand.const (Go.Value.bool false)), type := 4, pos := "law.go:185", after := #[{ on := 74, ground := Go.Ground.data }, { on := 75, ground := Go.Ground.data }], guard := none } := rfl
theorem na_g77 : na_ops[77]? = some { dst := some 191, op := Go.Op.move (Go.Operand.tmp 190), type := 4, pos := "law.go:185", after := #[{ on := 76, ground := Go.Ground.data }, { on := 74, ground := Go.Ground.chain }], guard := none } := rfl
theorem na_g78 : na_ops[78]? = some { dst := some 192, op := Go.Op.move (Go.Operand.tmp 22), type := 2, pos := "law.go:185", after := #[{ on := 77, ground := Go.Ground.guard }], guard := some (77, true) } := rfl
theorem na_g79 : na_ops[79]? = some { dst := some 193, op := Go.Op.move (Go.Operand.tmp 4), type := 2, pos := "law.go:185", after := #[{ on := 77, ground := Go.Ground.guard }], guard := some (77, true) } := rfl
theorem na_g80 : na_ops[80]? = some { dst := some 194, op := Go.Op.binOp Go.BinOp.eql 2 (Go.Operand.tmp 192) (Go.Operand.tmp 193) 2, type := 4, pos := "law.go:185", after := #[{ on := 78, ground := Go.Ground.data }, { on := 79, ground := Go.Ground.data }, { on := 77, ground := Go.Ground.guard }], guard := some (77, true) } := rfl
theorem na_g81 : na_ops[81]? = some { dst := some 195, op := Go.Op.pick (Go.Operand.tmp 191) (Go.Operand.tmp 194) (Go.Operand.const (Go.Value.bool false)), type := 4, pos := "law.go:185", after := #[{ on := 77, ground := Go.Ground.data }, { on := 80, ground := Go.Ground.data }], guard := none } := rfl
theorem na_g82 : na_ops[82]? = some { dst := some 196, op := Go.Op.move (Go.Operand.tmp 195), type := 4, pos := "law.go:185", after := #[{ on := 81, ground := Go.Ground.data }, { on := 77, ground := Go.Ground.chain }], guard := none } := rfl
theorem na_g83 : na_ops[83]? = some { dst := some 197, op := Go.Op.move (Go.Operand.tmp 21), type := 55, pos := "law.go:185", after := #[{ on := 82, ground := Go.Ground.guard }], guard := some (82, true) } := rfl
theorem na_g84 : na_ops[84]? = some { dst := some 198, op := Go.Op.call { callee := Go.Callee.value (Go.Operand.func 52), args := #[Go.Operand.tmp 197], argTypes := #[55] }, type := 9, pos := "law.go:185", after := #[{ on := 83, ground := Go.Ground.data }, { on := 82, ground := Go.Ground.chain }, { on := 82, ground := Go.Ground.guard }], guard := some (82, true) } := rfl
theorem na_g85 : na_ops[85]? = some { dst := some 199, op := Go.Op.move (Go.Operand.tmp 4), type := 2, pos := "law.go:185", after := #[{ on := 82, ground := Go.Ground.guard }], guard := some (82, true) } := rfl
theorem na_g86 : na_ops[86]? = some { dst := some 200, op := Go.Op.call { callee := Go.Callee.value (Go.Operand.func 68), args := #[Go.Operand.tmp 199], argTypes := #[2] }, type := 57, pos := "law.go:185", after := #[{ on := 85, ground := Go.Ground.data }, { on := 84, ground := Go.Ground.chain }, { on := 82, ground := Go.Ground.guard }], guard := some (82, true) } := rfl
theorem na_g87 : na_ops[87]? = some { dst := some 201, op := Go.Op.call { callee := Go.Callee.value (Go.Operand.func 53), args := #[Go.Operand.tmp 200], argTypes := #[57] }, type := 9, pos := "law.go:185", after := #[{ on := 86, ground := Go.Ground.data }, { on := 86, ground := Go.Ground.chain }, { on := 82, ground := Go.Ground.guard }], guard := some (82, true) } := rfl
theorem na_g88 : na_ops[88]? = some { dst := some 202, op := Go.Op.binOp Go.BinOp.eql 9 (Go.Operand.tmp 198) (Go.Operand.tmp 201) 9, type := 4, pos := "law.go:185", after := #[{ on := 84, ground := Go.Ground.data }, { on := 87, ground := Go.Ground.data }, { on := 82, ground := Go.Ground.guard }], guard := some (82, true) } := rfl
theorem na_g89 : na_ops[89]? = some { dst := some 203, op := Go.Op.pick (Go.Operand.tmp 196) (Go.Operand.tmp 202) (Go.Operand.const (Go.Value.bool false)), type := 4, pos := "law.go:185", after := #[{ on := 82, ground := Go.Ground.data }, { on := 88, ground := Go.Ground.data }], guard := none } := rfl
theorem na_g90 : na_ops[90]? = some { dst := some 204, op := Go.Op.move (Go.Operand.tmp 203), type := 4, pos := "law.go:185", after := #[{ on := 89, ground := Go.Ground.data }, { on := 87, ground := Go.Ground.chain }], guard := none } := rfl
theorem na_g91 : na_ops[91]? = some { dst := some 205, op := Go.Op.move (Go.Operand.tmp 25), type := 4, pos := "law.go:185", after := #[{ on := 90, ground := Go.Ground.guard }], guard := some (90, true) } := rfl
theorem na_g92 : na_ops[92]? = some { dst := some 206, op := Go.Op.move (Go.Operand.tmp 27), type := 4, pos := "law.go:185", after := #[{ on := 90, ground := Go.Ground.guard }], guard := some (90, true) } := rfl
theorem na_g93 : na_ops[93]? = some { dst := some 207, op := Go.Op.binOp Go.BinOp.eql 4 (Go.Operand.tmp 205) (Go.Operand.tmp 206) 4, type := 4, pos := "law.go:185", after := #[{ on := 91, ground := Go.Ground.data }, { on := 92, ground := Go.Ground.data }, { on := 90, ground := Go.Ground.guard }], guard := some (90, true) } := rfl
theorem na_g94 : na_ops[94]? = some { dst := some 208, op := Go.Op.pick (Go.Operand.tmp 204) (Go.Operand.tmp 207) (Go.Operand.const (Go.Value.bool false)), type := 4, pos := "law.go:185", after := #[{ on := 90, ground := Go.Ground.data }, { on := 93, ground := Go.Ground.data }], guard := none } := rfl
theorem na_g95 : na_ops[95]? = some { dst := some 209, op := Go.Op.move (Go.Operand.tmp 208), type := 4, pos := "law.go:185", after := #[{ on := 94, ground := Go.Ground.data }, { on := 90, ground := Go.Ground.chain }], guard := none } := rfl
theorem na_g96 : na_ops[96]? = some { dst := some 210, op := Go.Op.move (Go.Operand.tmp 24), type := 2, pos := "law.go:185", after := #[{ on := 95, ground := Go.Ground.guard }], guard := some (95, true) } := rfl
theorem na_g97 : na_ops[97]? = some { dst := some 211, op := Go.Op.move (Go.Operand.tmp 26), type := 2, pos := "law.go:185", after := #[{ on := 95, ground := Go.Ground.guard }], guard := some (95, true) } := rfl
theorem na_g98 : na_ops[98]? = some { dst := some 212, op := Go.Op.binOp Go.BinOp.eql 2 (Go.Operand.tmp 210) (Go.Operand.tmp 211) 2, type := 4, pos := "law.go:185", after := #[{ on := 96, ground := Go.Ground.data }, { on := 97, ground := Go.Ground.data }, { on := 95, ground := Go.Ground.guard }], guard := some (95, true) } := rfl
theorem na_g99 : na_ops[99]? = some { dst := some 213, op := Go.Op.pick (Go.Operand.tmp 209) (Go.Operand.tmp 212) (Go.Operand.const (Go.Value.bool false)), type := 4, pos := "law.go:185", after := #[{ on := 95, ground := Go.Ground.data }, { on := 98, ground := Go.Ground.data }], guard := none } := rfl
theorem na_g100 : na_ops[100]? = some { dst := some 10, op := Go.Op.assign (Go.Operand.tmp 213), type := 4, pos := "law.go:185", after := ([{ on := 99, ground := Go.Ground.data }, { on := 95, ground := Go.Ground.chain }, { on := 0, ground := Go.Ground.phase }, { on := 1, ground := Go.Ground.phase }, { on := 2, ground := Go.Ground.phase }, { on := 3, ground := Go.Ground.phase }, { on := 4, ground := Go.Ground.phase }, { on := 5, ground := Go.Ground.phase }, { on := 6, ground := Go.Ground.phase }, { on := 7, ground := Go.Ground.phase }, { on := 8, ground := Go.Ground.phase }, { on := 9, ground := Go.Ground.phase }, { on := 10, ground := Go.Ground.phase }, { on := 11, ground := Go.Ground.phase }, { on := 12, ground := Go.Ground.phase }, { on := 13, ground := Go.Ground.phase }, { on := 14, ground := Go.Ground.phase }, { on := 15, ground := Go.Ground.phase }, { on := 16, ground := Go.Ground.phase }, { on := 17, ground := Go.Ground.phase }, { on := 18, ground := Go.Ground.phase }, { on := 19, ground := Go.Ground.phase }, { on := 20, ground := Go.Ground.phase }, { on := 21, ground := Go.Ground.phase }, { on := 22, ground := Go.Ground.phase }, { on := 23, ground := Go.Ground.phase }, { on := 24, ground := Go.Ground.phase }, { on := 25, ground := Go.Ground.phase }, { on := 26, ground := Go.Ground.phase }, { on := 27, ground := Go.Ground.phase }, { on := 28, ground := Go.Ground.phase }, { on := 29, ground := Go.Ground.phase }, { on := 30, ground := Go.Ground.phase }, { on := 31, ground := Go.Ground.phase }, { on := 32, ground := Go.Ground.phase }, { on := 33, ground := Go.Ground.phase }, { on := 34, ground := Go.Ground.phase }, { on := 35, ground := Go.Ground.phase }, { on := 36, ground := Go.Ground.phase }, { on := 37, ground := Go.Ground.phase }, { on := 38, ground := Go.Ground.phase }, { on := 39, ground := Go.Ground.phase }, { on := 40, ground := Go.Ground.phase }, { on := 41, ground := Go.Ground.phase }, { on := 42, ground := Go.Ground.phase }, { on := 43, ground := Go.Ground.phase }, { on := 44, ground := Go.Ground.phase }, { on := 45, ground := Go.Ground.phase }, { on := 46, ground := Go.Ground.phase }, { on := 47, ground := Go.Ground.phase }, { on := 48, ground := Go.Ground.phase }].append [{ on := 49, ground := Go.Ground.phase }, { on := 50, ground := Go.Ground.phase }, { on := 51, ground := Go.Ground.phase }, { on := 52, ground := Go.Ground.phase }, { on := 53, ground := Go.Ground.phase }, { on := 54, ground := Go.Ground.phase }, { on := 55, ground := Go.Ground.phase }, { on := 56, ground := Go.Ground.phase }, { on := 57, ground := Go.Ground.phase }, { on := 58, ground := Go.Ground.phase }, { on := 59, ground := Go.Ground.phase }, { on := 60, ground := Go.Ground.phase }, { on := 61, ground := Go.Ground.phase }, { on := 62, ground := Go.Ground.phase }, { on := 63, ground := Go.Ground.phase }, { on := 64, ground := Go.Ground.phase }, { on := 65, ground := Go.Ground.phase }, { on := 66, ground := Go.Ground.phase }, { on := 67, ground := Go.Ground.phase }, { on := 68, ground := Go.Ground.phase }, { on := 69, ground := Go.Ground.phase }, { on := 70, ground := Go.Ground.phase }, { on := 71, ground := Go.Ground.phase }, { on := 72, ground := Go.Ground.phase }, { on := 73, ground := Go.Ground.phase }, { on := 74, ground := Go.Ground.phase }, { on := 75, ground := Go.Ground.phase }, { on := 76, ground := Go.Ground.phase }, { on := 77, ground := Go.Ground.phase }, { on := 78, ground := Go.Ground.phase }, { on := 79, ground := Go.Ground.phase }, { on := 80, ground := Go.Ground.phase }, { on := 81, ground := Go.Ground.phase }, { on := 82, ground := Go.Ground.phase }, { on := 83, ground := Go.Ground.phase }, { on := 84, ground := Go.Ground.phase }, { on := 85, ground := Go.Ground.phase }, { on := 86, ground := Go.Ground.phase }, { on := 87, ground := Go.Ground.phase }, { on := 88, ground := Go.Ground.phase }, { on := 89, ground := Go.Ground.phase }, { on := 90, ground := Go.Ground.phase }, { on := 91, ground := Go.Ground.phase }, { on := 92, ground := Go.Ground.phase }, { on := 93, ground := Go.Ground.phase }, { on := 94, ground := Go.Ground.phase }, { on := 95, ground := Go.Ground.phase }, { on := 96, ground := Go.Ground.phase }, { on := 97, ground := Go.Ground.phase }, { on := 98, ground := Go.Ground.phase }, { on := 99, ground := Go.Ground.phase }]).toArray, guard := none } := rfl
set_option maxRecDepth 100000 in
set_option maxHeartbeats 4000000 in
theorem LwNumAll (HBg : BegunC) (s : List UInt8) (hs : s.length ≤ 4611686018427387904) (t : List UInt8) (ht : t.length ≤ 4611686018427387904) (m n : Bool) (k : Int) (k1 : -9223372036854775808 ≤ k) (k2 : k < 9223372036854775808) (w : World) (hd : Hd w) :
    Calls Tryz.prog 6 #[.string (str s), .string (str t), .bool m, .bool n, .int .i64 k] w fun e w' => e = .returned (.bool true) ∧ Below w.heap.size w w' := by
  unfold BegunC at HBg
  have HBG := Lib.hid HBg
  have HG := Lib.hid hd
  clear HBg hd
  have K1 := Lib.hid k1
  have K2 := Lib.hid k2
  have HZs := Lib.hid (fun W => Z_any s m W hs)
  have HZt := Lib.hid (fun W => Z_any t n W ht)
  clear hs ht
  generalize str s = zs at *
  generalize str t = zt at *
  go_enter Tryz.func6, Tryz.ntmps6
  go_wp2_with (first
    | (go_at_call 25; (with_reducible refine (HBG.out _ HG.out).mono ?_); rintro e W1 ⟨rfl, hb⟩
       have HB1 := Lib.hid hb
       clear hb)
    | (go_at_call 49; (with_reducible refine (HZs.out _).mono ?_); rintro e W2 ⟨a, x, zA, rfl, ⟨hlt, ha, hna, hx⟩, hb⟩
       obtain ⟨p_a, rfl⟩ := ha.some hna
       obtain ⟨s_x, rfl, h3⟩ := id hx
       obtain ⟨o_x, c_x, rfl⟩ := IsX_slice h3
       have L_zA := Lib.hid hlt
       have H_a := Lib.hid ha
       have N_a := Lib.hid hna
       have H_x := Lib.hid hx
       have H_xA := Lib.hid h3
       have HB2 := Lib.hid hb
       have HB3 := Lib.hid (show Below W2.heap.size W2 (W2.alloc (.cells #[.bool (decide (zA < 0)), .slice o_x (ref.digs (Int.natAbs zA)).length c_x] 57)) from (Below.refl _ _).alloc (Nat.le_refl _) _)
       have M_x := Lib.hid (cells2_new W2 (.bool (decide (zA < 0))) (.slice o_x (ref.digs (Int.natAbs zA)).length c_x) 57)
       clear hlt ha hna hx h3 hb HZs)
    | (go_at_call 49; (with_reducible refine (HZt.out _).mono ?_); rintro e W4 ⟨b, y, zB, rfl, ⟨hlt, ha, hna, hx⟩, hb⟩
       obtain ⟨p_b, rfl⟩ := ha.some hna
       obtain ⟨s_y, rfl, h3⟩ := id hx
       obtain ⟨o_y, c_y, rfl⟩ := IsX_slice h3
       have L_zB := Lib.hid hlt
       have H_b := Lib.hid ha
       have N_b := Lib.hid hna
       have H_y := Lib.hid hx
       have H_yA := Lib.hid h3
       have HB4 := Lib.hid hb
       obtain ⟨d4_x_0, d4_x_1⟩ := (M_x.out.below HB4.out)
       have HB5 := Lib.hid (show Below W4.heap.size W4 (W4.alloc (.cells #[.bool (decide (zB < 0)), .slice o_y (ref.digs (Int.natAbs zB)).length c_y] 57)) from (Below.refl _ _).alloc (Nat.le_refl _) _)
       have M_y := Lib.hid (cells2_new W4 (.bool (decide (zB < 0))) (.slice o_y (ref.digs (Int.natAbs zB)).length c_y) 57)
       clear hlt ha hna hx h3 hb HZt)
    | (fail "no arm"))
  rcases (show zB = 0 ∨ zB ≠ 0 by omega) with hB | hB
  · have HB0 := Lib.hid hB
    have hyl : (((ref.digs (Int.natAbs zB)).length : Nat) : Int) = 0 := by rw [hB, show Int.natAbs 0 = 0 from rfl, ref.digs_zero]; rfl
    clear hB
    have c1 := fun (W : World) (v0 : Value) (v1 : Value) (hh0 : num.IsZ W v0 zA) (hh1 : num.IsZ W v1 zB)  => num.Div_zero v0 v1 zA W hh0 (HB0.out ▸ hh1)
    unfold errOf at c1
    have C1 := Lib.hid c1
    clear c1
    go_wp2_with (first
      | (go_at_call 50; (with_reducible refine (C1.out _ _ _ (((H_a.out.below HB3.out).below HB4.out).below HB5.out) (H_b.out.below HB5.out)).mono ?_); rintro e w9 ⟨rfl, rfl⟩
         clear C1)
      | (go_at_call 29; (with_reducible refine (Same_any 3 _ (((((HG.out.below HB1.out).below HB2.out).below HB3.out).below HB4.out).below HB5.out)).mono ?_); rintro e W6 ⟨rfl, hb⟩
         have HB6 := Lib.hid hb
         obtain ⟨d6_x_0, d6_x_1⟩ := (((M_x.out.below HB4.out).below HB5.out).below HB6.out)
         obtain ⟨d6_y_0, d6_y_1⟩ := (M_y.out.below HB6.out)
         clear hb)
      | (fail "no arm"))
    obtain ⟨vv, bb, hsm, hsi⟩ := small_both zA
    have HSM := Lib.hid hsm
    have HSI := Lib.hid hsi
    clear hsm hsi
    have cx2 := fun (W : World)    => num.Of_any k W K1.out K2.out
    have Cx2 := Lib.hid cx2
    clear cx2
    have cx3 := fun (W : World) (v0 : Value) (hh0 : num.IsZ W v0 k)  => num.Small_in v0 k W hh0 K1.out K2.out
    have Cx3 := Lib.hid cx3
    clear cx3
    have cx4 := fun (W : World) (v0 : Value) (hh0 : num.IsZ W v0 zA)  => HSM.out v0 W hh0
    have Cx4 := Lib.hid cx4
    clear cx4
    have cx5 := fun (W : World) (v0 : Value) (hh0 : ref.IsI W v0 zA)  => HSI.out v0 W hh0
    have Cx5 := Lib.hid cx5
    clear cx5
    go_wp2_with (first
      | (go_at_call 57; (with_reducible refine (Cx2.out _ ).mono ?_); rintro e W7 ⟨z, rfl, ⟨h_z, n_z⟩, hb⟩
         have H_z := Lib.hid h_z
         have N_z := Lib.hid n_z
         have HB7 := Lib.hid hb
         obtain ⟨d7_x_0, d7_x_1⟩ := ((((M_x.out.below HB4.out).below HB5.out).below HB6.out).below HB7.out)
         obtain ⟨d7_y_0, d7_y_1⟩ := ((M_y.out.below HB6.out).below HB7.out)
         clear h_z n_z hb Cx2)
      | (go_at_call 58; (with_reducible refine (Cx3.out _ _ H_z.out).mono ?_); rintro e w9 ⟨rfl, rfl⟩
         clear Cx3)
      | (go_at_call 58; (with_reducible refine (Cx4.out _ _ (((((H_a.out.below HB3.out).below HB4.out).below HB5.out).below HB6.out).below HB7.out)).mono ?_); rintro e w9 ⟨rfl, rfl⟩
         clear Cx4)
      | (go_at_call 59; (with_reducible refine (Cx5.out _ _ (((((H_x.out.below HB3.out).below HB4.out).below HB5.out).below HB6.out).below HB7.out)).mono ?_); rintro e W8 ⟨rfl, hb⟩
         have HB8 := Lib.hid hb
         obtain ⟨d8_x_0, d8_x_1⟩ := (((((M_x.out.below HB4.out).below HB5.out).below HB6.out).below HB7.out).below HB8.out)
         obtain ⟨d8_y_0, d8_y_1⟩ := (((M_y.out.below HB6.out).below HB7.out).below HB8.out)
         clear hb Cx5)
      | (fail "no arm"))
    clear d4_x_0 d4_x_1 d6_x_0 d6_x_1 d6_y_0 d6_y_1 d7_x_0 d7_x_1 d7_y_0 d7_y_1 d8_x_0 d8_x_1 d8_y_0 d8_y_1
    have cx6 := fun (W : World) (v0 : Value) (hh0 : num.IsZ W v0 zA)  => num.Text_any v0 zA W hh0 ((show Bz zA 120 from L_zA.out).nat (by decide))
    have Cx6 := Lib.hid cx6
    clear cx6
    have cx7 := fun (W : World) (v0 : Value) (hh0 : ref.IsI W v0 zA)  => ref.IText_any v0 zA W hh0 ((show Bz zA 120 from L_zA.out).ref (by decide))
    have Cx7 := Lib.hid cx7
    clear cx7
    have cx8 := fun (W : World) (v0 : Value) (v1 : Value) (hh0 : num.IsZ W v0 zA) (hh1 : num.IsZ W v1 zB)  => num.Add_any v0 v1 zA zB W hh0 hh1 ((show Bz zA 120 from L_zA.out).nat (by decide)) ((show Bz zB 120 from L_zB.out).nat (by decide))
    have Cx8 := Lib.hid cx8
    clear cx8
    have cx9 := fun (W : World) (v0 : Value) (hh0 : num.IsZ W v0 (zA + zB))  => num.Text_any v0 (zA + zB) W hh0 ((Bz_add (show Bz zA 120 from L_zA.out) (show Bz zB 120 from L_zB.out)).nat (by decide))
    have Cx9 := Lib.hid cx9
    clear cx9
    have cx10 := fun (W : World) (v0 : Value) (v1 : Value) (hh0 : ref.IsI W v0 zA) (hh1 : ref.IsI W v1 zB)  => ref.Plus_any v0 v1 zA zB W hh0 hh1 ((show Bz zA 120 from L_zA.out).ref (by decide)) ((show Bz zB 120 from L_zB.out).ref (by decide))
    have Cx10 := Lib.hid cx10
    clear cx10
    have cx11 := fun (W : World) (v0 : Value) (hh0 : ref.IsI W v0 (zA + zB))  => ref.IText_any v0 (zA + zB) W hh0 ((Bz_add (show Bz zA 120 from L_zA.out) (show Bz zB 120 from L_zB.out)).ref (by decide))
    have Cx11 := Lib.hid cx11
    clear cx11
    have cx12 := fun (W : World) (v0 : Value) (v1 : Value) (hh0 : num.IsZ W v0 zA) (hh1 : num.IsZ W v1 zB)  => num.Sub_any v0 v1 zA zB W hh0 hh1 ((show Bz zA 120 from L_zA.out).nat (by decide)) ((show Bz zB 120 from L_zB.out).nat (by decide))
    have Cx12 := Lib.hid cx12
    clear cx12
    have cx13 := fun (W : World) (v0 : Value) (hh0 : num.IsZ W v0 (zA - zB))  => num.Text_any v0 (zA - zB) W hh0 ((Bz_sub (show Bz zA 120 from L_zA.out) (show Bz zB 120 from L_zB.out)).nat (by decide))
    have Cx13 := Lib.hid cx13
    clear cx13
    have cx14 := fun (W : World) (v0 : Value) (hh0 : ref.IsI W v0 zB)  => ref.Minus_any v0 zB W hh0
    have Cx14 := Lib.hid cx14
    clear cx14
    have cx15 := fun (W : World) (v0 : Value) (v1 : Value) (hh0 : ref.IsI W v0 zA) (hh1 : ref.IsI W v1 (-zB))  => ref.Plus_any v0 v1 zA (-zB) W hh0 hh1 ((show Bz zA 120 from L_zA.out).ref (by decide)) ((Bz_neg (show Bz zB 120 from L_zB.out)).ref (by decide))
    rw [← Int.sub_eq_add_neg] at cx15
    have Cx15 := Lib.hid cx15
    clear cx15
    have cx16 := fun (W : World) (v0 : Value) (hh0 : ref.IsI W v0 (zA - zB))  => ref.IText_any v0 (zA - zB) W hh0 ((Bz_sub (show Bz zA 120 from L_zA.out) (show Bz zB 120 from L_zB.out)).ref (by decide))
    have Cx16 := Lib.hid cx16
    clear cx16
    have cx17 := fun (W : World) (v0 : Value) (v1 : Value) (hh0 : num.IsZ W v0 zA) (hh1 : num.IsZ W v1 zB)  => num.Mul_any v0 v1 zA zB W hh0 hh1 ((show Bz zA 120 from L_zA.out).nat (by decide)) ((show Bz zB 120 from L_zB.out).nat (by decide))
    have Cx17 := Lib.hid cx17
    clear cx17
    have cx18 := fun (W : World) (v0 : Value) (hh0 : num.IsZ W v0 (zA * zB))  => num.Text_any v0 (zA * zB) W hh0 ((Bz_mul (show Bz zA 120 from L_zA.out) (show Bz zB 120 from L_zB.out)).nat (by decide))
    have Cx18 := Lib.hid cx18
    clear cx18
    have cx19 := fun (W : World) (v0 : Value) (v1 : Value) (hh0 : ref.IsI W v0 zA) (hh1 : ref.IsI W v1 zB)  => ref.Times_any v0 v1 zA zB W hh0 hh1 ((show Bz zA 120 from L_zA.out).ref (by decide)) ((show Bz zB 120 from L_zB.out).ref (by decide))
    have Cx19 := Lib.hid cx19
    clear cx19
    have cx20 := fun (W : World) (v0 : Value) (hh0 : ref.IsI W v0 (zA * zB))  => ref.IText_any v0 (zA * zB) W hh0 ((Bz_mul (show Bz zA 120 from L_zA.out) (show Bz zB 120 from L_zB.out)).ref (by decide))
    have Cx20 := Lib.hid cx20
    clear cx20
    have cx21 := fun (W : World) (v0 : Value) (v1 : Value) (hh0 : num.IsZ W v0 zA) (hh1 : num.IsZ W v1 zB)  => num.Cmp_b v0 v1 zA zB W hh0 hh1 ((show Bz zA 120 from L_zA.out).nat (by decide)) ((show Bz zB 120 from L_zB.out).nat (by decide))
    rw [show cmp3 zA zB = (if zA < zB then (-1 : Int) else if zB < zA then 1 else 0) from rfl] at cx21
    have Cx21 := Lib.hid cx21
    clear cx21
    have cx22 := fun (W : World) (v0 : Value) (v1 : Value) (hh0 : ref.IsI W v0 zA) (hh1 : ref.IsI W v1 zB)  => ref.CmpI_any v0 v1 zA zB W hh0 hh1 ((show Bz zA 120 from L_zA.out).ref (by decide)) ((show Bz zB 120 from L_zB.out).ref (by decide))
    have Cx22 := Lib.hid cx22
    clear cx22
    have cx23 := fun (W : World) (v0 : Value) (hh0 : num.IsZ W v0 zA)  => num.Neg_any v0 zA W hh0
    have Cx23 := Lib.hid cx23
    clear cx23
    have cx24 := fun (W : World) (v0 : Value) (hh0 : num.IsZ W v0 (-zA))  => num.Text_any v0 (-zA) W hh0 ((Bz_neg (show Bz zA 120 from L_zA.out)).nat (by decide))
    have Cx24 := Lib.hid cx24
    clear cx24
    have cx25 := fun (W : World) (v0 : Value) (hh0 : ref.IsI W v0 zA)  => ref.Minus_any v0 zA W hh0
    have Cx25 := Lib.hid cx25
    clear cx25
    have cx26 := fun (W : World) (v0 : Value) (hh0 : ref.IsI W v0 (-zA))  => ref.IText_any v0 (-zA) W hh0 ((Bz_neg (show Bz zA 120 from L_zA.out)).ref (by decide))
    have Cx26 := Lib.hid cx26
    clear cx26
    have cx27 := fun (W : World) (v0 : Value) (hh0 : num.IsZ W v0 zA)  => num.Abs_any v0 zA W hh0
    have Cx27 := Lib.hid cx27
    clear cx27
    have cx28 := fun (W : World) (v0 : Value) (hh0 : nat.IsN W v0 (Int.natAbs zA))  => nat.Text_any v0 (Int.natAbs zA) W hh0 ((Bn_abs (show Bz zA 120 from L_zA.out)).nat (by decide))
    have Cx28 := Lib.hid cx28
    clear cx28
    have cx29 := fun (W : World) (v0 : Value) (hh0 : ref.IsN W v0 (Int.natAbs zA))  => ref.Text_any v0 (Int.natAbs zA) W hh0 ((Bn_abs (show Bz zA 120 from L_zA.out)).ref (by decide))
    have Cx29 := Lib.hid cx29
    clear cx29
    have cx30 := fun (W : World) (v0 : Value) (hh0 : num.IsZ W v0 zA)  => num.Sign_any v0 zA W hh0
    rw [show num.sg zA = (if zA < 0 then (-1 : Int) else if 0 < zA then 1 else 0) from rfl] at cx30
    have Cx30 := Lib.hid cx30
    clear cx30
    have cx31 := fun (W : World) (v0 : Value) (hh0 : ref.IsI W v0 zA)  => ref.CmpI_any v0 (.agg #[.bool false, .slice none 0 0]) zA 0 W hh0 (isI_zero W) ((show Bz zA 120 from L_zA.out).ref (by decide)) ((Bz_small (z := 0) (by decide) (by decide)).ref (by decide))
    have Cx31 := Lib.hid cx31
    clear cx31
    have cx32 := fun (W : World) (v0 : Value) (hh0 : num.IsZ W v0 k)  => num.Text_any v0 k W hh0 ((show Bz k 20 from Bz_small (by have := K1.out; omega) (by have := K2.out; omega)).nat (by decide))
    have Cx32 := Lib.hid cx32
    clear cx32
    have cx33 := fun (W : World)    => ref.Of_any k K1.out (by have := K2.out; omega) W
    have Cx33 := Lib.hid cx33
    clear cx33
    have cx34 := fun (W : World) (v0 : Value) (hh0 : ref.IsI W v0 k)  => ref.IText_any v0 k W hh0 ((show Bz k 20 from Bz_small (by have := K1.out; omega) (by have := K2.out; omega)).ref (by decide))
    have Cx34 := Lib.hid cx34
    clear cx34
    generalize str (Lib.itoa zA) = st0 at *
    generalize str (Lib.itoa (zA + zB)) = st1 at *
    generalize str (Lib.itoa (zA - zB)) = st2 at *
    generalize str (Lib.itoa (zA * zB)) = st3 at *
    generalize str (Lib.itoa (-zA)) = st4 at *
    generalize str (Lib.itoa k) = st5 at *
    generalize str (Lib.decDigits (Int.natAbs zA)) = sab at *
    generalize (if zA < zB then (-1 : Int) else if zB < zA then 1 else 0) = cab at *
    generalize (if zA < 0 then (-1 : Int) else if 0 < zA then 1 else 0) = caz at *
    have HOLD := Lib.hid (fun W (hW : Below W8.heap.size W8 W) => (show Below W8.heap.size W8 W ∧ W.cell? ⟨W2.heap.size, 0, none⟩ = some (.bool (decide (zA < 0))) ∧ W.cell? ⟨W2.heap.size, 1, none⟩ = some (.slice o_x (ref.digs (Int.natAbs zA)).length c_x) ∧ W.cell? ⟨W4.heap.size, 0, none⟩ = some (.bool (decide (zB < 0))) ∧ W.cell? ⟨W4.heap.size, 1, none⟩ = some (.slice o_y (ref.digs (Int.natAbs zB)).length c_y) from ⟨hW, ((((((M_x.out.below HB4.out).below HB5.out).below HB6.out).below HB7.out).below HB8.out).below hW).1, ((((((M_x.out.below HB4.out).below HB5.out).below HB6.out).below HB7.out).below HB8.out).below hW).2, ((((M_y.out.below HB6.out).below HB7.out).below HB8.out).below hW).1, ((((M_y.out.below HB6.out).below HB7.out).below HB8.out).below hW).2⟩))
    refine plan.region_plan (S := fun w' => Below W8.heap.size W8 w' ∧ w'.cell? ⟨W2.heap.size, 0, none⟩ = some (.bool (decide (zA < 0))) ∧ w'.cell? ⟨W2.heap.size, 1, none⟩ = some (.slice o_x (ref.digs (Int.natAbs zA)).length c_x) ∧ w'.cell? ⟨W4.heap.size, 0, none⟩ = some (.bool (decide (zB < 0))) ∧ w'.cell? ⟨W4.heap.size, 1, none⟩ = some (.slice o_y (ref.digs (Int.natAbs zB)).length c_y)) (ops := na_ops) (l := na_plan) (by kernel_rfl) na_sel na_len na_ok (fun _ _ d _ _ h => by cases d <;> exact h) ?_ (fun hHeld => ?_)
    · exact HOLD.out _ (Below.refl _ _).drew
    unfold na_plan
    refine plan.wpPlan_take (v := ?_) na_g0 (Or.inl ⟨by kernel_rfl, ?_⟩) ?_
    rotate_left
    · intro w hSw
      (try dsimp only at hSw)
      go_simp
      (try with_reducible rfl)
    simp only [Act.put, List.setIfInBounds_toArray, List.set_cons_zero, List.set_cons_succ]
    refine plan.wpPlan_take (v := ?_) na_g2 (Or.inl ⟨by kernel_rfl, ?_⟩) ?_
    rotate_left
    · intro w hSw
      (try dsimp only at hSw)
      go_simp
      (try with_reducible rfl)
    simp only [Act.put, List.setIfInBounds_toArray, List.set_cons_zero, List.set_cons_succ]
    refine plan.wpPlan_call na_g1 (fun K hK => ?_)
    rw [if_pos (by kernel_rfl)]
    go_simp
    (go_at_call 52; (with_reducible refine (Cx6.out _ _ (((((((H_a.out.below HB3.out).below HB4.out).below HB5.out).below HB6.out).below HB7.out).below HB8.out).below (Below.refl _ _).drew)).mono ?_); rintro e W9 ⟨rfl, hb⟩
     have HB9 := Lib.hid (nat.below_tr (Below.refl _ _).drew hb)
     have HR9 := Lib.hid HB9.out
     clear hb Cx6)
    (try dsimp only)
    refine hK.out _ _ ?_ (fun hHeld => ?_)
    · exact HOLD.out _ HR9.out
    clear hK K
    refine plan.wpPlan_call na_g3 (fun K hK => ?_)
    rw [if_pos (by kernel_rfl)]
    go_simp
    (go_at_call 53; (with_reducible refine (Cx7.out _ _ (((((((H_x.out.below HB3.out).below HB4.out).below HB5.out).below HB6.out).below HB7.out).below HB8.out).below HR9.out)).mono ?_); rintro e W10 ⟨rfl, hb⟩
     have HB10 := Lib.hid hb
     have HR10 := Lib.hid (nat.below_tr HR9.out HB10.out)
     clear hb Cx7)
    (try dsimp only)
    refine hK.out _ _ ?_ (fun hHeld => ?_)
    · exact HOLD.out _ HR10.out
    clear hK K
    refine plan.wpPlan_take (v := ?_) na_g4 (Or.inl ⟨by kernel_rfl, ?_⟩) ?_
    rotate_left
    · intro w hSw
      (try dsimp only at hSw)
      go_simp
      (try with_reducible rfl)
    simp only [Act.put, List.setIfInBounds_toArray, List.set_cons_zero, List.set_cons_succ]
    refine plan.wpPlan_take (v := ?_) na_g5 (Or.inl ⟨by kernel_rfl, ?_⟩) ?_
    rotate_left
    · intro w hSw
      (try dsimp only at hSw)
      go_simp
      (try with_reducible rfl)
    simp only [Act.put, List.setIfInBounds_toArray, List.set_cons_zero, List.set_cons_succ]
    refine plan.wpPlan_take (v := ?_) na_g6 (Or.inl ⟨by kernel_rfl, ?_⟩) ?_
    rotate_left
    · intro w hSw
      (try dsimp only at hSw)
      go_simp
      (try with_reducible rfl)
    simp only [Act.put, List.setIfInBounds_toArray, List.set_cons_zero, List.set_cons_succ]
    refine plan.wpPlan_take (v := ?_) na_g7 (Or.inl ⟨by kernel_rfl, ?_⟩) ?_
    rotate_left
    · intro w hSw
      (try dsimp only at hSw)
      go_simp
      (try with_reducible rfl)
    simp only [Act.put, List.setIfInBounds_toArray, List.set_cons_zero, List.set_cons_succ]
    refine plan.wpPlan_take (v := ?_) na_g10 (Or.inl ⟨by kernel_rfl, ?_⟩) ?_
    rotate_left
    · intro w hSw
      (try dsimp only at hSw)
      go_simp
      (try with_reducible rfl)
    simp only [Act.put, List.setIfInBounds_toArray, List.set_cons_zero, List.set_cons_succ]
    refine plan.wpPlan_take (v := ?_) na_g11 (Or.inl ⟨by kernel_rfl, ?_⟩) ?_
    rotate_left
    · intro w hSw
      (try dsimp only at hSw)
      go_simp
      (try with_reducible rfl)
    simp only [Act.put, List.setIfInBounds_toArray, List.set_cons_zero, List.set_cons_succ]
    refine plan.wpPlan_call na_g8 (fun K hK => ?_)
    rw [if_pos (by kernel_rfl)]
    go_simp
    (go_at_call 55; (with_reducible refine (Cx8.out _ _ _ (((((((H_a.out.below HB3.out).below HB4.out).below HB5.out).below HB6.out).below HB7.out).below HB8.out).below HR10.out) (((((H_b.out.below HB5.out).below HB6.out).below HB7.out).below HB8.out).below HR10.out)).mono ?_); rintro e W11 ⟨a1, rfl, ⟨h_a1, n_a1⟩, hb⟩
     have H_a1 := Lib.hid h_a1
     have N_a1 := Lib.hid n_a1
     have HB11 := Lib.hid hb
     have HR11 := Lib.hid (nat.below_tr HR10.out HB11.out)
     clear h_a1 n_a1 hb Cx8)
    (try dsimp only)
    refine hK.out _ _ ?_ (fun hHeld => ?_)
    · exact HOLD.out _ HR11.out
    clear hK K
    refine plan.wpPlan_call na_g9 (fun K hK => ?_)
    rw [if_pos (by kernel_rfl)]
    go_simp
    (go_at_call 52; (with_reducible refine (Cx9.out _ _ H_a1.out).mono ?_); rintro e W12 ⟨rfl, hb⟩
     have HB12 := Lib.hid hb
     have HR12 := Lib.hid (nat.below_tr HR11.out HB12.out)
     clear hb Cx9)
    (try dsimp only)
    refine hK.out _ _ ?_ (fun hHeld => ?_)
    · exact HOLD.out _ HR12.out
    clear hK K
    refine plan.wpPlan_call na_g12 (fun K hK => ?_)
    rw [if_pos (by kernel_rfl)]
    go_simp
    (go_at_call 60; (with_reducible refine (Cx10.out _ _ _ (((((((H_x.out.below HB3.out).below HB4.out).below HB5.out).below HB6.out).below HB7.out).below HB8.out).below HR12.out) (((((H_y.out.below HB5.out).below HB6.out).below HB7.out).below HB8.out).below HR12.out)).mono ?_); rintro e W13 ⟨i1, rfl, h_i1, hb⟩
     have H_i1 := Lib.hid h_i1
     have HB13 := Lib.hid hb
     have HR13 := Lib.hid (nat.below_tr HR12.out HB13.out)
     clear h_i1 hb Cx10)
    (try dsimp only)
    refine hK.out _ _ ?_ (fun hHeld => ?_)
    · exact HOLD.out _ HR13.out
    clear hK K
    refine plan.wpPlan_call na_g13 (fun K hK => ?_)
    rw [if_pos (by kernel_rfl)]
    go_simp
    (go_at_call 53; (with_reducible refine (Cx11.out _ _ H_i1.out).mono ?_); rintro e W14 ⟨rfl, hb⟩
     have HB14 := Lib.hid hb
     have HR14 := Lib.hid (nat.below_tr HR13.out HB14.out)
     clear hb Cx11)
    (try dsimp only)
    refine hK.out _ _ ?_ (fun hHeld => ?_)
    · exact HOLD.out _ HR14.out
    clear hK K
    refine plan.wpPlan_take (v := ?_) na_g14 (Or.inl ⟨by kernel_rfl, ?_⟩) ?_
    rotate_left
    · intro w hSw
      (try dsimp only at hSw)
      go_simp
      (try with_reducible rfl)
    simp only [Act.put, List.setIfInBounds_toArray, List.set_cons_zero, List.set_cons_succ]
    refine plan.wpPlan_take (v := ?_) na_g15 (Or.inl ⟨by kernel_rfl, ?_⟩) ?_
    rotate_left
    · intro w hSw
      (try dsimp only at hSw)
      go_simp
      (try with_reducible rfl)
    simp only [Act.put, List.setIfInBounds_toArray, List.set_cons_zero, List.set_cons_succ]
    refine plan.wpPlan_take (v := ?_) na_g16 (Or.inl ⟨by kernel_rfl, ?_⟩) ?_
    rotate_left
    · intro w hSw
      (try dsimp only at hSw)
      go_simp
      (try with_reducible rfl)
    simp only [Act.put, List.setIfInBounds_toArray, List.set_cons_zero, List.set_cons_succ]
    refine plan.wpPlan_take (v := ?_) na_g17 (Or.inl ⟨by kernel_rfl, ?_⟩) ?_
    rotate_left
    · intro w hSw
      (try dsimp only at hSw)
      go_simp
      (try with_reducible rfl)
    simp only [Act.put, List.setIfInBounds_toArray, List.set_cons_zero, List.set_cons_succ]
    refine plan.wpPlan_take (v := ?_) na_g18 (Or.inl ⟨by kernel_rfl, ?_⟩) ?_
    rotate_left
    · intro w hSw
      (try dsimp only at hSw)
      go_simp
      (try with_reducible rfl)
    simp only [Act.put, List.setIfInBounds_toArray, List.set_cons_zero, List.set_cons_succ]
    refine plan.wpPlan_take (v := ?_) na_g21 (Or.inl ⟨by kernel_rfl, ?_⟩) ?_
    rotate_left
    · intro w hSw
      (try dsimp only at hSw)
      go_simp
      (try with_reducible rfl)
    simp only [Act.put, List.setIfInBounds_toArray, List.set_cons_zero, List.set_cons_succ]
    refine plan.wpPlan_take (v := ?_) na_g22 (Or.inl ⟨by kernel_rfl, ?_⟩) ?_
    rotate_left
    · intro w hSw
      (try dsimp only at hSw)
      go_simp
      (try with_reducible rfl)
    simp only [Act.put, List.setIfInBounds_toArray, List.set_cons_zero, List.set_cons_succ]
    refine plan.wpPlan_call na_g19 (fun K hK => ?_)
    rw [if_pos (by kernel_rfl)]
    go_simp
    (go_at_call 61; (with_reducible refine (Cx12.out _ _ _ (((((((H_a.out.below HB3.out).below HB4.out).below HB5.out).below HB6.out).below HB7.out).below HB8.out).below HR14.out) (((((H_b.out.below HB5.out).below HB6.out).below HB7.out).below HB8.out).below HR14.out)).mono ?_); rintro e W15 ⟨a2, rfl, ⟨h_a2, n_a2⟩, hb⟩
     have H_a2 := Lib.hid h_a2
     have N_a2 := Lib.hid n_a2
     have HB15 := Lib.hid hb
     have HR15 := Lib.hid (nat.below_tr HR14.out HB15.out)
     clear h_a2 n_a2 hb Cx12)
    (try dsimp only)
    refine hK.out _ _ ?_ (fun hHeld => ?_)
    · exact HOLD.out _ HR15.out
    clear hK K
    refine plan.wpPlan_call na_g20 (fun K hK => ?_)
    rw [if_pos (by kernel_rfl)]
    go_simp
    (go_at_call 52; (with_reducible refine (Cx13.out _ _ H_a2.out).mono ?_); rintro e W16 ⟨rfl, hb⟩
     have HB16 := Lib.hid hb
     have HR16 := Lib.hid (nat.below_tr HR15.out HB16.out)
     clear hb Cx13)
    (try dsimp only)
    refine hK.out _ _ ?_ (fun hHeld => ?_)
    · exact HOLD.out _ HR16.out
    clear hK K
    refine plan.wpPlan_call na_g23 (fun K hK => ?_)
    rw [if_pos (by kernel_rfl)]
    go_simp
    (go_at_call 62; (with_reducible refine (Cx14.out _ _ (((((H_y.out.below HB5.out).below HB6.out).below HB7.out).below HB8.out).below HR16.out)).mono ?_); rintro e W17 ⟨i2, rfl, h_i2, hb⟩
     have H_i2 := Lib.hid h_i2
     have HB17 := Lib.hid hb
     have HR17 := Lib.hid (nat.below_tr HR16.out HB17.out)
     clear h_i2 hb Cx14)
    (try dsimp only)
    refine hK.out _ _ ?_ (fun hHeld => ?_)
    · exact HOLD.out _ HR17.out
    clear hK K
    refine plan.wpPlan_call na_g24 (fun K hK => ?_)
    rw [if_pos (by kernel_rfl)]
    go_simp
    (go_at_call 60; (with_reducible refine (Cx15.out _ _ _ (((((((H_x.out.below HB3.out).below HB4.out).below HB5.out).below HB6.out).below HB7.out).below HB8.out).below HR17.out) H_i2.out).mono ?_); rintro e W18 ⟨i3, rfl, h_i3, hb⟩
     have H_i3 := Lib.hid h_i3
     have HB18 := Lib.hid hb
     have HR18 := Lib.hid (nat.below_tr HR17.out HB18.out)
     clear h_i3 hb Cx15)
    (try dsimp only)
    refine hK.out _ _ ?_ (fun hHeld => ?_)
    · exact HOLD.out _ HR18.out
    clear hK K
    refine plan.wpPlan_call na_g25 (fun K hK => ?_)
    rw [if_pos (by kernel_rfl)]
    go_simp
    (go_at_call 53; (with_reducible refine (Cx16.out _ _ H_i3.out).mono ?_); rintro e W19 ⟨rfl, hb⟩
     have HB19 := Lib.hid hb
     have HR19 := Lib.hid (nat.below_tr HR18.out HB19.out)
     clear hb Cx16)
    (try dsimp only)
    refine hK.out _ _ ?_ (fun hHeld => ?_)
    · exact HOLD.out _ HR19.out
    clear hK K
    refine plan.wpPlan_take (v := ?_) na_g26 (Or.inl ⟨by kernel_rfl, ?_⟩) ?_
    rotate_left
    · intro w hSw
      (try dsimp only at hSw)
      go_simp
      (try with_reducible rfl)
    simp only [Act.put, List.setIfInBounds_toArray, List.set_cons_zero, List.set_cons_succ]
    refine plan.wpPlan_take (v := ?_) na_g27 (Or.inl ⟨by kernel_rfl, ?_⟩) ?_
    rotate_left
    · intro w hSw
      (try dsimp only at hSw)
      go_simp
      (try with_reducible rfl)
    simp only [Act.put, List.setIfInBounds_toArray, List.set_cons_zero, List.set_cons_succ]
    refine plan.wpPlan_take (v := ?_) na_g28 (Or.inl ⟨by kernel_rfl, ?_⟩) ?_
    rotate_left
    · intro w hSw
      (try dsimp only at hSw)
      go_simp
      (try with_reducible rfl)
    simp only [Act.put, List.setIfInBounds_toArray, List.set_cons_zero, List.set_cons_succ]
    refine plan.wpPlan_take (v := ?_) na_g29 (Or.inl ⟨by kernel_rfl, ?_⟩) ?_
    rotate_left
    · intro w hSw
      (try dsimp only at hSw)
      go_simp
      (try with_reducible rfl)
    simp only [Act.put, List.setIfInBounds_toArray, List.set_cons_zero, List.set_cons_succ]
    refine plan.wpPlan_take (v := ?_) na_g30 (Or.inl ⟨by kernel_rfl, ?_⟩) ?_
    rotate_left
    · intro w hSw
      (try dsimp only at hSw)
      go_simp
      (try with_reducible rfl)
    simp only [Act.put, List.setIfInBounds_toArray, List.set_cons_zero, List.set_cons_succ]
    refine plan.wpPlan_take (v := ?_) na_g33 (Or.inl ⟨by kernel_rfl, ?_⟩) ?_
    rotate_left
    · intro w hSw
      (try dsimp only at hSw)
      go_simp
      (try with_reducible rfl)
    simp only [Act.put, List.setIfInBounds_toArray, List.set_cons_zero, List.set_cons_succ]
    refine plan.wpPlan_take (v := ?_) na_g34 (Or.inl ⟨by kernel_rfl, ?_⟩) ?_
    rotate_left
    · intro w hSw
      (try dsimp only at hSw)
      go_simp
      (try with_reducible rfl)
    simp only [Act.put, List.setIfInBounds_toArray, List.set_cons_zero, List.set_cons_succ]
    refine plan.wpPlan_call na_g31 (fun K hK => ?_)
    rw [if_pos (by kernel_rfl)]
    go_simp
    (go_at_call 54; (with_reducible refine (Cx17.out _ _ _ (((((((H_a.out.below HB3.out).below HB4.out).below HB5.out).below HB6.out).below HB7.out).below HB8.out).below HR19.out) (((((H_b.out.below HB5.out).below HB6.out).below HB7.out).below HB8.out).below HR19.out)).mono ?_); rintro e W20 ⟨a3, rfl, ⟨h_a3, n_a3⟩, hb⟩
     have H_a3 := Lib.hid h_a3
     have N_a3 := Lib.hid n_a3
     have HB20 := Lib.hid hb
     have HR20 := Lib.hid (nat.below_tr HR19.out HB20.out)
     clear h_a3 n_a3 hb Cx17)
    (try dsimp only)
    refine hK.out _ _ ?_ (fun hHeld => ?_)
    · exact HOLD.out _ HR20.out
    clear hK K
    refine plan.wpPlan_call na_g32 (fun K hK => ?_)
    rw [if_pos (by kernel_rfl)]
    go_simp
    (go_at_call 52; (with_reducible refine (Cx18.out _ _ H_a3.out).mono ?_); rintro e W21 ⟨rfl, hb⟩
     have HB21 := Lib.hid hb
     have HR21 := Lib.hid (nat.below_tr HR20.out HB21.out)
     clear hb Cx18)
    (try dsimp only)
    refine hK.out _ _ ?_ (fun hHeld => ?_)
    · exact HOLD.out _ HR21.out
    clear hK K
    refine plan.wpPlan_call na_g35 (fun K hK => ?_)
    rw [if_pos (by kernel_rfl)]
    go_simp
    (go_at_call 63; (with_reducible refine (Cx19.out _ _ _ (((((((H_x.out.below HB3.out).below HB4.out).below HB5.out).below HB6.out).below HB7.out).below HB8.out).below HR21.out) (((((H_y.out.below HB5.out).below HB6.out).below HB7.out).below HB8.out).below HR21.out)).mono ?_); rintro e W22 ⟨i4, rfl, h_i4, hb⟩
     have H_i4 := Lib.hid h_i4
     have HB22 := Lib.hid hb
     have HR22 := Lib.hid (nat.below_tr HR21.out HB22.out)
     clear h_i4 hb Cx19)
    (try dsimp only)
    refine hK.out _ _ ?_ (fun hHeld => ?_)
    · exact HOLD.out _ HR22.out
    clear hK K
    refine plan.wpPlan_call na_g36 (fun K hK => ?_)
    rw [if_pos (by kernel_rfl)]
    go_simp
    (go_at_call 53; (with_reducible refine (Cx20.out _ _ H_i4.out).mono ?_); rintro e W23 ⟨rfl, hb⟩
     have HB23 := Lib.hid hb
     have HR23 := Lib.hid (nat.below_tr HR22.out HB23.out)
     clear hb Cx20)
    (try dsimp only)
    refine hK.out _ _ ?_ (fun hHeld => ?_)
    · exact HOLD.out _ HR23.out
    clear hK K
    refine plan.wpPlan_take (v := ?_) na_g37 (Or.inl ⟨by kernel_rfl, ?_⟩) ?_
    rotate_left
    · intro w hSw
      (try dsimp only at hSw)
      go_simp
      (try with_reducible rfl)
    simp only [Act.put, List.setIfInBounds_toArray, List.set_cons_zero, List.set_cons_succ]
    refine plan.wpPlan_take (v := ?_) na_g38 (Or.inl ⟨by kernel_rfl, ?_⟩) ?_
    rotate_left
    · intro w hSw
      (try dsimp only at hSw)
      go_simp
      (try with_reducible rfl)
    simp only [Act.put, List.setIfInBounds_toArray, List.set_cons_zero, List.set_cons_succ]
    refine plan.wpPlan_take (v := ?_) na_g39 (Or.inl ⟨by kernel_rfl, ?_⟩) ?_
    rotate_left
    · intro w hSw
      (try dsimp only at hSw)
      go_simp
      (try with_reducible rfl)
    simp only [Act.put, List.setIfInBounds_toArray, List.set_cons_zero, List.set_cons_succ]
    refine plan.wpPlan_take (v := ?_) na_g40 (Or.inl ⟨by kernel_rfl, ?_⟩) ?_
    rotate_left
    · intro w hSw
      (try dsimp only at hSw)
      go_simp
      (try with_reducible rfl)
    simp only [Act.put, List.setIfInBounds_toArray, List.set_cons_zero, List.set_cons_succ]
    refine plan.wpPlan_take (v := ?_) na_g41 (Or.inl ⟨by kernel_rfl, ?_⟩) ?_
    rotate_left
    · intro w hSw
      (try dsimp only at hSw)
      go_simp
      (try with_reducible rfl)
    simp only [Act.put, List.setIfInBounds_toArray, List.set_cons_zero, List.set_cons_succ]
    refine plan.wpPlan_take (v := ?_) na_g43 (Or.inl ⟨by kernel_rfl, ?_⟩) ?_
    rotate_left
    · intro w hSw
      (try dsimp only at hSw)
      go_simp
      (try with_reducible rfl)
    simp only [Act.put, List.setIfInBounds_toArray, List.set_cons_zero, List.set_cons_succ]
    refine plan.wpPlan_take (v := ?_) na_g44 (Or.inl ⟨by kernel_rfl, ?_⟩) ?_
    rotate_left
    · intro w hSw
      (try dsimp only at hSw)
      go_simp
      (try with_reducible rfl)
    simp only [Act.put, List.setIfInBounds_toArray, List.set_cons_zero, List.set_cons_succ]
    refine plan.wpPlan_call na_g42 (fun K hK => ?_)
    rw [if_pos (by kernel_rfl)]
    go_simp
    (go_at_call 56; (with_reducible refine (Cx21.out _ _ _ (((((((H_a.out.below HB3.out).below HB4.out).below HB5.out).below HB6.out).below HB7.out).below HB8.out).below HR23.out) (((((H_b.out.below HB5.out).below HB6.out).below HB7.out).below HB8.out).below HR23.out)).mono ?_); rintro e W24 ⟨rfl, hb⟩
     have HB24 := Lib.hid hb
     have HR24 := Lib.hid (nat.below_tr HR23.out HB24.out)
     clear hb Cx21)
    (try dsimp only)
    refine hK.out _ _ ?_ (fun hHeld => ?_)
    · exact HOLD.out _ HR24.out
    clear hK K
    refine plan.wpPlan_call na_g45 (fun K hK => ?_)
    rw [if_pos (by kernel_rfl)]
    go_simp
    (go_at_call 64; (with_reducible refine (Cx22.out _ _ _ (((((((H_x.out.below HB3.out).below HB4.out).below HB5.out).below HB6.out).below HB7.out).below HB8.out).below HR24.out) (((((H_y.out.below HB5.out).below HB6.out).below HB7.out).below HB8.out).below HR24.out)).mono ?_); rintro e W25 ⟨rfl, hb⟩
     have HB25 := Lib.hid hb
     have HR25 := Lib.hid (nat.below_tr HR24.out HB25.out)
     clear hb Cx22)
    (try dsimp only)
    refine hK.out _ _ ?_ (fun hHeld => ?_)
    · exact HOLD.out _ HR25.out
    clear hK K
    refine plan.wpPlan_take (v := ?_) na_g46 (Or.inl ⟨by kernel_rfl, ?_⟩) ?_
    rotate_left
    · intro w hSw
      (try dsimp only at hSw)
      go_simp
      (try with_reducible rfl)
    simp only [Act.put, List.setIfInBounds_toArray, List.set_cons_zero, List.set_cons_succ]
    refine plan.wpPlan_take (v := ?_) na_g47 (Or.inl ⟨by kernel_rfl, ?_⟩) ?_
    rotate_left
    · intro w hSw
      (try dsimp only at hSw)
      go_simp
      (try with_reducible rfl)
    simp only [Act.put, List.setIfInBounds_toArray, List.set_cons_zero, List.set_cons_succ]
    refine plan.wpPlan_take (v := ?_) na_g48 (Or.inl ⟨by kernel_rfl, ?_⟩) ?_
    rotate_left
    · intro w hSw
      (try dsimp only at hSw)
      go_simp
      (try with_reducible rfl)
    simp only [Act.put, List.setIfInBounds_toArray, List.set_cons_zero, List.set_cons_succ]
    refine plan.wpPlan_take (v := ?_) na_g49 (Or.inl ⟨by kernel_rfl, ?_⟩) ?_
    rotate_left
    · intro w hSw
      (try dsimp only at hSw)
      go_simp
      (try with_reducible rfl)
    simp only [Act.put, List.setIfInBounds_toArray, List.set_cons_zero, List.set_cons_succ]
    refine plan.wpPlan_take (v := ?_) na_g52 (Or.inl ⟨by kernel_rfl, ?_⟩) ?_
    rotate_left
    · intro w hSw
      (try dsimp only at hSw)
      go_simp
      (try with_reducible rfl)
    simp only [Act.put, List.setIfInBounds_toArray, List.set_cons_zero, List.set_cons_succ]
    refine plan.wpPlan_call na_g50 (fun K hK => ?_)
    rw [if_pos (by kernel_rfl)]
    go_simp
    (go_at_call 65; (with_reducible refine (Cx23.out _ _ (((((((H_a.out.below HB3.out).below HB4.out).below HB5.out).below HB6.out).below HB7.out).below HB8.out).below HR25.out)).mono ?_); rintro e W26 ⟨a5, rfl, ⟨h_a5, n_a5⟩, hb⟩
     have H_a5 := Lib.hid h_a5
     have N_a5 := Lib.hid n_a5
     have HB26 := Lib.hid hb
     have HR26 := Lib.hid (nat.below_tr HR25.out HB26.out)
     clear h_a5 n_a5 hb Cx23)
    (try dsimp only)
    refine hK.out _ _ ?_ (fun hHeld => ?_)
    · exact HOLD.out _ HR26.out
    clear hK K
    refine plan.wpPlan_call na_g51 (fun K hK => ?_)
    rw [if_pos (by kernel_rfl)]
    go_simp
    (go_at_call 52; (with_reducible refine (Cx24.out _ _ H_a5.out).mono ?_); rintro e W27 ⟨rfl, hb⟩
     have HB27 := Lib.hid hb
     have HR27 := Lib.hid (nat.below_tr HR26.out HB27.out)
     clear hb Cx24)
    (try dsimp only)
    refine hK.out _ _ ?_ (fun hHeld => ?_)
    · exact HOLD.out _ HR27.out
    clear hK K
    refine plan.wpPlan_call na_g53 (fun K hK => ?_)
    rw [if_pos (by kernel_rfl)]
    go_simp
    (go_at_call 62; (with_reducible refine (Cx25.out _ _ (((((((H_x.out.below HB3.out).below HB4.out).below HB5.out).below HB6.out).below HB7.out).below HB8.out).below HR27.out)).mono ?_); rintro e W28 ⟨i5, rfl, h_i5, hb⟩
     have H_i5 := Lib.hid h_i5
     have HB28 := Lib.hid hb
     have HR28 := Lib.hid (nat.below_tr HR27.out HB28.out)
     clear h_i5 hb Cx25)
    (try dsimp only)
    refine hK.out _ _ ?_ (fun hHeld => ?_)
    · exact HOLD.out _ HR28.out
    clear hK K
    refine plan.wpPlan_call na_g54 (fun K hK => ?_)
    rw [if_pos (by kernel_rfl)]
    go_simp
    (go_at_call 53; (with_reducible refine (Cx26.out _ _ H_i5.out).mono ?_); rintro e W29 ⟨rfl, hb⟩
     have HB29 := Lib.hid hb
     have HR29 := Lib.hid (nat.below_tr HR28.out HB29.out)
     clear hb Cx26)
    (try dsimp only)
    refine hK.out _ _ ?_ (fun hHeld => ?_)
    · exact HOLD.out _ HR29.out
    clear hK K
    refine plan.wpPlan_take (v := ?_) na_g55 (Or.inl ⟨by kernel_rfl, ?_⟩) ?_
    rotate_left
    · intro w hSw
      (try dsimp only at hSw)
      go_simp
      (try with_reducible rfl)
    simp only [Act.put, List.setIfInBounds_toArray, List.set_cons_zero, List.set_cons_succ]
    refine plan.wpPlan_take (v := ?_) na_g56 (Or.inl ⟨by kernel_rfl, ?_⟩) ?_
    rotate_left
    · intro w hSw
      (try dsimp only at hSw)
      go_simp
      (try with_reducible rfl)
    simp only [Act.put, List.setIfInBounds_toArray, List.set_cons_zero, List.set_cons_succ]
    refine plan.wpPlan_take (v := ?_) na_g57 (Or.inl ⟨by kernel_rfl, ?_⟩) ?_
    rotate_left
    · intro w hSw
      (try dsimp only at hSw)
      go_simp
      (try with_reducible rfl)
    simp only [Act.put, List.setIfInBounds_toArray, List.set_cons_zero, List.set_cons_succ]
    refine plan.wpPlan_take (v := ?_) na_g58 (Or.inl ⟨by kernel_rfl, ?_⟩) ?_
    rotate_left
    · intro w hSw
      (try dsimp only at hSw)
      go_simp
      (try with_reducible rfl)
    simp only [Act.put, List.setIfInBounds_toArray, List.set_cons_zero, List.set_cons_succ]
    refine plan.wpPlan_take (v := ?_) na_g61 (Or.inl ⟨by kernel_rfl, ?_⟩) ?_
    rotate_left
    · intro w hSw
      (try dsimp only at hSw)
      go_simp
      (try with_reducible rfl)
    simp only [Act.put, List.setIfInBounds_toArray, List.set_cons_zero, List.set_cons_succ]
    refine plan.wpPlan_take (v := ?_) na_g62 (Or.inl ⟨by kernel_rfl, ?_⟩) ?_
    rotate_left
    · intro w hSw
      (try dsimp only at hSw)
      go_simp
      (try with_reducible rfl)
    simp only [Act.put, List.setIfInBounds_toArray, List.set_cons_zero, List.set_cons_succ]
    refine plan.wpPlan_call na_g59 (fun K hK => ?_)
    rw [if_pos (by kernel_rfl)]
    go_simp
    (go_at_call 66; (with_reducible refine (Cx27.out _ _ (((((((H_a.out.below HB3.out).below HB4.out).below HB5.out).below HB6.out).below HB7.out).below HB8.out).below HR29.out)).mono ?_); rintro e W30 ⟨a6, rfl, ⟨h_a6, n_a6⟩, hb⟩
     have H_a6 := Lib.hid h_a6
     have N_a6 := Lib.hid n_a6
     have HB30 := Lib.hid hb
     have HR30 := Lib.hid (nat.below_tr HR29.out HB30.out)
     clear h_a6 n_a6 hb Cx27)
    (try dsimp only)
    refine hK.out _ _ ?_ (fun hHeld => ?_)
    · exact HOLD.out _ HR30.out
    clear hK K
    refine plan.wpPlan_call na_g60 (fun K hK => ?_)
    rw [if_pos (by kernel_rfl)]
    go_simp
    (go_at_call 30; (with_reducible refine (Cx28.out _ _ H_a6.out).mono ?_); rintro e W31 ⟨rfl, hb⟩
     have HB31 := Lib.hid hb
     have HR31 := Lib.hid (nat.below_tr HR30.out HB31.out)
     clear hb Cx28)
    (try dsimp only)
    refine hK.out _ _ ?_ (fun hHeld => ?_)
    · exact HOLD.out _ HR31.out
    clear hK K
    refine plan.wpPlan_call na_g63 (fun K hK => ?_)
    rw [if_pos (by kernel_rfl)]
    go_simp
    (go_at_call 32; (with_reducible refine (Cx29.out _ _ (((((((H_xA.out.below HB3.out).below HB4.out).below HB5.out).below HB6.out).below HB7.out).below HB8.out).below HR31.out)).mono ?_); rintro e W32 ⟨rfl, hb⟩
     have HB32 := Lib.hid hb
     have HR32 := Lib.hid (nat.below_tr HR31.out HB32.out)
     clear hb Cx29)
    (try dsimp only)
    refine hK.out _ _ ?_ (fun hHeld => ?_)
    · exact HOLD.out _ HR32.out
    clear hK K
    refine plan.wpPlan_take (v := ?_) na_g64 (Or.inl ⟨by kernel_rfl, ?_⟩) ?_
    rotate_left
    · intro w hSw
      (try dsimp only at hSw)
      go_simp
      (try with_reducible rfl)
    simp only [Act.put, List.setIfInBounds_toArray, List.set_cons_zero, List.set_cons_succ]
    refine plan.wpPlan_take (v := ?_) na_g65 (Or.inl ⟨by kernel_rfl, ?_⟩) ?_
    rotate_left
    · intro w hSw
      (try dsimp only at hSw)
      go_simp
      (try with_reducible rfl)
    simp only [Act.put, List.setIfInBounds_toArray, List.set_cons_zero, List.set_cons_succ]
    refine plan.wpPlan_take (v := ?_) na_g66 (Or.inl ⟨by kernel_rfl, ?_⟩) ?_
    rotate_left
    · intro w hSw
      (try dsimp only at hSw)
      go_simp
      (try with_reducible rfl)
    simp only [Act.put, List.setIfInBounds_toArray, List.set_cons_zero, List.set_cons_succ]
    refine plan.wpPlan_take (v := ?_) na_g67 (Or.inl ⟨by kernel_rfl, ?_⟩) ?_
    rotate_left
    · intro w hSw
      (try dsimp only at hSw)
      go_simp
      (try with_reducible rfl)
    simp only [Act.put, List.setIfInBounds_toArray, List.set_cons_zero, List.set_cons_succ]
    refine plan.wpPlan_take (v := ?_) na_g69 (Or.inl ⟨by kernel_rfl, ?_⟩) ?_
    rotate_left
    · intro w hSw
      (try dsimp only at hSw)
      go_simp
      (try with_reducible rfl)
    simp only [Act.put, List.setIfInBounds_toArray, List.set_cons_zero, List.set_cons_succ]
    refine plan.wpPlan_take (v := ?_) na_g70 (Or.inl ⟨by kernel_rfl, ?_⟩) ?_
    rotate_left
    · intro w hSw
      (try dsimp only at hSw)
      go_simp
      (try with_reducible rfl)
    simp only [Act.put, List.setIfInBounds_toArray, List.set_cons_zero, List.set_cons_succ]
    refine plan.wpPlan_call na_g68 (fun K hK => ?_)
    rw [if_pos (by kernel_rfl)]
    go_simp
    (go_at_call 67; (with_reducible refine (Cx30.out _ _ (((((((H_a.out.below HB3.out).below HB4.out).below HB5.out).below HB6.out).below HB7.out).below HB8.out).below HR32.out)).mono ?_); rintro e w9 ⟨rfl, rfl⟩
     clear Cx30)
    (try dsimp only)
    refine hK.out _ _ ?_ (fun hHeld => ?_)
    · exact HOLD.out _ HR32.out
    clear hK K
    refine plan.wpPlan_call na_g71 (fun K hK => ?_)
    rw [if_pos (by kernel_rfl)]
    go_simp
    (go_at_call 64; (with_reducible refine (Cx31.out _ _ (((((((H_x.out.below HB3.out).below HB4.out).below HB5.out).below HB6.out).below HB7.out).below HB8.out).below HR32.out)).mono ?_); rintro e W33 ⟨rfl, hb⟩
     have HB33 := Lib.hid hb
     have HR33 := Lib.hid (nat.below_tr HR32.out HB33.out)
     clear hb Cx31)
    (try dsimp only)
    refine hK.out _ _ ?_ (fun hHeld => ?_)
    · exact HOLD.out _ HR33.out
    clear hK K
    refine plan.wpPlan_take (v := ?_) na_g72 (Or.inl ⟨by kernel_rfl, ?_⟩) ?_
    rotate_left
    · intro w hSw
      (try dsimp only at hSw)
      go_simp
      (try with_reducible rfl)
    simp only [Act.put, List.setIfInBounds_toArray, List.set_cons_zero, List.set_cons_succ]
    refine plan.wpPlan_take (v := ?_) na_g73 (Or.inl ⟨by kernel_rfl, ?_⟩) ?_
    rotate_left
    · intro w hSw
      (try dsimp only at hSw)
      go_simp
      (try with_reducible rfl)
    simp only [Act.put, List.setIfInBounds_toArray, List.set_cons_zero, List.set_cons_succ]
    refine plan.wpPlan_take (v := ?_) na_g74 (Or.inl ⟨by kernel_rfl, ?_⟩) ?_
    rotate_left
    · intro w hSw
      (try dsimp only at hSw)
      go_simp
      (try with_reducible rfl)
    simp only [Act.put, List.setIfInBounds_toArray, List.set_cons_zero, List.set_cons_succ]
    refine plan.wpPlan_take (v := ?_) na_g75 (Or.inl ⟨by kernel_rfl, ?_⟩) ?_
    rotate_left
    · intro w hSw
      (try dsimp only at hSw)
      go_simp
      (try with_reducible rfl)
    simp only [Act.put, List.setIfInBounds_toArray, List.set_cons_zero, List.set_cons_succ]
    refine plan.wpPlan_take (v := ?_) na_g76 (Or.inl ⟨by kernel_rfl, ?_⟩) ?_
    rotate_left
    · intro w hSw
      (try dsimp only at hSw)
      go_simp
      (try with_reducible rfl)
    simp only [Act.put, List.setIfInBounds_toArray, List.set_cons_zero, List.set_cons_succ]
    refine plan.wpPlan_take (v := ?_) na_g77 (Or.inl ⟨by kernel_rfl, ?_⟩) ?_
    rotate_left
    · intro w hSw
      (try dsimp only at hSw)
      go_simp
      (try with_reducible rfl)
    simp only [Act.put, List.setIfInBounds_toArray, List.set_cons_zero, List.set_cons_succ]
    refine plan.wpPlan_take (v := ?_) na_g78 (Or.inl ⟨by kernel_rfl, ?_⟩) ?_
    rotate_left
    · intro w hSw
      (try dsimp only at hSw)
      go_simp
      (try with_reducible rfl)
    simp only [Act.put, List.setIfInBounds_toArray, List.set_cons_zero, List.set_cons_succ]
    refine plan.wpPlan_take (v := ?_) na_g79 (Or.inl ⟨by kernel_rfl, ?_⟩) ?_
    rotate_left
    · intro w hSw
      (try dsimp only at hSw)
      go_simp
      (try with_reducible rfl)
    simp only [Act.put, List.setIfInBounds_toArray, List.set_cons_zero, List.set_cons_succ]
    refine plan.wpPlan_take (v := ?_) na_g80 (Or.inl ⟨by kernel_rfl, ?_⟩) ?_
    rotate_left
    · intro w hSw
      (try dsimp only at hSw)
      go_simp
      (try with_reducible rfl)
    simp only [Act.put, List.setIfInBounds_toArray, List.set_cons_zero, List.set_cons_succ]
    refine plan.wpPlan_take (v := ?_) na_g81 (Or.inl ⟨by kernel_rfl, ?_⟩) ?_
    rotate_left
    · intro w hSw
      (try dsimp only at hSw)
      go_simp
      (try with_reducible rfl)
    simp only [Act.put, List.setIfInBounds_toArray, List.set_cons_zero, List.set_cons_succ]
    refine plan.wpPlan_take (v := ?_) na_g82 (Or.inl ⟨by kernel_rfl, ?_⟩) ?_
    rotate_left
    · intro w hSw
      (try dsimp only at hSw)
      go_simp
      (try with_reducible rfl)
    simp only [Act.put, List.setIfInBounds_toArray, List.set_cons_zero, List.set_cons_succ]
    refine plan.wpPlan_take (v := ?_) na_g83 (Or.inl ⟨by kernel_rfl, ?_⟩) ?_
    rotate_left
    · intro w hSw
      (try dsimp only at hSw)
      go_simp
      (try with_reducible rfl)
    simp only [Act.put, List.setIfInBounds_toArray, List.set_cons_zero, List.set_cons_succ]
    refine plan.wpPlan_take (v := ?_) na_g85 (Or.inl ⟨by kernel_rfl, ?_⟩) ?_
    rotate_left
    · intro w hSw
      (try dsimp only at hSw)
      go_simp
      (try with_reducible rfl)
    simp only [Act.put, List.setIfInBounds_toArray, List.set_cons_zero, List.set_cons_succ]
    refine plan.wpPlan_call na_g84 (fun K hK => ?_)
    rw [if_pos (by kernel_rfl)]
    go_simp
    (go_at_call 52; (with_reducible refine (Cx32.out _ _ ((H_z.out.below HB8.out).below HR33.out)).mono ?_); rintro e W34 ⟨rfl, hb⟩
     have HB34 := Lib.hid hb
     have HR34 := Lib.hid (nat.below_tr HR33.out HB34.out)
     clear hb Cx32)
    (try dsimp only)
    refine hK.out _ _ ?_ (fun hHeld => ?_)
    · exact HOLD.out _ HR34.out
    clear hK K
    refine plan.wpPlan_call na_g86 (fun K hK => ?_)
    rw [if_pos (by kernel_rfl)]
    go_simp
    (go_at_call 68; (with_reducible refine (Cx33.out _ ).mono ?_); rintro e W35 ⟨i7, rfl, h_i7, hb⟩
     have H_i7 := Lib.hid h_i7
     have HB35 := Lib.hid hb
     have HR35 := Lib.hid (nat.below_tr HR34.out HB35.out)
     clear h_i7 hb Cx33)
    (try dsimp only)
    refine hK.out _ _ ?_ (fun hHeld => ?_)
    · exact HOLD.out _ HR35.out
    clear hK K
    refine plan.wpPlan_call na_g87 (fun K hK => ?_)
    rw [if_pos (by kernel_rfl)]
    go_simp
    (go_at_call 53; (with_reducible refine (Cx34.out _ _ H_i7.out).mono ?_); rintro e W36 ⟨rfl, hb⟩
     have HB36 := Lib.hid hb
     have HR36 := Lib.hid (nat.below_tr HR35.out HB36.out)
     clear hb Cx34)
    (try dsimp only)
    refine hK.out _ _ ?_ (fun hHeld => ?_)
    · exact HOLD.out _ HR36.out
    clear hK K
    refine plan.wpPlan_take (v := ?_) na_g88 (Or.inl ⟨by kernel_rfl, ?_⟩) ?_
    rotate_left
    · intro w hSw
      (try dsimp only at hSw)
      go_simp
      (try with_reducible rfl)
    simp only [Act.put, List.setIfInBounds_toArray, List.set_cons_zero, List.set_cons_succ]
    refine plan.wpPlan_take (v := ?_) na_g89 (Or.inl ⟨by kernel_rfl, ?_⟩) ?_
    rotate_left
    · intro w hSw
      (try dsimp only at hSw)
      go_simp
      (try with_reducible rfl)
    simp only [Act.put, List.setIfInBounds_toArray, List.set_cons_zero, List.set_cons_succ]
    refine plan.wpPlan_take (v := ?_) na_g90 (Or.inl ⟨by kernel_rfl, ?_⟩) ?_
    rotate_left
    · intro w hSw
      (try dsimp only at hSw)
      go_simp
      (try with_reducible rfl)
    simp only [Act.put, List.setIfInBounds_toArray, List.set_cons_zero, List.set_cons_succ]
    refine plan.wpPlan_take (v := ?_) na_g91 (Or.inl ⟨by kernel_rfl, ?_⟩) ?_
    rotate_left
    · intro w hSw
      (try dsimp only at hSw)
      go_simp
      (try with_reducible rfl)
    simp only [Act.put, List.setIfInBounds_toArray, List.set_cons_zero, List.set_cons_succ]
    refine plan.wpPlan_take (v := ?_) na_g92 (Or.inl ⟨by kernel_rfl, ?_⟩) ?_
    rotate_left
    · intro w hSw
      (try dsimp only at hSw)
      go_simp
      (try with_reducible rfl)
    simp only [Act.put, List.setIfInBounds_toArray, List.set_cons_zero, List.set_cons_succ]
    refine plan.wpPlan_take (v := ?_) na_g93 (Or.inl ⟨by kernel_rfl, ?_⟩) ?_
    rotate_left
    · intro w hSw
      (try dsimp only at hSw)
      go_simp
      (try with_reducible rfl)
    simp only [Act.put, List.setIfInBounds_toArray, List.set_cons_zero, List.set_cons_succ]
    refine plan.wpPlan_take (v := ?_) na_g94 (Or.inl ⟨by kernel_rfl, ?_⟩) ?_
    rotate_left
    · intro w hSw
      (try dsimp only at hSw)
      go_simp
      (try with_reducible rfl)
    simp only [Act.put, List.setIfInBounds_toArray, List.set_cons_zero, List.set_cons_succ]
    refine plan.wpPlan_take (v := ?_) na_g95 (Or.inl ⟨by kernel_rfl, ?_⟩) ?_
    rotate_left
    · intro w hSw
      (try dsimp only at hSw)
      go_simp
      (try with_reducible rfl)
    simp only [Act.put, List.setIfInBounds_toArray, List.set_cons_zero, List.set_cons_succ]
    refine plan.wpPlan_take (v := ?_) na_g96 (Or.inl ⟨by kernel_rfl, ?_⟩) ?_
    rotate_left
    · intro w hSw
      (try dsimp only at hSw)
      go_simp
      (try with_reducible rfl)
    simp only [Act.put, List.setIfInBounds_toArray, List.set_cons_zero, List.set_cons_succ]
    refine plan.wpPlan_take (v := ?_) na_g97 (Or.inl ⟨by kernel_rfl, ?_⟩) ?_
    rotate_left
    · intro w hSw
      (try dsimp only at hSw)
      go_simp
      (try with_reducible rfl)
    simp only [Act.put, List.setIfInBounds_toArray, List.set_cons_zero, List.set_cons_succ]
    refine plan.wpPlan_take (v := ?_) na_g98 (Or.inl ⟨by kernel_rfl, ?_⟩) ?_
    rotate_left
    · intro w hSw
      (try dsimp only at hSw)
      go_simp
      (try with_reducible rfl)
    simp only [Act.put, List.setIfInBounds_toArray, List.set_cons_zero, List.set_cons_succ]
    refine plan.wpPlan_take (v := ?_) na_g99 (Or.inl ⟨by kernel_rfl, ?_⟩) ?_
    rotate_left
    · intro w hSw
      (try dsimp only at hSw)
      go_simp
      (try with_reducible rfl)
    simp only [Act.put, List.setIfInBounds_toArray, List.set_cons_zero, List.set_cons_succ]
    refine plan.wpPlan_take (v := ?_) na_g100 (Or.inl ⟨by kernel_rfl, ?_⟩) ?_
    rotate_left
    · intro w hSw
      (try dsimp only at hSw)
      go_simp
      (try with_reducible rfl)
    simp only [Act.put, List.setIfInBounds_toArray, List.set_cons_zero, List.set_cons_succ]
    refine plan.wpPlan_done ?_
    go_wp2
    skip
    all_goals (go_ret; exact ⟨rfl, (nat.below_tr (nat.below_tr (nat.below_tr (nat.below_tr (nat.below_tr (nat.below_tr (nat.below_tr (nat.below_tr (nat.below_tr (nat.below_tr (nat.below_tr (nat.below_tr (nat.below_tr (nat.below_tr (nat.below_tr (nat.below_tr (nat.below_tr (nat.below_tr (nat.below_tr (nat.below_tr (nat.below_tr (nat.below_tr (nat.below_tr (nat.below_tr (nat.below_tr (nat.below_tr (nat.below_tr (nat.below_tr (nat.below_tr (nat.below_tr (nat.below_tr (nat.below_tr (nat.below_tr (nat.below_tr (nat.below_tr HB1.out HB2.out) HB3.out) HB4.out) HB5.out) HB6.out) HB7.out) HB8.out) HB9.out) HB10.out) HB11.out) HB12.out) HB13.out) HB14.out) HB15.out) HB16.out) HB17.out) HB18.out) HB19.out) HB20.out) HB21.out) HB22.out) HB23.out) HB24.out) HB25.out) HB26.out) HB27.out) HB28.out) HB29.out) HB30.out) HB31.out) HB32.out) HB33.out) HB34.out) HB35.out) HB36.out)⟩)
  · have HB0 := Lib.hid hB
    have hyl : ((((ref.digs (Int.natAbs zB)).length : Nat) : Int) == 0) = false := by rw [ref.digs_pos (by omega)]; simp only [List.length_cons, beq_eq_false_iff_ne, ne_eq]; omega
    clear hB
    have c1 := fun (W : World) (v0 : Value) (v1 : Value) (hh0 : num.IsZ W v0 zA) (hh1 : num.IsZ W v1 zB)  => num.Div_any v0 v1 zA zB W hh0 hh1 ((show Bz zA 120 from L_zA.out).nat (by decide)) ((show Bz zB 120 from L_zB.out).nat (by decide)) HB0.out
    have C1 := Lib.hid c1
    clear c1
    have c2 := fun (W : World) (v0 : Value) (v1 : Value) (hh0 : ref.IsI W v0 zA) (hh1 : ref.IsI W v1 zB)  => ref.Floor_any v0 v1 zA zB W hh0 hh1 ((show Bz zA 120 from L_zA.out).ref (by decide)) ((show Bz zB 120 from L_zB.out).ref (by decide)) HB0.out
    have C2 := Lib.hid c2
    clear c2
    go_wp2_with (first
      | (go_at_call 50; (with_reducible refine (C1.out _ _ _ (((H_a.out.below HB3.out).below HB4.out).below HB5.out) (H_b.out.below HB5.out)).mono ?_); rintro e W6 ⟨q, r, rfl, ⟨h_q, n_q⟩, ⟨h_r, n_r⟩, hb⟩
         have H_q := Lib.hid h_q
         have N_q := Lib.hid n_q
         have H_r := Lib.hid h_r
         have N_r := Lib.hid n_r
         have HB6 := Lib.hid hb
         obtain ⟨d6_x_0, d6_x_1⟩ := (((M_x.out.below HB4.out).below HB5.out).below HB6.out)
         obtain ⟨d6_y_0, d6_y_1⟩ := (M_y.out.below HB6.out)
         clear h_q n_q h_r n_r hb C1)
      | (go_at_call 51; (with_reducible refine (C2.out _ _ _ ((((H_x.out.below HB3.out).below HB4.out).below HB5.out).below HB6.out) ((H_y.out.below HB5.out).below HB6.out)).mono ?_); rintro e W7 ⟨p, o, rfl, h_p, h_o, hb⟩
         obtain ⟨s_p, rfl, h3⟩ := id h_p
         obtain ⟨o_p, c_p, rfl⟩ := IsX_slice h3
         obtain ⟨s_o, rfl, h4⟩ := id h_o
         obtain ⟨o_o, c_o, rfl⟩ := IsX_slice h4
         clear h3 h4
         have H_p := Lib.hid h_p
         have H_o := Lib.hid h_o
         have HB7 := Lib.hid hb
         obtain ⟨d7_x_0, d7_x_1⟩ := ((((M_x.out.below HB4.out).below HB5.out).below HB6.out).below HB7.out)
         obtain ⟨d7_y_0, d7_y_1⟩ := ((M_y.out.below HB6.out).below HB7.out)
         have HB8 := Lib.hid (show Below W7.heap.size W7 (W7.alloc (.cells #[.bool (decide ((Int.fdiv zA zB) < 0)), .slice o_p (ref.digs (Int.natAbs (Int.fdiv zA zB))).length c_p] 57)) from (Below.refl _ _).alloc (Nat.le_refl _) _)
         have M_p := Lib.hid (cells2_new W7 (.bool (decide ((Int.fdiv zA zB) < 0))) (.slice o_p (ref.digs (Int.natAbs (Int.fdiv zA zB))).length c_p) 57)
         have HB9 := Lib.hid (show Below (W7.alloc (.cells #[.bool (decide ((Int.fdiv zA zB) < 0)), .slice o_p (ref.digs (Int.natAbs (Int.fdiv zA zB))).length c_p] 57)).heap.size (W7.alloc (.cells #[.bool (decide ((Int.fdiv zA zB) < 0)), .slice o_p (ref.digs (Int.natAbs (Int.fdiv zA zB))).length c_p] 57)) ((W7.alloc (.cells #[.bool (decide ((Int.fdiv zA zB) < 0)), .slice o_p (ref.digs (Int.natAbs (Int.fdiv zA zB))).length c_p] 57)).alloc (.cells #[.bool (decide ((Int.fmod zA zB) < 0)), .slice o_o (ref.digs (Int.natAbs (Int.fmod zA zB))).length c_o] 57)) from (Below.refl _ _).alloc (Nat.le_refl _) _)
         have M_o := Lib.hid (show Cells2 ((W7.alloc (.cells #[.bool (decide ((Int.fdiv zA zB) < 0)), .slice o_p (ref.digs (Int.natAbs (Int.fdiv zA zB))).length c_p] 57)).alloc (.cells #[.bool (decide ((Int.fmod zA zB) < 0)), .slice o_o (ref.digs (Int.natAbs (Int.fmod zA zB))).length c_o] 57)) (W7.heap.size + 1) (.bool (decide ((Int.fmod zA zB) < 0))) (.slice o_o (ref.digs (Int.natAbs (Int.fmod zA zB))).length c_o) from by have h := cells2_new (W7.alloc (.cells #[.bool (decide ((Int.fdiv zA zB) < 0)), .slice o_p (ref.digs (Int.natAbs (Int.fdiv zA zB))).length c_p] 57)) (.bool (decide ((Int.fmod zA zB) < 0))) (.slice o_o (ref.digs (Int.natAbs (Int.fmod zA zB))).length c_o) 57; simpa using h)
         clear h_p h_o hb C2)
      | (fail "no arm"))
    obtain ⟨W9, hW9⟩ : ∃ W : World, W = (W7.alloc (.cells #[.bool (decide ((Int.fdiv zA zB) < 0)), .slice o_p (ref.digs (Int.natAbs (Int.fdiv zA zB))).length c_p] 57)).alloc (.cells #[.bool (decide ((Int.fmod zA zB) < 0)), .slice o_o (ref.digs (Int.natAbs (Int.fmod zA zB))).length c_o] 57) := ⟨_, rfl⟩
    rw [← hW9] at HB9 M_o ⊢
    clear hW9
    clear d4_x_0 d4_x_1 d6_x_0 d6_x_1 d6_y_0 d6_y_1 d7_x_0 d7_x_1 d7_y_0 d7_y_1
    have cx3 := fun (W : World) (v0 : Value) (hh0 : num.IsZ W v0 (Int.fdiv zA zB))  => num.Text_any v0 (Int.fdiv zA zB) W hh0 ((Bz_fdiv (show Bz zA 120 from L_zA.out)).nat (by decide))
    have Cx3 := Lib.hid cx3
    clear cx3
    have cx4 := fun (W : World) (v0 : Value) (hh0 : ref.IsI W v0 (Int.fdiv zA zB))  => ref.IText_any v0 (Int.fdiv zA zB) W hh0 ((Bz_fdiv (show Bz zA 120 from L_zA.out)).ref (by decide))
    have Cx4 := Lib.hid cx4
    clear cx4
    have cx5 := fun (W : World) (v0 : Value) (hh0 : num.IsZ W v0 (Int.fmod zA zB))  => num.Text_any v0 (Int.fmod zA zB) W hh0 ((Bz_fmod zA HB0.out (show Bz zB 120 from L_zB.out)).nat (by decide))
    have Cx5 := Lib.hid cx5
    clear cx5
    have cx6 := fun (W : World) (v0 : Value) (hh0 : ref.IsI W v0 (Int.fmod zA zB))  => ref.IText_any v0 (Int.fmod zA zB) W hh0 ((Bz_fmod zA HB0.out (show Bz zB 120 from L_zB.out)).ref (by decide))
    have Cx6 := Lib.hid cx6
    clear cx6
    have cx7 := fun (W : World) (v0 : Value) (v1 : Value) (hh0 : num.IsZ W v0 (Int.fdiv zA zB)) (hh1 : num.IsZ W v1 zB)  => num.Mul_any v0 v1 (Int.fdiv zA zB) zB W hh0 hh1 ((Bz_fdiv (show Bz zA 120 from L_zA.out)).nat (by decide)) ((show Bz zB 120 from L_zB.out).nat (by decide))
    have Cx7 := Lib.hid cx7
    clear cx7
    have cx8 := fun (W : World) (v0 : Value) (v1 : Value) (hh0 : num.IsZ W v0 ((Int.fdiv zA zB) * zB)) (hh1 : num.IsZ W v1 (Int.fmod zA zB))  => num.Add_any v0 v1 ((Int.fdiv zA zB) * zB) (Int.fmod zA zB) W hh0 hh1 ((Bz_mul (Bz_fdiv (show Bz zA 120 from L_zA.out)) (show Bz zB 120 from L_zB.out)).nat (by decide)) ((Bz_fmod zA HB0.out (show Bz zB 120 from L_zB.out)).nat (by decide))
    have Cx8 := Lib.hid cx8
    clear cx8
    have cx9 := fun (W : World) (v0 : Value) (v1 : Value) (hh0 : num.IsZ W v0 (((Int.fdiv zA zB) * zB) + (Int.fmod zA zB))) (hh1 : num.IsZ W v1 zA)  => num.Cmp_b v0 v1 (((Int.fdiv zA zB) * zB) + (Int.fmod zA zB)) zA W hh0 hh1 ((Bz_add (Bz_mul (Bz_fdiv (show Bz zA 120 from L_zA.out)) (show Bz zB 120 from L_zB.out)) (Bz_fmod zA HB0.out (show Bz zB 120 from L_zB.out))).nat (by decide)) ((show Bz zA 120 from L_zA.out).nat (by decide))
    rw [cmp3_eqZ (show (((Int.fdiv zA zB) * zB) + (Int.fmod zA zB)) = zA from (by rw [Int.mul_comm]; exact Int.mul_fdiv_add_fmod _ _))] at cx9
    have Cx9 := Lib.hid cx9
    clear cx9
    generalize str (Lib.itoa (zA.fdiv zB)) = sfd at *
    generalize str (Lib.itoa (zA.fmod zB)) = sfm at *
    have HOLD := Lib.hid (fun W (hW : Below W9.heap.size W9 W) => (show Below W9.heap.size W9 W ∧ W.cell? ⟨W2.heap.size, 0, none⟩ = some (.bool (decide (zA < 0))) ∧ W.cell? ⟨W2.heap.size, 1, none⟩ = some (.slice o_x (ref.digs (Int.natAbs zA)).length c_x) ∧ W.cell? ⟨W4.heap.size, 0, none⟩ = some (.bool (decide (zB < 0))) ∧ W.cell? ⟨W4.heap.size, 1, none⟩ = some (.slice o_y (ref.digs (Int.natAbs zB)).length c_y) ∧ W.cell? ⟨W7.heap.size, 0, none⟩ = some (.bool (decide ((Int.fdiv zA zB) < 0))) ∧ W.cell? ⟨W7.heap.size, 1, none⟩ = some (.slice o_p (ref.digs (Int.natAbs (Int.fdiv zA zB))).length c_p) ∧ W.cell? ⟨W7.heap.size + 1, 0, none⟩ = some (.bool (decide ((Int.fmod zA zB) < 0))) ∧ W.cell? ⟨W7.heap.size + 1, 1, none⟩ = some (.slice o_o (ref.digs (Int.natAbs (Int.fmod zA zB))).length c_o) from ⟨hW, (((((((M_x.out.below HB4.out).below HB5.out).below HB6.out).below HB7.out).below HB8.out).below HB9.out).below hW).1, (((((((M_x.out.below HB4.out).below HB5.out).below HB6.out).below HB7.out).below HB8.out).below HB9.out).below hW).2, (((((M_y.out.below HB6.out).below HB7.out).below HB8.out).below HB9.out).below hW).1, (((((M_y.out.below HB6.out).below HB7.out).below HB8.out).below HB9.out).below hW).2, ((M_p.out.below HB9.out).below hW).1, ((M_p.out.below HB9.out).below hW).2, (M_o.out.below hW).1, (M_o.out.below hW).2⟩))
    go_region_held3 (fun w' => Below W9.heap.size W9 w' ∧ w'.cell? ⟨W2.heap.size, 0, none⟩ = some (.bool (decide (zA < 0))) ∧ w'.cell? ⟨W2.heap.size, 1, none⟩ = some (.slice o_x (ref.digs (Int.natAbs zA)).length c_x) ∧ w'.cell? ⟨W4.heap.size, 0, none⟩ = some (.bool (decide (zB < 0))) ∧ w'.cell? ⟨W4.heap.size, 1, none⟩ = some (.slice o_y (ref.digs (Int.natAbs zB)).length c_y) ∧ w'.cell? ⟨W7.heap.size, 0, none⟩ = some (.bool (decide ((Int.fdiv zA zB) < 0))) ∧ w'.cell? ⟨W7.heap.size, 1, none⟩ = some (.slice o_p (ref.digs (Int.natAbs (Int.fdiv zA zB))).length c_p) ∧ w'.cell? ⟨W7.heap.size + 1, 0, none⟩ = some (.bool (decide ((Int.fmod zA zB) < 0))) ∧ w'.cell? ⟨W7.heap.size + 1, 1, none⟩ = some (.slice o_o (ref.digs (Int.natAbs (Int.fmod zA zB))).length c_o))
      (first
        | exact HOLD.out _ (Below.refl _ _).drew
        | exact HOLD.out _ HR16.out
        | exact HOLD.out _ HR15.out
        | exact HOLD.out _ HR14.out
        | exact HOLD.out _ HR13.out
        | exact HOLD.out _ HR12.out
        | exact HOLD.out _ HR11.out
        | exact HOLD.out _ HR10.out)
      (first
      | (go_at_call 52; (with_reducible refine (Cx3.out _ _ ((((H_q.out.below HB7.out).below HB8.out).below HB9.out).below (Below.refl _ _).drew)).mono ?_); rintro e W10 ⟨rfl, hb⟩
         have HB10 := Lib.hid (nat.below_tr (Below.refl _ _).drew hb)
         have HR10 := Lib.hid HB10.out
         clear hb Cx3)
      | (go_at_call 53; (with_reducible refine (Cx4.out _ _ (((H_p.out.below HB8.out).below HB9.out).below HR10.out)).mono ?_); rintro e W11 ⟨rfl, hb⟩
         have HB11 := Lib.hid hb
         have HR11 := Lib.hid (nat.below_tr HR10.out HB11.out)
         clear hb Cx4)
      | (go_at_call 52; (with_reducible refine (Cx5.out _ _ ((((H_r.out.below HB7.out).below HB8.out).below HB9.out).below HR11.out)).mono ?_); rintro e W12 ⟨rfl, hb⟩
         have HB12 := Lib.hid hb
         have HR12 := Lib.hid (nat.below_tr HR11.out HB12.out)
         clear hb Cx5)
      | (go_at_call 53; (with_reducible refine (Cx6.out _ _ (((H_o.out.below HB8.out).below HB9.out).below HR12.out)).mono ?_); rintro e W13 ⟨rfl, hb⟩
         have HB13 := Lib.hid hb
         have HR13 := Lib.hid (nat.below_tr HR12.out HB13.out)
         clear hb Cx6)
      | (go_at_call 54; (with_reducible refine (Cx7.out _ _ _ ((((H_q.out.below HB7.out).below HB8.out).below HB9.out).below HR13.out) ((((((H_b.out.below HB5.out).below HB6.out).below HB7.out).below HB8.out).below HB9.out).below HR13.out)).mono ?_); rintro e W14 ⟨x1, rfl, ⟨h_x1, n_x1⟩, hb⟩
         have H_x1 := Lib.hid h_x1
         have N_x1 := Lib.hid n_x1
         have HB14 := Lib.hid hb
         have HR14 := Lib.hid (nat.below_tr HR13.out HB14.out)
         clear h_x1 n_x1 hb Cx7)
      | (go_at_call 55; (with_reducible refine (Cx8.out _ _ _ H_x1.out ((((H_r.out.below HB7.out).below HB8.out).below HB9.out).below HR14.out)).mono ?_); rintro e W15 ⟨x2, rfl, ⟨h_x2, n_x2⟩, hb⟩
         have H_x2 := Lib.hid h_x2
         have N_x2 := Lib.hid n_x2
         have HB15 := Lib.hid hb
         have HR15 := Lib.hid (nat.below_tr HR14.out HB15.out)
         clear h_x2 n_x2 hb Cx8)
      | (go_at_call 56; (with_reducible refine (Cx9.out _ _ _ H_x2.out ((((((((H_a.out.below HB3.out).below HB4.out).below HB5.out).below HB6.out).below HB7.out).below HB8.out).below HB9.out).below HR15.out)).mono ?_); rintro e W16 ⟨rfl, hb⟩
         have HB16 := Lib.hid hb
         have HR16 := Lib.hid (nat.below_tr HR15.out HB16.out)
         clear hb Cx9)
      | (fail "no arm"))
    obtain ⟨vv, bb, hsm, hsi⟩ := small_both zA
    have HSM := Lib.hid hsm
    have HSI := Lib.hid hsi
    clear hsm hsi
    have cx10 := fun (W : World)    => num.Of_any k W K1.out K2.out
    have Cx10 := Lib.hid cx10
    clear cx10
    have cx11 := fun (W : World) (v0 : Value) (hh0 : num.IsZ W v0 k)  => num.Small_in v0 k W hh0 K1.out K2.out
    have Cx11 := Lib.hid cx11
    clear cx11
    have cx12 := fun (W : World) (v0 : Value) (hh0 : num.IsZ W v0 zA)  => HSM.out v0 W hh0
    have Cx12 := Lib.hid cx12
    clear cx12
    have cx13 := fun (W : World) (v0 : Value) (hh0 : ref.IsI W v0 zA)  => HSI.out v0 W hh0
    have Cx13 := Lib.hid cx13
    clear cx13
    go_wp2_with (first
      | (go_at_call 57; (with_reducible refine (Cx10.out _ ).mono ?_); rintro e W17 ⟨z, rfl, ⟨h_z, n_z⟩, hb⟩
         have H_z := Lib.hid h_z
         have N_z := Lib.hid n_z
         have HB17 := Lib.hid hb
         obtain ⟨d17_x_0, d17_x_1⟩ := ((((((((((((((M_x.out.below HB4.out).below HB5.out).below HB6.out).below HB7.out).below HB8.out).below HB9.out).below HB10.out).below HB11.out).below HB12.out).below HB13.out).below HB14.out).below HB15.out).below HB16.out).below HB17.out)
         obtain ⟨d17_y_0, d17_y_1⟩ := ((((((((((((M_y.out.below HB6.out).below HB7.out).below HB8.out).below HB9.out).below HB10.out).below HB11.out).below HB12.out).below HB13.out).below HB14.out).below HB15.out).below HB16.out).below HB17.out)
         clear h_z n_z hb Cx10)
      | (go_at_call 58; (with_reducible refine (Cx11.out _ _ H_z.out).mono ?_); rintro e w9 ⟨rfl, rfl⟩
         clear Cx11)
      | (go_at_call 58; (with_reducible refine (Cx12.out _ _ (((((((((((((((H_a.out.below HB3.out).below HB4.out).below HB5.out).below HB6.out).below HB7.out).below HB8.out).below HB9.out).below HB10.out).below HB11.out).below HB12.out).below HB13.out).below HB14.out).below HB15.out).below HB16.out).below HB17.out)).mono ?_); rintro e w9 ⟨rfl, rfl⟩
         clear Cx12)
      | (go_at_call 59; (with_reducible refine (Cx13.out _ _ (((((((((((((((H_x.out.below HB3.out).below HB4.out).below HB5.out).below HB6.out).below HB7.out).below HB8.out).below HB9.out).below HB10.out).below HB11.out).below HB12.out).below HB13.out).below HB14.out).below HB15.out).below HB16.out).below HB17.out)).mono ?_); rintro e W18 ⟨rfl, hb⟩
         have HB18 := Lib.hid hb
         obtain ⟨d18_x_0, d18_x_1⟩ := (((((((((((((((M_x.out.below HB4.out).below HB5.out).below HB6.out).below HB7.out).below HB8.out).below HB9.out).below HB10.out).below HB11.out).below HB12.out).below HB13.out).below HB14.out).below HB15.out).below HB16.out).below HB17.out).below HB18.out)
         obtain ⟨d18_y_0, d18_y_1⟩ := (((((((((((((M_y.out.below HB6.out).below HB7.out).below HB8.out).below HB9.out).below HB10.out).below HB11.out).below HB12.out).below HB13.out).below HB14.out).below HB15.out).below HB16.out).below HB17.out).below HB18.out)
         clear hb Cx13)
      | (fail "no arm"))
    clear d17_x_0 d17_x_1 d17_y_0 d17_y_1 d18_x_0 d18_x_1 d18_y_0 d18_y_1
    have cx14 := fun (W : World) (v0 : Value) (hh0 : num.IsZ W v0 zA)  => num.Text_any v0 zA W hh0 ((show Bz zA 120 from L_zA.out).nat (by decide))
    have Cx14 := Lib.hid cx14
    clear cx14
    have cx15 := fun (W : World) (v0 : Value) (hh0 : ref.IsI W v0 zA)  => ref.IText_any v0 zA W hh0 ((show Bz zA 120 from L_zA.out).ref (by decide))
    have Cx15 := Lib.hid cx15
    clear cx15
    have cx16 := fun (W : World) (v0 : Value) (v1 : Value) (hh0 : num.IsZ W v0 zA) (hh1 : num.IsZ W v1 zB)  => num.Add_any v0 v1 zA zB W hh0 hh1 ((show Bz zA 120 from L_zA.out).nat (by decide)) ((show Bz zB 120 from L_zB.out).nat (by decide))
    have Cx16 := Lib.hid cx16
    clear cx16
    have cx17 := fun (W : World) (v0 : Value) (hh0 : num.IsZ W v0 (zA + zB))  => num.Text_any v0 (zA + zB) W hh0 ((Bz_add (show Bz zA 120 from L_zA.out) (show Bz zB 120 from L_zB.out)).nat (by decide))
    have Cx17 := Lib.hid cx17
    clear cx17
    have cx18 := fun (W : World) (v0 : Value) (v1 : Value) (hh0 : ref.IsI W v0 zA) (hh1 : ref.IsI W v1 zB)  => ref.Plus_any v0 v1 zA zB W hh0 hh1 ((show Bz zA 120 from L_zA.out).ref (by decide)) ((show Bz zB 120 from L_zB.out).ref (by decide))
    have Cx18 := Lib.hid cx18
    clear cx18
    have cx19 := fun (W : World) (v0 : Value) (hh0 : ref.IsI W v0 (zA + zB))  => ref.IText_any v0 (zA + zB) W hh0 ((Bz_add (show Bz zA 120 from L_zA.out) (show Bz zB 120 from L_zB.out)).ref (by decide))
    have Cx19 := Lib.hid cx19
    clear cx19
    have cx20 := fun (W : World) (v0 : Value) (v1 : Value) (hh0 : num.IsZ W v0 zA) (hh1 : num.IsZ W v1 zB)  => num.Sub_any v0 v1 zA zB W hh0 hh1 ((show Bz zA 120 from L_zA.out).nat (by decide)) ((show Bz zB 120 from L_zB.out).nat (by decide))
    have Cx20 := Lib.hid cx20
    clear cx20
    have cx21 := fun (W : World) (v0 : Value) (hh0 : num.IsZ W v0 (zA - zB))  => num.Text_any v0 (zA - zB) W hh0 ((Bz_sub (show Bz zA 120 from L_zA.out) (show Bz zB 120 from L_zB.out)).nat (by decide))
    have Cx21 := Lib.hid cx21
    clear cx21
    have cx22 := fun (W : World) (v0 : Value) (hh0 : ref.IsI W v0 zB)  => ref.Minus_any v0 zB W hh0
    have Cx22 := Lib.hid cx22
    clear cx22
    have cx23 := fun (W : World) (v0 : Value) (v1 : Value) (hh0 : ref.IsI W v0 zA) (hh1 : ref.IsI W v1 (-zB))  => ref.Plus_any v0 v1 zA (-zB) W hh0 hh1 ((show Bz zA 120 from L_zA.out).ref (by decide)) ((Bz_neg (show Bz zB 120 from L_zB.out)).ref (by decide))
    rw [← Int.sub_eq_add_neg] at cx23
    have Cx23 := Lib.hid cx23
    clear cx23
    have cx24 := fun (W : World) (v0 : Value) (hh0 : ref.IsI W v0 (zA - zB))  => ref.IText_any v0 (zA - zB) W hh0 ((Bz_sub (show Bz zA 120 from L_zA.out) (show Bz zB 120 from L_zB.out)).ref (by decide))
    have Cx24 := Lib.hid cx24
    clear cx24
    have cx25 := fun (W : World) (v0 : Value) (v1 : Value) (hh0 : num.IsZ W v0 zA) (hh1 : num.IsZ W v1 zB)  => num.Mul_any v0 v1 zA zB W hh0 hh1 ((show Bz zA 120 from L_zA.out).nat (by decide)) ((show Bz zB 120 from L_zB.out).nat (by decide))
    have Cx25 := Lib.hid cx25
    clear cx25
    have cx26 := fun (W : World) (v0 : Value) (hh0 : num.IsZ W v0 (zA * zB))  => num.Text_any v0 (zA * zB) W hh0 ((Bz_mul (show Bz zA 120 from L_zA.out) (show Bz zB 120 from L_zB.out)).nat (by decide))
    have Cx26 := Lib.hid cx26
    clear cx26
    have cx27 := fun (W : World) (v0 : Value) (v1 : Value) (hh0 : ref.IsI W v0 zA) (hh1 : ref.IsI W v1 zB)  => ref.Times_any v0 v1 zA zB W hh0 hh1 ((show Bz zA 120 from L_zA.out).ref (by decide)) ((show Bz zB 120 from L_zB.out).ref (by decide))
    have Cx27 := Lib.hid cx27
    clear cx27
    have cx28 := fun (W : World) (v0 : Value) (hh0 : ref.IsI W v0 (zA * zB))  => ref.IText_any v0 (zA * zB) W hh0 ((Bz_mul (show Bz zA 120 from L_zA.out) (show Bz zB 120 from L_zB.out)).ref (by decide))
    have Cx28 := Lib.hid cx28
    clear cx28
    have cx29 := fun (W : World) (v0 : Value) (v1 : Value) (hh0 : num.IsZ W v0 zA) (hh1 : num.IsZ W v1 zB)  => num.Cmp_b v0 v1 zA zB W hh0 hh1 ((show Bz zA 120 from L_zA.out).nat (by decide)) ((show Bz zB 120 from L_zB.out).nat (by decide))
    rw [show cmp3 zA zB = (if zA < zB then (-1 : Int) else if zB < zA then 1 else 0) from rfl] at cx29
    have Cx29 := Lib.hid cx29
    clear cx29
    have cx30 := fun (W : World) (v0 : Value) (v1 : Value) (hh0 : ref.IsI W v0 zA) (hh1 : ref.IsI W v1 zB)  => ref.CmpI_any v0 v1 zA zB W hh0 hh1 ((show Bz zA 120 from L_zA.out).ref (by decide)) ((show Bz zB 120 from L_zB.out).ref (by decide))
    have Cx30 := Lib.hid cx30
    clear cx30
    have cx31 := fun (W : World) (v0 : Value) (hh0 : num.IsZ W v0 zA)  => num.Neg_any v0 zA W hh0
    have Cx31 := Lib.hid cx31
    clear cx31
    have cx32 := fun (W : World) (v0 : Value) (hh0 : num.IsZ W v0 (-zA))  => num.Text_any v0 (-zA) W hh0 ((Bz_neg (show Bz zA 120 from L_zA.out)).nat (by decide))
    have Cx32 := Lib.hid cx32
    clear cx32
    have cx33 := fun (W : World) (v0 : Value) (hh0 : ref.IsI W v0 zA)  => ref.Minus_any v0 zA W hh0
    have Cx33 := Lib.hid cx33
    clear cx33
    have cx34 := fun (W : World) (v0 : Value) (hh0 : ref.IsI W v0 (-zA))  => ref.IText_any v0 (-zA) W hh0 ((Bz_neg (show Bz zA 120 from L_zA.out)).ref (by decide))
    have Cx34 := Lib.hid cx34
    clear cx34
    have cx35 := fun (W : World) (v0 : Value) (hh0 : num.IsZ W v0 zA)  => num.Abs_any v0 zA W hh0
    have Cx35 := Lib.hid cx35
    clear cx35
    have cx36 := fun (W : World) (v0 : Value) (hh0 : nat.IsN W v0 (Int.natAbs zA))  => nat.Text_any v0 (Int.natAbs zA) W hh0 ((Bn_abs (show Bz zA 120 from L_zA.out)).nat (by decide))
    have Cx36 := Lib.hid cx36
    clear cx36
    have cx37 := fun (W : World) (v0 : Value) (hh0 : ref.IsN W v0 (Int.natAbs zA))  => ref.Text_any v0 (Int.natAbs zA) W hh0 ((Bn_abs (show Bz zA 120 from L_zA.out)).ref (by decide))
    have Cx37 := Lib.hid cx37
    clear cx37
    have cx38 := fun (W : World) (v0 : Value) (hh0 : num.IsZ W v0 zA)  => num.Sign_any v0 zA W hh0
    rw [show num.sg zA = (if zA < 0 then (-1 : Int) else if 0 < zA then 1 else 0) from rfl] at cx38
    have Cx38 := Lib.hid cx38
    clear cx38
    have cx39 := fun (W : World) (v0 : Value) (hh0 : ref.IsI W v0 zA)  => ref.CmpI_any v0 (.agg #[.bool false, .slice none 0 0]) zA 0 W hh0 (isI_zero W) ((show Bz zA 120 from L_zA.out).ref (by decide)) ((Bz_small (z := 0) (by decide) (by decide)).ref (by decide))
    have Cx39 := Lib.hid cx39
    clear cx39
    have cx40 := fun (W : World) (v0 : Value) (hh0 : num.IsZ W v0 k)  => num.Text_any v0 k W hh0 ((show Bz k 20 from Bz_small (by have := K1.out; omega) (by have := K2.out; omega)).nat (by decide))
    have Cx40 := Lib.hid cx40
    clear cx40
    have cx41 := fun (W : World)    => ref.Of_any k K1.out (by have := K2.out; omega) W
    have Cx41 := Lib.hid cx41
    clear cx41
    have cx42 := fun (W : World) (v0 : Value) (hh0 : ref.IsI W v0 k)  => ref.IText_any v0 k W hh0 ((show Bz k 20 from Bz_small (by have := K1.out; omega) (by have := K2.out; omega)).ref (by decide))
    have Cx42 := Lib.hid cx42
    clear cx42
    generalize str (Lib.itoa zA) = st0 at *
    generalize str (Lib.itoa (zA + zB)) = st1 at *
    generalize str (Lib.itoa (zA - zB)) = st2 at *
    generalize str (Lib.itoa (zA * zB)) = st3 at *
    generalize str (Lib.itoa (-zA)) = st4 at *
    generalize str (Lib.itoa k) = st5 at *
    generalize str (Lib.decDigits (Int.natAbs zA)) = sab at *
    generalize (if zA < zB then (-1 : Int) else if zB < zA then 1 else 0) = cab at *
    generalize (if zA < 0 then (-1 : Int) else if 0 < zA then 1 else 0) = caz at *
    have HOLD := Lib.hid (fun W (hW : Below W18.heap.size W18 W) => (show Below W18.heap.size W18 W ∧ W.cell? ⟨W2.heap.size, 0, none⟩ = some (.bool (decide (zA < 0))) ∧ W.cell? ⟨W2.heap.size, 1, none⟩ = some (.slice o_x (ref.digs (Int.natAbs zA)).length c_x) ∧ W.cell? ⟨W4.heap.size, 0, none⟩ = some (.bool (decide (zB < 0))) ∧ W.cell? ⟨W4.heap.size, 1, none⟩ = some (.slice o_y (ref.digs (Int.natAbs zB)).length c_y) from ⟨hW, ((((((((((((((((M_x.out.below HB4.out).below HB5.out).below HB6.out).below HB7.out).below HB8.out).below HB9.out).below HB10.out).below HB11.out).below HB12.out).below HB13.out).below HB14.out).below HB15.out).below HB16.out).below HB17.out).below HB18.out).below hW).1, ((((((((((((((((M_x.out.below HB4.out).below HB5.out).below HB6.out).below HB7.out).below HB8.out).below HB9.out).below HB10.out).below HB11.out).below HB12.out).below HB13.out).below HB14.out).below HB15.out).below HB16.out).below HB17.out).below HB18.out).below hW).2, ((((((((((((((M_y.out.below HB6.out).below HB7.out).below HB8.out).below HB9.out).below HB10.out).below HB11.out).below HB12.out).below HB13.out).below HB14.out).below HB15.out).below HB16.out).below HB17.out).below HB18.out).below hW).1, ((((((((((((((M_y.out.below HB6.out).below HB7.out).below HB8.out).below HB9.out).below HB10.out).below HB11.out).below HB12.out).below HB13.out).below HB14.out).below HB15.out).below HB16.out).below HB17.out).below HB18.out).below hW).2⟩))
    refine plan.region_plan (S := fun w' => Below W18.heap.size W18 w' ∧ w'.cell? ⟨W2.heap.size, 0, none⟩ = some (.bool (decide (zA < 0))) ∧ w'.cell? ⟨W2.heap.size, 1, none⟩ = some (.slice o_x (ref.digs (Int.natAbs zA)).length c_x) ∧ w'.cell? ⟨W4.heap.size, 0, none⟩ = some (.bool (decide (zB < 0))) ∧ w'.cell? ⟨W4.heap.size, 1, none⟩ = some (.slice o_y (ref.digs (Int.natAbs zB)).length c_y)) (ops := na_ops) (l := na_plan) (by kernel_rfl) na_sel na_len na_ok (fun _ _ d _ _ h => by cases d <;> exact h) ?_ (fun hHeld => ?_)
    · exact HOLD.out _ (Below.refl _ _).drew
    unfold na_plan
    refine plan.wpPlan_take (v := ?_) na_g0 (Or.inl ⟨by kernel_rfl, ?_⟩) ?_
    rotate_left
    · intro w hSw
      (try dsimp only at hSw)
      go_simp
      (try with_reducible rfl)
    simp only [Act.put, List.setIfInBounds_toArray, List.set_cons_zero, List.set_cons_succ]
    refine plan.wpPlan_take (v := ?_) na_g2 (Or.inl ⟨by kernel_rfl, ?_⟩) ?_
    rotate_left
    · intro w hSw
      (try dsimp only at hSw)
      go_simp
      (try with_reducible rfl)
    simp only [Act.put, List.setIfInBounds_toArray, List.set_cons_zero, List.set_cons_succ]
    refine plan.wpPlan_call na_g1 (fun K hK => ?_)
    rw [if_pos (by kernel_rfl)]
    go_simp
    (go_at_call 52; (with_reducible refine (Cx14.out _ _ (((((((((((((((((H_a.out.below HB3.out).below HB4.out).below HB5.out).below HB6.out).below HB7.out).below HB8.out).below HB9.out).below HB10.out).below HB11.out).below HB12.out).below HB13.out).below HB14.out).below HB15.out).below HB16.out).below HB17.out).below HB18.out).below (Below.refl _ _).drew)).mono ?_); rintro e W19 ⟨rfl, hb⟩
     have HB19 := Lib.hid (nat.below_tr (Below.refl _ _).drew hb)
     have HR19 := Lib.hid HB19.out
     clear hb Cx14)
    (try dsimp only)
    refine hK.out _ _ ?_ (fun hHeld => ?_)
    · exact HOLD.out _ HR19.out
    clear hK K
    refine plan.wpPlan_call na_g3 (fun K hK => ?_)
    rw [if_pos (by kernel_rfl)]
    go_simp
    (go_at_call 53; (with_reducible refine (Cx15.out _ _ (((((((((((((((((H_x.out.below HB3.out).below HB4.out).below HB5.out).below HB6.out).below HB7.out).below HB8.out).below HB9.out).below HB10.out).below HB11.out).below HB12.out).below HB13.out).below HB14.out).below HB15.out).below HB16.out).below HB17.out).below HB18.out).below HR19.out)).mono ?_); rintro e W20 ⟨rfl, hb⟩
     have HB20 := Lib.hid hb
     have HR20 := Lib.hid (nat.below_tr HR19.out HB20.out)
     clear hb Cx15)
    (try dsimp only)
    refine hK.out _ _ ?_ (fun hHeld => ?_)
    · exact HOLD.out _ HR20.out
    clear hK K
    refine plan.wpPlan_take (v := ?_) na_g4 (Or.inl ⟨by kernel_rfl, ?_⟩) ?_
    rotate_left
    · intro w hSw
      (try dsimp only at hSw)
      go_simp
      (try with_reducible rfl)
    simp only [Act.put, List.setIfInBounds_toArray, List.set_cons_zero, List.set_cons_succ]
    refine plan.wpPlan_take (v := ?_) na_g5 (Or.inl ⟨by kernel_rfl, ?_⟩) ?_
    rotate_left
    · intro w hSw
      (try dsimp only at hSw)
      go_simp
      (try with_reducible rfl)
    simp only [Act.put, List.setIfInBounds_toArray, List.set_cons_zero, List.set_cons_succ]
    refine plan.wpPlan_take (v := ?_) na_g6 (Or.inl ⟨by kernel_rfl, ?_⟩) ?_
    rotate_left
    · intro w hSw
      (try dsimp only at hSw)
      go_simp
      (try with_reducible rfl)
    simp only [Act.put, List.setIfInBounds_toArray, List.set_cons_zero, List.set_cons_succ]
    refine plan.wpPlan_take (v := ?_) na_g7 (Or.inl ⟨by kernel_rfl, ?_⟩) ?_
    rotate_left
    · intro w hSw
      (try dsimp only at hSw)
      go_simp
      (try with_reducible rfl)
    simp only [Act.put, List.setIfInBounds_toArray, List.set_cons_zero, List.set_cons_succ]
    refine plan.wpPlan_take (v := ?_) na_g10 (Or.inl ⟨by kernel_rfl, ?_⟩) ?_
    rotate_left
    · intro w hSw
      (try dsimp only at hSw)
      go_simp
      (try with_reducible rfl)
    simp only [Act.put, List.setIfInBounds_toArray, List.set_cons_zero, List.set_cons_succ]
    refine plan.wpPlan_take (v := ?_) na_g11 (Or.inl ⟨by kernel_rfl, ?_⟩) ?_
    rotate_left
    · intro w hSw
      (try dsimp only at hSw)
      go_simp
      (try with_reducible rfl)
    simp only [Act.put, List.setIfInBounds_toArray, List.set_cons_zero, List.set_cons_succ]
    refine plan.wpPlan_call na_g8 (fun K hK => ?_)
    rw [if_pos (by kernel_rfl)]
    go_simp
    (go_at_call 55; (with_reducible refine (Cx16.out _ _ _ (((((((((((((((((H_a.out.below HB3.out).below HB4.out).below HB5.out).below HB6.out).below HB7.out).below HB8.out).below HB9.out).below HB10.out).below HB11.out).below HB12.out).below HB13.out).below HB14.out).below HB15.out).below HB16.out).below HB17.out).below HB18.out).below HR20.out) (((((((((((((((H_b.out.below HB5.out).below HB6.out).below HB7.out).below HB8.out).below HB9.out).below HB10.out).below HB11.out).below HB12.out).below HB13.out).below HB14.out).below HB15.out).below HB16.out).below HB17.out).below HB18.out).below HR20.out)).mono ?_); rintro e W21 ⟨a1, rfl, ⟨h_a1, n_a1⟩, hb⟩
     have H_a1 := Lib.hid h_a1
     have N_a1 := Lib.hid n_a1
     have HB21 := Lib.hid hb
     have HR21 := Lib.hid (nat.below_tr HR20.out HB21.out)
     clear h_a1 n_a1 hb Cx16)
    (try dsimp only)
    refine hK.out _ _ ?_ (fun hHeld => ?_)
    · exact HOLD.out _ HR21.out
    clear hK K
    refine plan.wpPlan_call na_g9 (fun K hK => ?_)
    rw [if_pos (by kernel_rfl)]
    go_simp
    (go_at_call 52; (with_reducible refine (Cx17.out _ _ H_a1.out).mono ?_); rintro e W22 ⟨rfl, hb⟩
     have HB22 := Lib.hid hb
     have HR22 := Lib.hid (nat.below_tr HR21.out HB22.out)
     clear hb Cx17)
    (try dsimp only)
    refine hK.out _ _ ?_ (fun hHeld => ?_)
    · exact HOLD.out _ HR22.out
    clear hK K
    refine plan.wpPlan_call na_g12 (fun K hK => ?_)
    rw [if_pos (by kernel_rfl)]
    go_simp
    (go_at_call 60; (with_reducible refine (Cx18.out _ _ _ (((((((((((((((((H_x.out.below HB3.out).below HB4.out).below HB5.out).below HB6.out).below HB7.out).below HB8.out).below HB9.out).below HB10.out).below HB11.out).below HB12.out).below HB13.out).below HB14.out).below HB15.out).below HB16.out).below HB17.out).below HB18.out).below HR22.out) (((((((((((((((H_y.out.below HB5.out).below HB6.out).below HB7.out).below HB8.out).below HB9.out).below HB10.out).below HB11.out).below HB12.out).below HB13.out).below HB14.out).below HB15.out).below HB16.out).below HB17.out).below HB18.out).below HR22.out)).mono ?_); rintro e W23 ⟨i1, rfl, h_i1, hb⟩
     have H_i1 := Lib.hid h_i1
     have HB23 := Lib.hid hb
     have HR23 := Lib.hid (nat.below_tr HR22.out HB23.out)
     clear h_i1 hb Cx18)
    (try dsimp only)
    refine hK.out _ _ ?_ (fun hHeld => ?_)
    · exact HOLD.out _ HR23.out
    clear hK K
    refine plan.wpPlan_call na_g13 (fun K hK => ?_)
    rw [if_pos (by kernel_rfl)]
    go_simp
    (go_at_call 53; (with_reducible refine (Cx19.out _ _ H_i1.out).mono ?_); rintro e W24 ⟨rfl, hb⟩
     have HB24 := Lib.hid hb
     have HR24 := Lib.hid (nat.below_tr HR23.out HB24.out)
     clear hb Cx19)
    (try dsimp only)
    refine hK.out _ _ ?_ (fun hHeld => ?_)
    · exact HOLD.out _ HR24.out
    clear hK K
    refine plan.wpPlan_take (v := ?_) na_g14 (Or.inl ⟨by kernel_rfl, ?_⟩) ?_
    rotate_left
    · intro w hSw
      (try dsimp only at hSw)
      go_simp
      (try with_reducible rfl)
    simp only [Act.put, List.setIfInBounds_toArray, List.set_cons_zero, List.set_cons_succ]
    refine plan.wpPlan_take (v := ?_) na_g15 (Or.inl ⟨by kernel_rfl, ?_⟩) ?_
    rotate_left
    · intro w hSw
      (try dsimp only at hSw)
      go_simp
      (try with_reducible rfl)
    simp only [Act.put, List.setIfInBounds_toArray, List.set_cons_zero, List.set_cons_succ]
    refine plan.wpPlan_take (v := ?_) na_g16 (Or.inl ⟨by kernel_rfl, ?_⟩) ?_
    rotate_left
    · intro w hSw
      (try dsimp only at hSw)
      go_simp
      (try with_reducible rfl)
    simp only [Act.put, List.setIfInBounds_toArray, List.set_cons_zero, List.set_cons_succ]
    refine plan.wpPlan_take (v := ?_) na_g17 (Or.inl ⟨by kernel_rfl, ?_⟩) ?_
    rotate_left
    · intro w hSw
      (try dsimp only at hSw)
      go_simp
      (try with_reducible rfl)
    simp only [Act.put, List.setIfInBounds_toArray, List.set_cons_zero, List.set_cons_succ]
    refine plan.wpPlan_take (v := ?_) na_g18 (Or.inl ⟨by kernel_rfl, ?_⟩) ?_
    rotate_left
    · intro w hSw
      (try dsimp only at hSw)
      go_simp
      (try with_reducible rfl)
    simp only [Act.put, List.setIfInBounds_toArray, List.set_cons_zero, List.set_cons_succ]
    refine plan.wpPlan_take (v := ?_) na_g21 (Or.inl ⟨by kernel_rfl, ?_⟩) ?_
    rotate_left
    · intro w hSw
      (try dsimp only at hSw)
      go_simp
      (try with_reducible rfl)
    simp only [Act.put, List.setIfInBounds_toArray, List.set_cons_zero, List.set_cons_succ]
    refine plan.wpPlan_take (v := ?_) na_g22 (Or.inl ⟨by kernel_rfl, ?_⟩) ?_
    rotate_left
    · intro w hSw
      (try dsimp only at hSw)
      go_simp
      (try with_reducible rfl)
    simp only [Act.put, List.setIfInBounds_toArray, List.set_cons_zero, List.set_cons_succ]
    refine plan.wpPlan_call na_g19 (fun K hK => ?_)
    rw [if_pos (by kernel_rfl)]
    go_simp
    (go_at_call 61; (with_reducible refine (Cx20.out _ _ _ (((((((((((((((((H_a.out.below HB3.out).below HB4.out).below HB5.out).below HB6.out).below HB7.out).below HB8.out).below HB9.out).below HB10.out).below HB11.out).below HB12.out).below HB13.out).below HB14.out).below HB15.out).below HB16.out).below HB17.out).below HB18.out).below HR24.out) (((((((((((((((H_b.out.below HB5.out).below HB6.out).below HB7.out).below HB8.out).below HB9.out).below HB10.out).below HB11.out).below HB12.out).below HB13.out).below HB14.out).below HB15.out).below HB16.out).below HB17.out).below HB18.out).below HR24.out)).mono ?_); rintro e W25 ⟨a2, rfl, ⟨h_a2, n_a2⟩, hb⟩
     have H_a2 := Lib.hid h_a2
     have N_a2 := Lib.hid n_a2
     have HB25 := Lib.hid hb
     have HR25 := Lib.hid (nat.below_tr HR24.out HB25.out)
     clear h_a2 n_a2 hb Cx20)
    (try dsimp only)
    refine hK.out _ _ ?_ (fun hHeld => ?_)
    · exact HOLD.out _ HR25.out
    clear hK K
    refine plan.wpPlan_call na_g20 (fun K hK => ?_)
    rw [if_pos (by kernel_rfl)]
    go_simp
    (go_at_call 52; (with_reducible refine (Cx21.out _ _ H_a2.out).mono ?_); rintro e W26 ⟨rfl, hb⟩
     have HB26 := Lib.hid hb
     have HR26 := Lib.hid (nat.below_tr HR25.out HB26.out)
     clear hb Cx21)
    (try dsimp only)
    refine hK.out _ _ ?_ (fun hHeld => ?_)
    · exact HOLD.out _ HR26.out
    clear hK K
    refine plan.wpPlan_call na_g23 (fun K hK => ?_)
    rw [if_pos (by kernel_rfl)]
    go_simp
    (go_at_call 62; (with_reducible refine (Cx22.out _ _ (((((((((((((((H_y.out.below HB5.out).below HB6.out).below HB7.out).below HB8.out).below HB9.out).below HB10.out).below HB11.out).below HB12.out).below HB13.out).below HB14.out).below HB15.out).below HB16.out).below HB17.out).below HB18.out).below HR26.out)).mono ?_); rintro e W27 ⟨i2, rfl, h_i2, hb⟩
     have H_i2 := Lib.hid h_i2
     have HB27 := Lib.hid hb
     have HR27 := Lib.hid (nat.below_tr HR26.out HB27.out)
     clear h_i2 hb Cx22)
    (try dsimp only)
    refine hK.out _ _ ?_ (fun hHeld => ?_)
    · exact HOLD.out _ HR27.out
    clear hK K
    refine plan.wpPlan_call na_g24 (fun K hK => ?_)
    rw [if_pos (by kernel_rfl)]
    go_simp
    (go_at_call 60; (with_reducible refine (Cx23.out _ _ _ (((((((((((((((((H_x.out.below HB3.out).below HB4.out).below HB5.out).below HB6.out).below HB7.out).below HB8.out).below HB9.out).below HB10.out).below HB11.out).below HB12.out).below HB13.out).below HB14.out).below HB15.out).below HB16.out).below HB17.out).below HB18.out).below HR27.out) H_i2.out).mono ?_); rintro e W28 ⟨i3, rfl, h_i3, hb⟩
     have H_i3 := Lib.hid h_i3
     have HB28 := Lib.hid hb
     have HR28 := Lib.hid (nat.below_tr HR27.out HB28.out)
     clear h_i3 hb Cx23)
    (try dsimp only)
    refine hK.out _ _ ?_ (fun hHeld => ?_)
    · exact HOLD.out _ HR28.out
    clear hK K
    refine plan.wpPlan_call na_g25 (fun K hK => ?_)
    rw [if_pos (by kernel_rfl)]
    go_simp
    (go_at_call 53; (with_reducible refine (Cx24.out _ _ H_i3.out).mono ?_); rintro e W29 ⟨rfl, hb⟩
     have HB29 := Lib.hid hb
     have HR29 := Lib.hid (nat.below_tr HR28.out HB29.out)
     clear hb Cx24)
    (try dsimp only)
    refine hK.out _ _ ?_ (fun hHeld => ?_)
    · exact HOLD.out _ HR29.out
    clear hK K
    refine plan.wpPlan_take (v := ?_) na_g26 (Or.inl ⟨by kernel_rfl, ?_⟩) ?_
    rotate_left
    · intro w hSw
      (try dsimp only at hSw)
      go_simp
      (try with_reducible rfl)
    simp only [Act.put, List.setIfInBounds_toArray, List.set_cons_zero, List.set_cons_succ]
    refine plan.wpPlan_take (v := ?_) na_g27 (Or.inl ⟨by kernel_rfl, ?_⟩) ?_
    rotate_left
    · intro w hSw
      (try dsimp only at hSw)
      go_simp
      (try with_reducible rfl)
    simp only [Act.put, List.setIfInBounds_toArray, List.set_cons_zero, List.set_cons_succ]
    refine plan.wpPlan_take (v := ?_) na_g28 (Or.inl ⟨by kernel_rfl, ?_⟩) ?_
    rotate_left
    · intro w hSw
      (try dsimp only at hSw)
      go_simp
      (try with_reducible rfl)
    simp only [Act.put, List.setIfInBounds_toArray, List.set_cons_zero, List.set_cons_succ]
    refine plan.wpPlan_take (v := ?_) na_g29 (Or.inl ⟨by kernel_rfl, ?_⟩) ?_
    rotate_left
    · intro w hSw
      (try dsimp only at hSw)
      go_simp
      (try with_reducible rfl)
    simp only [Act.put, List.setIfInBounds_toArray, List.set_cons_zero, List.set_cons_succ]
    refine plan.wpPlan_take (v := ?_) na_g30 (Or.inl ⟨by kernel_rfl, ?_⟩) ?_
    rotate_left
    · intro w hSw
      (try dsimp only at hSw)
      go_simp
      (try with_reducible rfl)
    simp only [Act.put, List.setIfInBounds_toArray, List.set_cons_zero, List.set_cons_succ]
    refine plan.wpPlan_take (v := ?_) na_g33 (Or.inl ⟨by kernel_rfl, ?_⟩) ?_
    rotate_left
    · intro w hSw
      (try dsimp only at hSw)
      go_simp
      (try with_reducible rfl)
    simp only [Act.put, List.setIfInBounds_toArray, List.set_cons_zero, List.set_cons_succ]
    refine plan.wpPlan_take (v := ?_) na_g34 (Or.inl ⟨by kernel_rfl, ?_⟩) ?_
    rotate_left
    · intro w hSw
      (try dsimp only at hSw)
      go_simp
      (try with_reducible rfl)
    simp only [Act.put, List.setIfInBounds_toArray, List.set_cons_zero, List.set_cons_succ]
    refine plan.wpPlan_call na_g31 (fun K hK => ?_)
    rw [if_pos (by kernel_rfl)]
    go_simp
    (go_at_call 54; (with_reducible refine (Cx25.out _ _ _ (((((((((((((((((H_a.out.below HB3.out).below HB4.out).below HB5.out).below HB6.out).below HB7.out).below HB8.out).below HB9.out).below HB10.out).below HB11.out).below HB12.out).below HB13.out).below HB14.out).below HB15.out).below HB16.out).below HB17.out).below HB18.out).below HR29.out) (((((((((((((((H_b.out.below HB5.out).below HB6.out).below HB7.out).below HB8.out).below HB9.out).below HB10.out).below HB11.out).below HB12.out).below HB13.out).below HB14.out).below HB15.out).below HB16.out).below HB17.out).below HB18.out).below HR29.out)).mono ?_); rintro e W30 ⟨a3, rfl, ⟨h_a3, n_a3⟩, hb⟩
     have H_a3 := Lib.hid h_a3
     have N_a3 := Lib.hid n_a3
     have HB30 := Lib.hid hb
     have HR30 := Lib.hid (nat.below_tr HR29.out HB30.out)
     clear h_a3 n_a3 hb Cx25)
    (try dsimp only)
    refine hK.out _ _ ?_ (fun hHeld => ?_)
    · exact HOLD.out _ HR30.out
    clear hK K
    refine plan.wpPlan_call na_g32 (fun K hK => ?_)
    rw [if_pos (by kernel_rfl)]
    go_simp
    (go_at_call 52; (with_reducible refine (Cx26.out _ _ H_a3.out).mono ?_); rintro e W31 ⟨rfl, hb⟩
     have HB31 := Lib.hid hb
     have HR31 := Lib.hid (nat.below_tr HR30.out HB31.out)
     clear hb Cx26)
    (try dsimp only)
    refine hK.out _ _ ?_ (fun hHeld => ?_)
    · exact HOLD.out _ HR31.out
    clear hK K
    refine plan.wpPlan_call na_g35 (fun K hK => ?_)
    rw [if_pos (by kernel_rfl)]
    go_simp
    (go_at_call 63; (with_reducible refine (Cx27.out _ _ _ (((((((((((((((((H_x.out.below HB3.out).below HB4.out).below HB5.out).below HB6.out).below HB7.out).below HB8.out).below HB9.out).below HB10.out).below HB11.out).below HB12.out).below HB13.out).below HB14.out).below HB15.out).below HB16.out).below HB17.out).below HB18.out).below HR31.out) (((((((((((((((H_y.out.below HB5.out).below HB6.out).below HB7.out).below HB8.out).below HB9.out).below HB10.out).below HB11.out).below HB12.out).below HB13.out).below HB14.out).below HB15.out).below HB16.out).below HB17.out).below HB18.out).below HR31.out)).mono ?_); rintro e W32 ⟨i4, rfl, h_i4, hb⟩
     have H_i4 := Lib.hid h_i4
     have HB32 := Lib.hid hb
     have HR32 := Lib.hid (nat.below_tr HR31.out HB32.out)
     clear h_i4 hb Cx27)
    (try dsimp only)
    refine hK.out _ _ ?_ (fun hHeld => ?_)
    · exact HOLD.out _ HR32.out
    clear hK K
    refine plan.wpPlan_call na_g36 (fun K hK => ?_)
    rw [if_pos (by kernel_rfl)]
    go_simp
    (go_at_call 53; (with_reducible refine (Cx28.out _ _ H_i4.out).mono ?_); rintro e W33 ⟨rfl, hb⟩
     have HB33 := Lib.hid hb
     have HR33 := Lib.hid (nat.below_tr HR32.out HB33.out)
     clear hb Cx28)
    (try dsimp only)
    refine hK.out _ _ ?_ (fun hHeld => ?_)
    · exact HOLD.out _ HR33.out
    clear hK K
    refine plan.wpPlan_take (v := ?_) na_g37 (Or.inl ⟨by kernel_rfl, ?_⟩) ?_
    rotate_left
    · intro w hSw
      (try dsimp only at hSw)
      go_simp
      (try with_reducible rfl)
    simp only [Act.put, List.setIfInBounds_toArray, List.set_cons_zero, List.set_cons_succ]
    refine plan.wpPlan_take (v := ?_) na_g38 (Or.inl ⟨by kernel_rfl, ?_⟩) ?_
    rotate_left
    · intro w hSw
      (try dsimp only at hSw)
      go_simp
      (try with_reducible rfl)
    simp only [Act.put, List.setIfInBounds_toArray, List.set_cons_zero, List.set_cons_succ]
    refine plan.wpPlan_take (v := ?_) na_g39 (Or.inl ⟨by kernel_rfl, ?_⟩) ?_
    rotate_left
    · intro w hSw
      (try dsimp only at hSw)
      go_simp
      (try with_reducible rfl)
    simp only [Act.put, List.setIfInBounds_toArray, List.set_cons_zero, List.set_cons_succ]
    refine plan.wpPlan_take (v := ?_) na_g40 (Or.inl ⟨by kernel_rfl, ?_⟩) ?_
    rotate_left
    · intro w hSw
      (try dsimp only at hSw)
      go_simp
      (try with_reducible rfl)
    simp only [Act.put, List.setIfInBounds_toArray, List.set_cons_zero, List.set_cons_succ]
    refine plan.wpPlan_take (v := ?_) na_g41 (Or.inl ⟨by kernel_rfl, ?_⟩) ?_
    rotate_left
    · intro w hSw
      (try dsimp only at hSw)
      go_simp
      (try with_reducible rfl)
    simp only [Act.put, List.setIfInBounds_toArray, List.set_cons_zero, List.set_cons_succ]
    refine plan.wpPlan_take (v := ?_) na_g43 (Or.inl ⟨by kernel_rfl, ?_⟩) ?_
    rotate_left
    · intro w hSw
      (try dsimp only at hSw)
      go_simp
      (try with_reducible rfl)
    simp only [Act.put, List.setIfInBounds_toArray, List.set_cons_zero, List.set_cons_succ]
    refine plan.wpPlan_take (v := ?_) na_g44 (Or.inl ⟨by kernel_rfl, ?_⟩) ?_
    rotate_left
    · intro w hSw
      (try dsimp only at hSw)
      go_simp
      (try with_reducible rfl)
    simp only [Act.put, List.setIfInBounds_toArray, List.set_cons_zero, List.set_cons_succ]
    refine plan.wpPlan_call na_g42 (fun K hK => ?_)
    rw [if_pos (by kernel_rfl)]
    go_simp
    (go_at_call 56; (with_reducible refine (Cx29.out _ _ _ (((((((((((((((((H_a.out.below HB3.out).below HB4.out).below HB5.out).below HB6.out).below HB7.out).below HB8.out).below HB9.out).below HB10.out).below HB11.out).below HB12.out).below HB13.out).below HB14.out).below HB15.out).below HB16.out).below HB17.out).below HB18.out).below HR33.out) (((((((((((((((H_b.out.below HB5.out).below HB6.out).below HB7.out).below HB8.out).below HB9.out).below HB10.out).below HB11.out).below HB12.out).below HB13.out).below HB14.out).below HB15.out).below HB16.out).below HB17.out).below HB18.out).below HR33.out)).mono ?_); rintro e W34 ⟨rfl, hb⟩
     have HB34 := Lib.hid hb
     have HR34 := Lib.hid (nat.below_tr HR33.out HB34.out)
     clear hb Cx29)
    (try dsimp only)
    refine hK.out _ _ ?_ (fun hHeld => ?_)
    · exact HOLD.out _ HR34.out
    clear hK K
    refine plan.wpPlan_call na_g45 (fun K hK => ?_)
    rw [if_pos (by kernel_rfl)]
    go_simp
    (go_at_call 64; (with_reducible refine (Cx30.out _ _ _ (((((((((((((((((H_x.out.below HB3.out).below HB4.out).below HB5.out).below HB6.out).below HB7.out).below HB8.out).below HB9.out).below HB10.out).below HB11.out).below HB12.out).below HB13.out).below HB14.out).below HB15.out).below HB16.out).below HB17.out).below HB18.out).below HR34.out) (((((((((((((((H_y.out.below HB5.out).below HB6.out).below HB7.out).below HB8.out).below HB9.out).below HB10.out).below HB11.out).below HB12.out).below HB13.out).below HB14.out).below HB15.out).below HB16.out).below HB17.out).below HB18.out).below HR34.out)).mono ?_); rintro e W35 ⟨rfl, hb⟩
     have HB35 := Lib.hid hb
     have HR35 := Lib.hid (nat.below_tr HR34.out HB35.out)
     clear hb Cx30)
    (try dsimp only)
    refine hK.out _ _ ?_ (fun hHeld => ?_)
    · exact HOLD.out _ HR35.out
    clear hK K
    refine plan.wpPlan_take (v := ?_) na_g46 (Or.inl ⟨by kernel_rfl, ?_⟩) ?_
    rotate_left
    · intro w hSw
      (try dsimp only at hSw)
      go_simp
      (try with_reducible rfl)
    simp only [Act.put, List.setIfInBounds_toArray, List.set_cons_zero, List.set_cons_succ]
    refine plan.wpPlan_take (v := ?_) na_g47 (Or.inl ⟨by kernel_rfl, ?_⟩) ?_
    rotate_left
    · intro w hSw
      (try dsimp only at hSw)
      go_simp
      (try with_reducible rfl)
    simp only [Act.put, List.setIfInBounds_toArray, List.set_cons_zero, List.set_cons_succ]
    refine plan.wpPlan_take (v := ?_) na_g48 (Or.inl ⟨by kernel_rfl, ?_⟩) ?_
    rotate_left
    · intro w hSw
      (try dsimp only at hSw)
      go_simp
      (try with_reducible rfl)
    simp only [Act.put, List.setIfInBounds_toArray, List.set_cons_zero, List.set_cons_succ]
    refine plan.wpPlan_take (v := ?_) na_g49 (Or.inl ⟨by kernel_rfl, ?_⟩) ?_
    rotate_left
    · intro w hSw
      (try dsimp only at hSw)
      go_simp
      (try with_reducible rfl)
    simp only [Act.put, List.setIfInBounds_toArray, List.set_cons_zero, List.set_cons_succ]
    refine plan.wpPlan_take (v := ?_) na_g52 (Or.inl ⟨by kernel_rfl, ?_⟩) ?_
    rotate_left
    · intro w hSw
      (try dsimp only at hSw)
      go_simp
      (try with_reducible rfl)
    simp only [Act.put, List.setIfInBounds_toArray, List.set_cons_zero, List.set_cons_succ]
    refine plan.wpPlan_call na_g50 (fun K hK => ?_)
    rw [if_pos (by kernel_rfl)]
    go_simp
    (go_at_call 65; (with_reducible refine (Cx31.out _ _ (((((((((((((((((H_a.out.below HB3.out).below HB4.out).below HB5.out).below HB6.out).below HB7.out).below HB8.out).below HB9.out).below HB10.out).below HB11.out).below HB12.out).below HB13.out).below HB14.out).below HB15.out).below HB16.out).below HB17.out).below HB18.out).below HR35.out)).mono ?_); rintro e W36 ⟨a5, rfl, ⟨h_a5, n_a5⟩, hb⟩
     have H_a5 := Lib.hid h_a5
     have N_a5 := Lib.hid n_a5
     have HB36 := Lib.hid hb
     have HR36 := Lib.hid (nat.below_tr HR35.out HB36.out)
     clear h_a5 n_a5 hb Cx31)
    (try dsimp only)
    refine hK.out _ _ ?_ (fun hHeld => ?_)
    · exact HOLD.out _ HR36.out
    clear hK K
    refine plan.wpPlan_call na_g51 (fun K hK => ?_)
    rw [if_pos (by kernel_rfl)]
    go_simp
    (go_at_call 52; (with_reducible refine (Cx32.out _ _ H_a5.out).mono ?_); rintro e W37 ⟨rfl, hb⟩
     have HB37 := Lib.hid hb
     have HR37 := Lib.hid (nat.below_tr HR36.out HB37.out)
     clear hb Cx32)
    (try dsimp only)
    refine hK.out _ _ ?_ (fun hHeld => ?_)
    · exact HOLD.out _ HR37.out
    clear hK K
    refine plan.wpPlan_call na_g53 (fun K hK => ?_)
    rw [if_pos (by kernel_rfl)]
    go_simp
    (go_at_call 62; (with_reducible refine (Cx33.out _ _ (((((((((((((((((H_x.out.below HB3.out).below HB4.out).below HB5.out).below HB6.out).below HB7.out).below HB8.out).below HB9.out).below HB10.out).below HB11.out).below HB12.out).below HB13.out).below HB14.out).below HB15.out).below HB16.out).below HB17.out).below HB18.out).below HR37.out)).mono ?_); rintro e W38 ⟨i5, rfl, h_i5, hb⟩
     have H_i5 := Lib.hid h_i5
     have HB38 := Lib.hid hb
     have HR38 := Lib.hid (nat.below_tr HR37.out HB38.out)
     clear h_i5 hb Cx33)
    (try dsimp only)
    refine hK.out _ _ ?_ (fun hHeld => ?_)
    · exact HOLD.out _ HR38.out
    clear hK K
    refine plan.wpPlan_call na_g54 (fun K hK => ?_)
    rw [if_pos (by kernel_rfl)]
    go_simp
    (go_at_call 53; (with_reducible refine (Cx34.out _ _ H_i5.out).mono ?_); rintro e W39 ⟨rfl, hb⟩
     have HB39 := Lib.hid hb
     have HR39 := Lib.hid (nat.below_tr HR38.out HB39.out)
     clear hb Cx34)
    (try dsimp only)
    refine hK.out _ _ ?_ (fun hHeld => ?_)
    · exact HOLD.out _ HR39.out
    clear hK K
    refine plan.wpPlan_take (v := ?_) na_g55 (Or.inl ⟨by kernel_rfl, ?_⟩) ?_
    rotate_left
    · intro w hSw
      (try dsimp only at hSw)
      go_simp
      (try with_reducible rfl)
    simp only [Act.put, List.setIfInBounds_toArray, List.set_cons_zero, List.set_cons_succ]
    refine plan.wpPlan_take (v := ?_) na_g56 (Or.inl ⟨by kernel_rfl, ?_⟩) ?_
    rotate_left
    · intro w hSw
      (try dsimp only at hSw)
      go_simp
      (try with_reducible rfl)
    simp only [Act.put, List.setIfInBounds_toArray, List.set_cons_zero, List.set_cons_succ]
    refine plan.wpPlan_take (v := ?_) na_g57 (Or.inl ⟨by kernel_rfl, ?_⟩) ?_
    rotate_left
    · intro w hSw
      (try dsimp only at hSw)
      go_simp
      (try with_reducible rfl)
    simp only [Act.put, List.setIfInBounds_toArray, List.set_cons_zero, List.set_cons_succ]
    refine plan.wpPlan_take (v := ?_) na_g58 (Or.inl ⟨by kernel_rfl, ?_⟩) ?_
    rotate_left
    · intro w hSw
      (try dsimp only at hSw)
      go_simp
      (try with_reducible rfl)
    simp only [Act.put, List.setIfInBounds_toArray, List.set_cons_zero, List.set_cons_succ]
    refine plan.wpPlan_take (v := ?_) na_g61 (Or.inl ⟨by kernel_rfl, ?_⟩) ?_
    rotate_left
    · intro w hSw
      (try dsimp only at hSw)
      go_simp
      (try with_reducible rfl)
    simp only [Act.put, List.setIfInBounds_toArray, List.set_cons_zero, List.set_cons_succ]
    refine plan.wpPlan_take (v := ?_) na_g62 (Or.inl ⟨by kernel_rfl, ?_⟩) ?_
    rotate_left
    · intro w hSw
      (try dsimp only at hSw)
      go_simp
      (try with_reducible rfl)
    simp only [Act.put, List.setIfInBounds_toArray, List.set_cons_zero, List.set_cons_succ]
    refine plan.wpPlan_call na_g59 (fun K hK => ?_)
    rw [if_pos (by kernel_rfl)]
    go_simp
    (go_at_call 66; (with_reducible refine (Cx35.out _ _ (((((((((((((((((H_a.out.below HB3.out).below HB4.out).below HB5.out).below HB6.out).below HB7.out).below HB8.out).below HB9.out).below HB10.out).below HB11.out).below HB12.out).below HB13.out).below HB14.out).below HB15.out).below HB16.out).below HB17.out).below HB18.out).below HR39.out)).mono ?_); rintro e W40 ⟨a6, rfl, ⟨h_a6, n_a6⟩, hb⟩
     have H_a6 := Lib.hid h_a6
     have N_a6 := Lib.hid n_a6
     have HB40 := Lib.hid hb
     have HR40 := Lib.hid (nat.below_tr HR39.out HB40.out)
     clear h_a6 n_a6 hb Cx35)
    (try dsimp only)
    refine hK.out _ _ ?_ (fun hHeld => ?_)
    · exact HOLD.out _ HR40.out
    clear hK K
    refine plan.wpPlan_call na_g60 (fun K hK => ?_)
    rw [if_pos (by kernel_rfl)]
    go_simp
    (go_at_call 30; (with_reducible refine (Cx36.out _ _ H_a6.out).mono ?_); rintro e W41 ⟨rfl, hb⟩
     have HB41 := Lib.hid hb
     have HR41 := Lib.hid (nat.below_tr HR40.out HB41.out)
     clear hb Cx36)
    (try dsimp only)
    refine hK.out _ _ ?_ (fun hHeld => ?_)
    · exact HOLD.out _ HR41.out
    clear hK K
    refine plan.wpPlan_call na_g63 (fun K hK => ?_)
    rw [if_pos (by kernel_rfl)]
    go_simp
    (go_at_call 32; (with_reducible refine (Cx37.out _ _ (((((((((((((((((H_xA.out.below HB3.out).below HB4.out).below HB5.out).below HB6.out).below HB7.out).below HB8.out).below HB9.out).below HB10.out).below HB11.out).below HB12.out).below HB13.out).below HB14.out).below HB15.out).below HB16.out).below HB17.out).below HB18.out).below HR41.out)).mono ?_); rintro e W42 ⟨rfl, hb⟩
     have HB42 := Lib.hid hb
     have HR42 := Lib.hid (nat.below_tr HR41.out HB42.out)
     clear hb Cx37)
    (try dsimp only)
    refine hK.out _ _ ?_ (fun hHeld => ?_)
    · exact HOLD.out _ HR42.out
    clear hK K
    refine plan.wpPlan_take (v := ?_) na_g64 (Or.inl ⟨by kernel_rfl, ?_⟩) ?_
    rotate_left
    · intro w hSw
      (try dsimp only at hSw)
      go_simp
      (try with_reducible rfl)
    simp only [Act.put, List.setIfInBounds_toArray, List.set_cons_zero, List.set_cons_succ]
    refine plan.wpPlan_take (v := ?_) na_g65 (Or.inl ⟨by kernel_rfl, ?_⟩) ?_
    rotate_left
    · intro w hSw
      (try dsimp only at hSw)
      go_simp
      (try with_reducible rfl)
    simp only [Act.put, List.setIfInBounds_toArray, List.set_cons_zero, List.set_cons_succ]
    refine plan.wpPlan_take (v := ?_) na_g66 (Or.inl ⟨by kernel_rfl, ?_⟩) ?_
    rotate_left
    · intro w hSw
      (try dsimp only at hSw)
      go_simp
      (try with_reducible rfl)
    simp only [Act.put, List.setIfInBounds_toArray, List.set_cons_zero, List.set_cons_succ]
    refine plan.wpPlan_take (v := ?_) na_g67 (Or.inl ⟨by kernel_rfl, ?_⟩) ?_
    rotate_left
    · intro w hSw
      (try dsimp only at hSw)
      go_simp
      (try with_reducible rfl)
    simp only [Act.put, List.setIfInBounds_toArray, List.set_cons_zero, List.set_cons_succ]
    refine plan.wpPlan_take (v := ?_) na_g69 (Or.inl ⟨by kernel_rfl, ?_⟩) ?_
    rotate_left
    · intro w hSw
      (try dsimp only at hSw)
      go_simp
      (try with_reducible rfl)
    simp only [Act.put, List.setIfInBounds_toArray, List.set_cons_zero, List.set_cons_succ]
    refine plan.wpPlan_take (v := ?_) na_g70 (Or.inl ⟨by kernel_rfl, ?_⟩) ?_
    rotate_left
    · intro w hSw
      (try dsimp only at hSw)
      go_simp
      (try with_reducible rfl)
    simp only [Act.put, List.setIfInBounds_toArray, List.set_cons_zero, List.set_cons_succ]
    refine plan.wpPlan_call na_g68 (fun K hK => ?_)
    rw [if_pos (by kernel_rfl)]
    go_simp
    (go_at_call 67; (with_reducible refine (Cx38.out _ _ (((((((((((((((((H_a.out.below HB3.out).below HB4.out).below HB5.out).below HB6.out).below HB7.out).below HB8.out).below HB9.out).below HB10.out).below HB11.out).below HB12.out).below HB13.out).below HB14.out).below HB15.out).below HB16.out).below HB17.out).below HB18.out).below HR42.out)).mono ?_); rintro e w9 ⟨rfl, rfl⟩
     clear Cx38)
    (try dsimp only)
    refine hK.out _ _ ?_ (fun hHeld => ?_)
    · exact HOLD.out _ HR42.out
    clear hK K
    refine plan.wpPlan_call na_g71 (fun K hK => ?_)
    rw [if_pos (by kernel_rfl)]
    go_simp
    (go_at_call 64; (with_reducible refine (Cx39.out _ _ (((((((((((((((((H_x.out.below HB3.out).below HB4.out).below HB5.out).below HB6.out).below HB7.out).below HB8.out).below HB9.out).below HB10.out).below HB11.out).below HB12.out).below HB13.out).below HB14.out).below HB15.out).below HB16.out).below HB17.out).below HB18.out).below HR42.out)).mono ?_); rintro e W43 ⟨rfl, hb⟩
     have HB43 := Lib.hid hb
     have HR43 := Lib.hid (nat.below_tr HR42.out HB43.out)
     clear hb Cx39)
    (try dsimp only)
    refine hK.out _ _ ?_ (fun hHeld => ?_)
    · exact HOLD.out _ HR43.out
    clear hK K
    refine plan.wpPlan_take (v := ?_) na_g72 (Or.inl ⟨by kernel_rfl, ?_⟩) ?_
    rotate_left
    · intro w hSw
      (try dsimp only at hSw)
      go_simp
      (try with_reducible rfl)
    simp only [Act.put, List.setIfInBounds_toArray, List.set_cons_zero, List.set_cons_succ]
    refine plan.wpPlan_take (v := ?_) na_g73 (Or.inl ⟨by kernel_rfl, ?_⟩) ?_
    rotate_left
    · intro w hSw
      (try dsimp only at hSw)
      go_simp
      (try with_reducible rfl)
    simp only [Act.put, List.setIfInBounds_toArray, List.set_cons_zero, List.set_cons_succ]
    refine plan.wpPlan_take (v := ?_) na_g74 (Or.inl ⟨by kernel_rfl, ?_⟩) ?_
    rotate_left
    · intro w hSw
      (try dsimp only at hSw)
      go_simp
      (try with_reducible rfl)
    simp only [Act.put, List.setIfInBounds_toArray, List.set_cons_zero, List.set_cons_succ]
    refine plan.wpPlan_take (v := ?_) na_g75 (Or.inl ⟨by kernel_rfl, ?_⟩) ?_
    rotate_left
    · intro w hSw
      (try dsimp only at hSw)
      go_simp
      (try with_reducible rfl)
    simp only [Act.put, List.setIfInBounds_toArray, List.set_cons_zero, List.set_cons_succ]
    refine plan.wpPlan_take (v := ?_) na_g76 (Or.inl ⟨by kernel_rfl, ?_⟩) ?_
    rotate_left
    · intro w hSw
      (try dsimp only at hSw)
      go_simp
      (try with_reducible rfl)
    simp only [Act.put, List.setIfInBounds_toArray, List.set_cons_zero, List.set_cons_succ]
    refine plan.wpPlan_take (v := ?_) na_g77 (Or.inl ⟨by kernel_rfl, ?_⟩) ?_
    rotate_left
    · intro w hSw
      (try dsimp only at hSw)
      go_simp
      (try with_reducible rfl)
    simp only [Act.put, List.setIfInBounds_toArray, List.set_cons_zero, List.set_cons_succ]
    refine plan.wpPlan_take (v := ?_) na_g78 (Or.inl ⟨by kernel_rfl, ?_⟩) ?_
    rotate_left
    · intro w hSw
      (try dsimp only at hSw)
      go_simp
      (try with_reducible rfl)
    simp only [Act.put, List.setIfInBounds_toArray, List.set_cons_zero, List.set_cons_succ]
    refine plan.wpPlan_take (v := ?_) na_g79 (Or.inl ⟨by kernel_rfl, ?_⟩) ?_
    rotate_left
    · intro w hSw
      (try dsimp only at hSw)
      go_simp
      (try with_reducible rfl)
    simp only [Act.put, List.setIfInBounds_toArray, List.set_cons_zero, List.set_cons_succ]
    refine plan.wpPlan_take (v := ?_) na_g80 (Or.inl ⟨by kernel_rfl, ?_⟩) ?_
    rotate_left
    · intro w hSw
      (try dsimp only at hSw)
      go_simp
      (try with_reducible rfl)
    simp only [Act.put, List.setIfInBounds_toArray, List.set_cons_zero, List.set_cons_succ]
    refine plan.wpPlan_take (v := ?_) na_g81 (Or.inl ⟨by kernel_rfl, ?_⟩) ?_
    rotate_left
    · intro w hSw
      (try dsimp only at hSw)
      go_simp
      (try with_reducible rfl)
    simp only [Act.put, List.setIfInBounds_toArray, List.set_cons_zero, List.set_cons_succ]
    refine plan.wpPlan_take (v := ?_) na_g82 (Or.inl ⟨by kernel_rfl, ?_⟩) ?_
    rotate_left
    · intro w hSw
      (try dsimp only at hSw)
      go_simp
      (try with_reducible rfl)
    simp only [Act.put, List.setIfInBounds_toArray, List.set_cons_zero, List.set_cons_succ]
    refine plan.wpPlan_take (v := ?_) na_g83 (Or.inl ⟨by kernel_rfl, ?_⟩) ?_
    rotate_left
    · intro w hSw
      (try dsimp only at hSw)
      go_simp
      (try with_reducible rfl)
    simp only [Act.put, List.setIfInBounds_toArray, List.set_cons_zero, List.set_cons_succ]
    refine plan.wpPlan_take (v := ?_) na_g85 (Or.inl ⟨by kernel_rfl, ?_⟩) ?_
    rotate_left
    · intro w hSw
      (try dsimp only at hSw)
      go_simp
      (try with_reducible rfl)
    simp only [Act.put, List.setIfInBounds_toArray, List.set_cons_zero, List.set_cons_succ]
    refine plan.wpPlan_call na_g84 (fun K hK => ?_)
    rw [if_pos (by kernel_rfl)]
    go_simp
    (go_at_call 52; (with_reducible refine (Cx40.out _ _ ((H_z.out.below HB18.out).below HR43.out)).mono ?_); rintro e W44 ⟨rfl, hb⟩
     have HB44 := Lib.hid hb
     have HR44 := Lib.hid (nat.below_tr HR43.out HB44.out)
     clear hb Cx40)
    (try dsimp only)
    refine hK.out _ _ ?_ (fun hHeld => ?_)
    · exact HOLD.out _ HR44.out
    clear hK K
    refine plan.wpPlan_call na_g86 (fun K hK => ?_)
    rw [if_pos (by kernel_rfl)]
    go_simp
    (go_at_call 68; (with_reducible refine (Cx41.out _ ).mono ?_); rintro e W45 ⟨i7, rfl, h_i7, hb⟩
     have H_i7 := Lib.hid h_i7
     have HB45 := Lib.hid hb
     have HR45 := Lib.hid (nat.below_tr HR44.out HB45.out)
     clear h_i7 hb Cx41)
    (try dsimp only)
    refine hK.out _ _ ?_ (fun hHeld => ?_)
    · exact HOLD.out _ HR45.out
    clear hK K
    refine plan.wpPlan_call na_g87 (fun K hK => ?_)
    rw [if_pos (by kernel_rfl)]
    go_simp
    (go_at_call 53; (with_reducible refine (Cx42.out _ _ H_i7.out).mono ?_); rintro e W46 ⟨rfl, hb⟩
     have HB46 := Lib.hid hb
     have HR46 := Lib.hid (nat.below_tr HR45.out HB46.out)
     clear hb Cx42)
    (try dsimp only)
    refine hK.out _ _ ?_ (fun hHeld => ?_)
    · exact HOLD.out _ HR46.out
    clear hK K
    refine plan.wpPlan_take (v := ?_) na_g88 (Or.inl ⟨by kernel_rfl, ?_⟩) ?_
    rotate_left
    · intro w hSw
      (try dsimp only at hSw)
      go_simp
      (try with_reducible rfl)
    simp only [Act.put, List.setIfInBounds_toArray, List.set_cons_zero, List.set_cons_succ]
    refine plan.wpPlan_take (v := ?_) na_g89 (Or.inl ⟨by kernel_rfl, ?_⟩) ?_
    rotate_left
    · intro w hSw
      (try dsimp only at hSw)
      go_simp
      (try with_reducible rfl)
    simp only [Act.put, List.setIfInBounds_toArray, List.set_cons_zero, List.set_cons_succ]
    refine plan.wpPlan_take (v := ?_) na_g90 (Or.inl ⟨by kernel_rfl, ?_⟩) ?_
    rotate_left
    · intro w hSw
      (try dsimp only at hSw)
      go_simp
      (try with_reducible rfl)
    simp only [Act.put, List.setIfInBounds_toArray, List.set_cons_zero, List.set_cons_succ]
    refine plan.wpPlan_take (v := ?_) na_g91 (Or.inl ⟨by kernel_rfl, ?_⟩) ?_
    rotate_left
    · intro w hSw
      (try dsimp only at hSw)
      go_simp
      (try with_reducible rfl)
    simp only [Act.put, List.setIfInBounds_toArray, List.set_cons_zero, List.set_cons_succ]
    refine plan.wpPlan_take (v := ?_) na_g92 (Or.inl ⟨by kernel_rfl, ?_⟩) ?_
    rotate_left
    · intro w hSw
      (try dsimp only at hSw)
      go_simp
      (try with_reducible rfl)
    simp only [Act.put, List.setIfInBounds_toArray, List.set_cons_zero, List.set_cons_succ]
    refine plan.wpPlan_take (v := ?_) na_g93 (Or.inl ⟨by kernel_rfl, ?_⟩) ?_
    rotate_left
    · intro w hSw
      (try dsimp only at hSw)
      go_simp
      (try with_reducible rfl)
    simp only [Act.put, List.setIfInBounds_toArray, List.set_cons_zero, List.set_cons_succ]
    refine plan.wpPlan_take (v := ?_) na_g94 (Or.inl ⟨by kernel_rfl, ?_⟩) ?_
    rotate_left
    · intro w hSw
      (try dsimp only at hSw)
      go_simp
      (try with_reducible rfl)
    simp only [Act.put, List.setIfInBounds_toArray, List.set_cons_zero, List.set_cons_succ]
    refine plan.wpPlan_take (v := ?_) na_g95 (Or.inl ⟨by kernel_rfl, ?_⟩) ?_
    rotate_left
    · intro w hSw
      (try dsimp only at hSw)
      go_simp
      (try with_reducible rfl)
    simp only [Act.put, List.setIfInBounds_toArray, List.set_cons_zero, List.set_cons_succ]
    refine plan.wpPlan_take (v := ?_) na_g96 (Or.inl ⟨by kernel_rfl, ?_⟩) ?_
    rotate_left
    · intro w hSw
      (try dsimp only at hSw)
      go_simp
      (try with_reducible rfl)
    simp only [Act.put, List.setIfInBounds_toArray, List.set_cons_zero, List.set_cons_succ]
    refine plan.wpPlan_take (v := ?_) na_g97 (Or.inl ⟨by kernel_rfl, ?_⟩) ?_
    rotate_left
    · intro w hSw
      (try dsimp only at hSw)
      go_simp
      (try with_reducible rfl)
    simp only [Act.put, List.setIfInBounds_toArray, List.set_cons_zero, List.set_cons_succ]
    refine plan.wpPlan_take (v := ?_) na_g98 (Or.inl ⟨by kernel_rfl, ?_⟩) ?_
    rotate_left
    · intro w hSw
      (try dsimp only at hSw)
      go_simp
      (try with_reducible rfl)
    simp only [Act.put, List.setIfInBounds_toArray, List.set_cons_zero, List.set_cons_succ]
    refine plan.wpPlan_take (v := ?_) na_g99 (Or.inl ⟨by kernel_rfl, ?_⟩) ?_
    rotate_left
    · intro w hSw
      (try dsimp only at hSw)
      go_simp
      (try with_reducible rfl)
    simp only [Act.put, List.setIfInBounds_toArray, List.set_cons_zero, List.set_cons_succ]
    refine plan.wpPlan_take (v := ?_) na_g100 (Or.inl ⟨by kernel_rfl, ?_⟩) ?_
    rotate_left
    · intro w hSw
      (try dsimp only at hSw)
      go_simp
      (try with_reducible rfl)
    simp only [Act.put, List.setIfInBounds_toArray, List.set_cons_zero, List.set_cons_succ]
    refine plan.wpPlan_done ?_
    go_wp2
    skip
    all_goals (go_ret; exact ⟨rfl, (nat.below_tr (nat.below_tr (nat.below_tr (nat.below_tr (nat.below_tr (nat.below_tr (nat.below_tr (nat.below_tr (nat.below_tr (nat.below_tr (nat.below_tr (nat.below_tr (nat.below_tr (nat.below_tr (nat.below_tr (nat.below_tr (nat.below_tr (nat.below_tr (nat.below_tr (nat.below_tr (nat.below_tr (nat.below_tr (nat.below_tr (nat.below_tr (nat.below_tr (nat.below_tr (nat.below_tr (nat.below_tr (nat.below_tr (nat.below_tr (nat.below_tr (nat.below_tr (nat.below_tr (nat.below_tr (nat.below_tr (nat.below_tr (nat.below_tr (nat.below_tr (nat.below_tr (nat.below_tr (nat.below_tr (nat.below_tr (nat.below_tr (nat.below_tr (nat.below_tr HB1.out HB2.out) HB3.out) HB4.out) HB5.out) HB6.out) HB7.out) HB8.out) HB9.out) HB10.out) HB11.out) HB12.out) HB13.out) HB14.out) HB15.out) HB16.out) HB17.out) HB18.out) HB19.out) HB20.out) HB21.out) HB22.out) HB23.out) HB24.out) HB25.out) HB26.out) HB27.out) HB28.out) HB29.out) HB30.out) HB31.out) HB32.out) HB33.out) HB34.out) HB35.out) HB36.out) HB37.out) HB38.out) HB39.out) HB40.out) HB41.out) HB42.out) HB43.out) HB44.out) HB45.out) HB46.out)⟩)
end Go.Proofs.YtfpooimjjpamoaaGreatDoor.law2
