/- orders: the map of rows: what a number's key does stands in it, whatever order its calls and inserts come in. -/
import Derived.Test.YtogkdhpnbpgheaaGreatDoorQOrd
import Derived.WideKeyRuns
import Derived.MapKept
import Derived.BigQuiet
import Derived.Below
import Derived.Carry
import Derived.Lib.Hide
import Derived.Laws.StructEq
import Derived.ChangeKeysEq
namespace Go.Proofs.YtogkdhpnbpgheaaGreatDoor
open Go.RowKit
def kA (k : Int) (b : Bool) : Value := .agg #[.int .i64 k, .bool b]
def isF (v : Value) : Prop := ∃ f x y, v = .func f x y
/-- what a number's key does -/
def rowV : Value := .agg #[.func (.func 84) #[] #[], .func (.func 85) #[] #[], .nilFunc, .nilFunc, .nilFunc, .nilFunc, .nilFunc, .nilFunc]
def qo0 : Oper := { dst := some 1, op := Op.makeMap 107 none, type := 107, pos := "orders.go:230", after := #[], guard := none }
def qo1 : Oper := { dst := some 2, op := Op.build 111 #[(0, Operand.const (Value.int IntKind.i64 1)), (1, Operand.const (Value.bool false))], type := 111, pos := "orders.go:230", after := #[], guard := none }
def qo2 : Oper := { dst := some 3, op := Op.build 109 #[(0, Operand.func 84), (1, Operand.func 85)], type := 109, pos := "orders.go:230", after := #[], guard := none }
def qo3 : Oper := { dst := none, op := Op.insert 107 (Operand.tmp 1) (Operand.tmp 2) (Operand.tmp 3), type := 0, pos := "orders.go:230", after := #[{ on := 0, ground := Ground.data }, { on := 1, ground := Ground.data }, { on := 2, ground := Ground.data }], guard := none }
def qo4 : Oper := { dst := some 4, op := Op.build 111 #[(0, Operand.const (Value.int IntKind.i64 2)), (1, Operand.const (Value.bool false))], type := 111, pos := "orders.go:230", after := #[], guard := none }
def qo5 : Oper := { dst := some 5, op := Op.call { callee := Callee.value (Operand.func 86), args := #[Operand.func 87], argTypes := #[148] }, type := 81, pos := "orders.go:232", after := #[], guard := none }
def qo6 : Oper := { dst := some 6, op := Op.call { callee := Callee.value (Operand.func 88), args := #[Operand.func 89, Operand.func 90], argTypes := #[150, 151] }, type := 81, pos := "orders.go:232", after := #[{ on := 5, ground := Ground.chain }], guard := none }
def qo7 : Oper := { dst := some 7, op := Op.build 109 #[(0, Operand.func 84), (3, Operand.tmp 5), (4, Operand.tmp 6), (6, Operand.func 91)], type := 109, pos := "orders.go:230", after := #[{ on := 5, ground := Ground.data }, { on := 6, ground := Ground.data }], guard := none }
def qo8 : Oper := { dst := none, op := Op.insert 107 (Operand.tmp 1) (Operand.tmp 4) (Operand.tmp 7), type := 0, pos := "orders.go:230", after := #[{ on := 0, ground := Ground.data }, { on := 4, ground := Ground.data }, { on := 7, ground := Ground.data }], guard := none }
def qo9 : Oper := { dst := some 8, op := Op.build 111 #[(0, Operand.const (Value.int IntKind.i64 2)), (1, Operand.const (Value.bool true))], type := 111, pos := "orders.go:230", after := #[], guard := none }
def qo10 : Oper := { dst := some 9, op := Op.call { callee := Callee.value (Operand.func 92), args := #[Operand.func 93, Operand.func 94, Operand.func 95], argTypes := #[153, 154, 155] }, type := 81, pos := "orders.go:234", after := #[{ on := 6, ground := Ground.chain }], guard := none }
def qo11 : Oper := { dst := some 10, op := Op.call { callee := Callee.value (Operand.func 96), args := #[Operand.func 97, Operand.func 94, Operand.func 90, Operand.func 95], argTypes := #[157, 154, 151, 155] }, type := 81, pos := "orders.go:235", after := #[{ on := 10, ground := Ground.chain }], guard := none }
def qo12 : Oper := { dst := some 11, op := Op.build 109 #[(1, Operand.tmp 9), (2, Operand.tmp 10), (5, Operand.func 98)], type := 109, pos := "orders.go:230", after := #[{ on := 10, ground := Ground.data }, { on := 11, ground := Ground.data }], guard := none }
def qo13 : Oper := { dst := none, op := Op.insert 107 (Operand.tmp 1) (Operand.tmp 8) (Operand.tmp 11), type := 0, pos := "orders.go:230", after := #[{ on := 0, ground := Ground.data }, { on := 9, ground := Ground.data }, { on := 12, ground := Ground.data }], guard := none }
def qo14 : Oper := { dst := some 12, op := Op.build 111 #[(0, Operand.const (Value.int IntKind.i64 3)), (1, Operand.const (Value.bool false))], type := 111, pos := "orders.go:230", after := #[], guard := none }
def qo15 : Oper := { dst := some 13, op := Op.call { callee := Callee.value (Operand.func 86), args := #[Operand.func 99], argTypes := #[148] }, type := 81, pos := "orders.go:238", after := #[{ on := 11, ground := Ground.chain }], guard := none }
def qo16 : Oper := { dst := some 14, op := Op.call { callee := Callee.value (Operand.func 88), args := #[Operand.func 100, Operand.func 90], argTypes := #[150, 151] }, type := 81, pos := "orders.go:238", after := #[{ on := 15, ground := Ground.chain }], guard := none }
def qo17 : Oper := { dst := some 15, op := Op.build 109 #[(0, Operand.func 84), (3, Operand.tmp 13), (4, Operand.tmp 14)], type := 109, pos := "orders.go:230", after := #[{ on := 15, ground := Ground.data }, { on := 16, ground := Ground.data }], guard := none }
def qo18 : Oper := { dst := none, op := Op.insert 107 (Operand.tmp 1) (Operand.tmp 12) (Operand.tmp 15), type := 0, pos := "orders.go:230", after := #[{ on := 0, ground := Ground.data }, { on := 14, ground := Ground.data }, { on := 17, ground := Ground.data }], guard := none }
def qo19 : Oper := { dst := some 16, op := Op.build 111 #[(0, Operand.const (Value.int IntKind.i64 3)), (1, Operand.const (Value.bool true))], type := 111, pos := "orders.go:230", after := #[], guard := none }
def qo20 : Oper := { dst := some 17, op := Op.call { callee := Callee.value (Operand.func 101), args := #[Operand.func 102, Operand.func 94, Operand.func 103], argTypes := #[159, 154, 160] }, type := 81, pos := "orders.go:239", after := #[{ on := 16, ground := Ground.chain }], guard := none }
def qo21 : Oper := { dst := some 18, op := Op.build 109 #[(1, Operand.tmp 17), (2, Operand.func 104), (5, Operand.func 98)], type := 109, pos := "orders.go:230", after := #[{ on := 20, ground := Ground.data }], guard := none }
def qo22 : Oper := { dst := none, op := Op.insert 107 (Operand.tmp 1) (Operand.tmp 16) (Operand.tmp 18), type := 0, pos := "orders.go:230", after := #[{ on := 0, ground := Ground.data }, { on := 19, ground := Ground.data }, { on := 21, ground := Ground.data }], guard := none }
def qo23 : Oper := { dst := some 19, op := Op.build 111 #[(0, Operand.const (Value.int IntKind.i64 4)), (1, Operand.const (Value.bool false))], type := 111, pos := "orders.go:230", after := #[], guard := none }
def qo24 : Oper := { dst := some 20, op := Op.call { callee := Callee.value (Operand.func 107), args := #[Operand.const (Value.int IntKind.i64 1)], argTypes := #[45] }, type := 163, pos := "orders.go:242", after := #[{ on := 20, ground := Ground.chain }], guard := none }
def qo25 : Oper := { dst := some 21, op := Op.call { callee := Callee.value (Operand.func 105), args := #[Operand.func 106, Operand.tmp 20, Operand.func 95], argTypes := #[162, 163, 155] }, type := 81, pos := "orders.go:242", after := #[{ on := 24, ground := Ground.data }, { on := 24, ground := Ground.chain }], guard := none }
def qo26 : Oper := { dst := some 22, op := Op.call { callee := Callee.value (Operand.func 107), args := #[Operand.const (Value.int IntKind.i64 2)], argTypes := #[45] }, type := 163, pos := "orders.go:243", after := #[{ on := 25, ground := Ground.chain }], guard := none }
def qo27 : Oper := { dst := some 23, op := Op.call { callee := Callee.value (Operand.func 105), args := #[Operand.func 106, Operand.tmp 22, Operand.func 95], argTypes := #[162, 163, 155] }, type := 81, pos := "orders.go:243", after := #[{ on := 26, ground := Ground.data }, { on := 26, ground := Ground.chain }], guard := none }
def qo28 : Oper := { dst := some 24, op := Op.call { callee := Callee.value (Operand.func 88), args := #[Operand.func 108, Operand.func 90], argTypes := #[150, 151] }, type := 81, pos := "orders.go:244", after := #[{ on := 27, ground := Ground.chain }], guard := none }
def qo29 : Oper := { dst := some 25, op := Op.call { callee := Callee.value (Operand.func 109), args := #[Operand.func 110, Operand.func 90, Operand.func 111], argTypes := #[166, 151, 167] }, type := 81, pos := "orders.go:245", after := #[{ on := 28, ground := Ground.chain }], guard := none }
def qo30 : Oper := { dst := some 26, op := Op.call { callee := Callee.value (Operand.func 112), args := #[Operand.func 113, Operand.func 114], argTypes := #[169, 170] }, type := 81, pos := "orders.go:246", after := #[{ on := 29, ground := Ground.chain }], guard := none }
def qo31 : Oper := { dst := some 27, op := Op.build 109 #[(0, Operand.func 84), (1, Operand.tmp 21), (2, Operand.tmp 23), (3, Operand.tmp 24), (5, Operand.tmp 25), (6, Operand.tmp 26)], type := 109, pos := "orders.go:230", after := #[{ on := 25, ground := Ground.data }, { on := 27, ground := Ground.data }, { on := 28, ground := Ground.data }, { on := 29, ground := Ground.data }, { on := 30, ground := Ground.data }], guard := none }
def qo32 : Oper := { dst := none, op := Op.insert 107 (Operand.tmp 1) (Operand.tmp 19) (Operand.tmp 27), type := 0, pos := "orders.go:230", after := #[{ on := 0, ground := Ground.data }, { on := 23, ground := Ground.data }, { on := 31, ground := Ground.data }], guard := none }
def qo33 : Oper := { dst := some 28, op := Op.build 111 #[(0, Operand.const (Value.int IntKind.i64 4)), (1, Operand.const (Value.bool true))], type := 111, pos := "orders.go:230", after := #[], guard := none }
def qo34 : Oper := { dst := some 29, op := Op.call { callee := Callee.value (Operand.func 92), args := #[Operand.func 115, Operand.func 94, Operand.func 95], argTypes := #[153, 154, 155] }, type := 81, pos := "orders.go:248", after := #[{ on := 30, ground := Ground.chain }], guard := none }
def qo35 : Oper := { dst := some 30, op := Op.build 109 #[(4, Operand.tmp 29)], type := 109, pos := "orders.go:230", after := #[{ on := 34, ground := Ground.data }], guard := none }
def qo36 : Oper := { dst := none, op := Op.insert 107 (Operand.tmp 1) (Operand.tmp 28) (Operand.tmp 30), type := 0, pos := "orders.go:230", after := #[{ on := 0, ground := Ground.data }, { on := 33, ground := Ground.data }, { on := 35, ground := Ground.data }], guard := none }
def qo37 : Oper := { dst := some 31, op := Op.build 111 #[(0, Operand.const (Value.int IntKind.i64 5)), (1, Operand.const (Value.bool false))], type := 111, pos := "orders.go:230", after := #[], guard := none }
def qo38 : Oper := { dst := some 32, op := Op.build 109 #[(0, Operand.func 84), (4, Operand.func 116)], type := 109, pos := "orders.go:230", after := #[], guard := none }
def qo39 : Oper := { dst := none, op := Op.insert 107 (Operand.tmp 1) (Operand.tmp 31) (Operand.tmp 32), type := 0, pos := "orders.go:230", after := #[{ on := 0, ground := Ground.data }, { on := 37, ground := Ground.data }, { on := 38, ground := Ground.data }], guard := none }
def qo40 : Oper := { dst := some 33, op := Op.build 111 #[(0, Operand.const (Value.int IntKind.i64 5)), (1, Operand.const (Value.bool true))], type := 111, pos := "orders.go:230", after := #[], guard := none }
def qo41 : Oper := { dst := some 34, op := Op.call { callee := Callee.value (Operand.func 92), args := #[Operand.func 93, Operand.func 118, Operand.func 95], argTypes := #[153, 154, 155] }, type := 81, pos := "orders.go:251", after := #[{ on := 34, ground := Ground.chain }], guard := none }
def qo42 : Oper := { dst := some 35, op := Op.call { callee := Callee.value (Operand.func 117), args := #[Operand.tmp 34], argTypes := #[81] }, type := 81, pos := "orders.go:251", after := #[{ on := 41, ground := Ground.data }, { on := 41, ground := Ground.chain }], guard := none }
def qo43 : Oper := { dst := some 36, op := Op.call { callee := Callee.value (Operand.func 96), args := #[Operand.func 97, Operand.func 118, Operand.func 90, Operand.func 95], argTypes := #[157, 154, 151, 155] }, type := 81, pos := "orders.go:252", after := #[{ on := 42, ground := Ground.chain }], guard := none }
def qo44 : Oper := { dst := some 37, op := Op.call { callee := Callee.value (Operand.func 117), args := #[Operand.tmp 36], argTypes := #[81] }, type := 81, pos := "orders.go:252", after := #[{ on := 43, ground := Ground.data }, { on := 43, ground := Ground.chain }], guard := none }
def qo45 : Oper := { dst := some 38, op := Op.call { callee := Callee.value (Operand.func 120), args := #[Operand.func 121, Operand.func 122], argTypes := #[174, 175] }, type := 81, pos := "orders.go:254", after := #[{ on := 44, ground := Ground.chain }], guard := none }
def qo46 : Oper := { dst := some 39, op := Op.call { callee := Callee.value (Operand.func 123), args := #[Operand.func 124], argTypes := #[81] }, type := 81, pos := "orders.go:255", after := #[{ on := 45, ground := Ground.chain }], guard := none }
def qo47 : Oper := { dst := some 40, op := Op.call { callee := Callee.value (Operand.func 123), args := #[Operand.func 125], argTypes := #[81] }, type := 81, pos := "orders.go:256", after := #[{ on := 46, ground := Ground.chain }], guard := none }
def qo48 : Oper := { dst := some 41, op := Op.build 109 #[(1, Operand.tmp 35), (2, Operand.tmp 37), (3, Operand.func 119), (5, Operand.tmp 38), (6, Operand.tmp 39), (7, Operand.tmp 40)], type := 109, pos := "orders.go:230", after := #[{ on := 42, ground := Ground.data }, { on := 44, ground := Ground.data }, { on := 45, ground := Ground.data }, { on := 46, ground := Ground.data }, { on := 47, ground := Ground.data }], guard := none }
def qo49 : Oper := { dst := none, op := Op.insert 107 (Operand.tmp 1) (Operand.tmp 33) (Operand.tmp 41), type := 0, pos := "orders.go:230", after := #[{ on := 0, ground := Ground.data }, { on := 40, ground := Ground.data }, { on := 48, ground := Ground.data }], guard := none }
def qo50 : Oper := { dst := some 42, op := Op.build 111 #[(0, Operand.const (Value.int IntKind.i64 8)), (1, Operand.const (Value.bool false))], type := 111, pos := "orders.go:230", after := #[], guard := none }
def qo51 : Oper := { dst := some 43, op := Op.build 109 #[(0, Operand.func 84), (1, Operand.func 126), (2, Operand.func 127), (3, Operand.func 128)], type := 109, pos := "orders.go:230", after := #[], guard := none }
def qo52 : Oper := { dst := none, op := Op.insert 107 (Operand.tmp 1) (Operand.tmp 42) (Operand.tmp 43), type := 0, pos := "orders.go:230", after := #[{ on := 0, ground := Ground.data }, { on := 50, ground := Ground.data }, { on := 51, ground := Ground.data }], guard := none }
def qo53 : Oper := { dst := some 44, op := Op.build 111 #[(0, Operand.const (Value.int IntKind.i64 9)), (1, Operand.const (Value.bool false))], type := 111, pos := "orders.go:230", after := #[], guard := none }
def qo54 : Oper := { dst := some 45, op := Op.build 109 #[(0, Operand.func 84), (1, Operand.func 129)], type := 109, pos := "orders.go:230", after := #[], guard := none }
def qo55 : Oper := { dst := none, op := Op.insert 107 (Operand.tmp 1) (Operand.tmp 44) (Operand.tmp 45), type := 0, pos := "orders.go:230", after := #[{ on := 0, ground := Ground.data }, { on := 53, ground := Ground.data }, { on := 54, ground := Ground.data }], guard := none }
def qo56 : Oper := { dst := some 46, op := Op.build 111 #[(0, Operand.const (Value.int IntKind.i64 10)), (1, Operand.const (Value.bool false))], type := 111, pos := "orders.go:230", after := #[], guard := none }
def qo57 : Oper := { dst := some 47, op := Op.build 109 #[(0, Operand.func 84), (1, Operand.func 130)], type := 109, pos := "orders.go:230", after := #[], guard := none }
def qo58 : Oper := { dst := none, op := Op.insert 107 (Operand.tmp 1) (Operand.tmp 46) (Operand.tmp 47), type := 0, pos := "orders.go:230", after := #[{ on := 0, ground := Ground.data }, { on := 56, ground := Ground.data }, { on := 57, ground := Ground.data }], guard := none }
def qo59 : Oper := { dst := some 48, op := Op.move (Operand.tmp 1), type := 107, pos := "orders.go:230", after := #[{ on := 0, ground := Ground.data }, { on := 1, ground := Ground.data }, { on := 2, ground := Ground.data }, { on := 3, ground := Ground.data }, { on := 4, ground := Ground.data }, { on := 5, ground := Ground.data }, { on := 6, ground := Ground.data }, { on := 7, ground := Ground.data }, { on := 8, ground := Ground.data }, { on := 9, ground := Ground.data }, { on := 10, ground := Ground.data }, { on := 11, ground := Ground.data }, { on := 12, ground := Ground.data }, { on := 13, ground := Ground.data }, { on := 14, ground := Ground.data }, { on := 15, ground := Ground.data }, { on := 16, ground := Ground.data }, { on := 17, ground := Ground.data }, { on := 18, ground := Ground.data }, { on := 19, ground := Ground.data }, { on := 20, ground := Ground.data }, { on := 21, ground := Ground.data }, { on := 22, ground := Ground.data }, { on := 23, ground := Ground.data }, { on := 24, ground := Ground.data }, { on := 25, ground := Ground.data }, { on := 26, ground := Ground.data }, { on := 27, ground := Ground.data }, { on := 28, ground := Ground.data }, { on := 29, ground := Ground.data }, { on := 30, ground := Ground.data }, { on := 31, ground := Ground.data }, { on := 32, ground := Ground.data }, { on := 33, ground := Ground.data }, { on := 34, ground := Ground.data }, { on := 35, ground := Ground.data }, { on := 36, ground := Ground.data }, { on := 37, ground := Ground.data }, { on := 38, ground := Ground.data }, { on := 39, ground := Ground.data }, { on := 40, ground := Ground.data }, { on := 41, ground := Ground.data }, { on := 42, ground := Ground.data }, { on := 43, ground := Ground.data }, { on := 44, ground := Ground.data }, { on := 45, ground := Ground.data }, { on := 46, ground := Ground.data }, { on := 47, ground := Ground.data }, { on := 48, ground := Ground.data }, { on := 49, ground := Ground.data }, { on := 50, ground := Ground.data }, { on := 51, ground := Ground.data }, { on := 52, ground := Ground.data }, { on := 53, ground := Ground.data }, { on := 54, ground := Ground.data }, { on := 55, ground := Ground.data }, { on := 56, ground := Ground.data }, { on := 57, ground := Ground.data }, { on := 58, ground := Ground.data }], guard := none }
def qo60 : Oper := { dst := some 0, op := Op.assign (Operand.tmp 48), type := 107, pos := "orders.go:230", after := #[{ on := 59, ground := Ground.data }, { on := 47, ground := Ground.chain }, { on := 0, ground := Ground.phase }, { on := 1, ground := Ground.phase }, { on := 2, ground := Ground.phase }, { on := 3, ground := Ground.phase }, { on := 4, ground := Ground.phase }, { on := 5, ground := Ground.phase }, { on := 6, ground := Ground.phase }, { on := 7, ground := Ground.phase }, { on := 8, ground := Ground.phase }, { on := 9, ground := Ground.phase }, { on := 10, ground := Ground.phase }, { on := 11, ground := Ground.phase }, { on := 12, ground := Ground.phase }, { on := 13, ground := Ground.phase }, { on := 14, ground := Ground.phase }, { on := 15, ground := Ground.phase }, { on := 16, ground := Ground.phase }, { on := 17, ground := Ground.phase }, { on := 18, ground := Ground.phase }, { on := 19, ground := Ground.phase }, { on := 20, ground := Ground.phase }, { on := 21, ground := Ground.phase }, { on := 22, ground := Ground.phase }, { on := 23, ground := Ground.phase }, { on := 24, ground := Ground.phase }, { on := 25, ground := Ground.phase }, { on := 26, ground := Ground.phase }, { on := 27, ground := Ground.phase }, { on := 28, ground := Ground.phase }, { on := 29, ground := Ground.phase }, { on := 30, ground := Ground.phase }, { on := 31, ground := Ground.phase }, { on := 32, ground := Ground.phase }, { on := 33, ground := Ground.phase }, { on := 34, ground := Ground.phase }, { on := 35, ground := Ground.phase }, { on := 36, ground := Ground.phase }, { on := 37, ground := Ground.phase }, { on := 38, ground := Ground.phase }, { on := 39, ground := Ground.phase }, { on := 40, ground := Ground.phase }, { on := 41, ground := Ground.phase }, { on := 42, ground := Ground.phase }, { on := 43, ground := Ground.phase }, { on := 44, ground := Ground.phase }, { on := 45, ground := Ground.phase }, { on := 46, ground := Ground.phase }, { on := 47, ground := Ground.phase }, { on := 48, ground := Ground.phase }, { on := 49, ground := Ground.phase }, { on := 50, ground := Ground.phase }, { on := 51, ground := Ground.phase }, { on := 52, ground := Ground.phase }, { on := 53, ground := Ground.phase }, { on := 54, ground := Ground.phase }, { on := 55, ground := Ground.phase }, { on := 56, ground := Ground.phase }, { on := 57, ground := Ground.phase }, { on := 58, ground := Ground.phase }, { on := 59, ground := Ground.phase }], guard := none }
def qops : Array Oper := #[qo0, qo1, qo2, qo3, qo4, qo5, qo6, qo7, qo8, qo9, qo10, qo11, qo12, qo13, qo14, qo15, qo16, qo17, qo18, qo19, qo20, qo21, qo22, qo23, qo24, qo25, qo26, qo27, qo28, qo29, qo30, qo31, qo32, qo33, qo34, qo35, qo36, qo37, qo38, qo39, qo40, qo41, qo42, qo43, qo44, qo45, qo46, qo47, qo48, qo49, qo50, qo51, qo52, qo53, qo54, qo55, qo56, qo57, qo58, qo59, qo60]
def qd : List (Option Nat) := [some 1, some 2, some 3, none, some 4, some 5, some 6, some 7, none, some 8, some 9, some 10, some 11, none, some 12, some 13, some 14, some 15, none, some 16, some 17, some 18, none, some 19, some 20, some 21, some 22, some 23, some 24, some 25, some 26, some 27, none, some 28, some 29, some 30, none, some 31, some 32, none, some 33, some 34, some 35, some 36, some 37, some 38, some 39, some 40, some 41, none, some 42, some 43, none, some 44, some 45, none, some 46, some 47, none, some 48, some 0]
set_option maxRecDepth 8000 in
theorem qd_inj : ∀ i, i < 61 → ∀ j, j < 61 → qd[i]? ≠ some none → qd[i]? = qd[j]? → i = j := by decide +kernel
set_option maxRecDepth 8000 in
theorem qback : ∀ i o, qops[i]? = some o → ∀ e ∈ o.after, Region.binds .any e = true → e.on < i := by
  have h : ∀ i, i < 61 → ∀ e ∈ ((qops[i]?).map (·.after.toList)).getD [], Region.binds .any e = true → e.on < i := by decide +kernel
  intro i o ho e he hb
  have hi : i < 61 := (Array.getElem?_eq_some_iff.1 ho).1
  exact h i hi e (by rw [ho]; simpa using he) hb
/-- what each insert lays under which key -/
def qkey : Nat → Option (Int × Bool)
  | 3 => some (1, false)
  | 8 => some (2, false)
  | 13 => some (2, true)
  | 18 => some (3, false)
  | 22 => some (3, true)
  | 32 => some (4, false)
  | 36 => some (4, true)
  | 39 => some (5, false)
  | 49 => some (5, true)
  | 52 => some (8, false)
  | 55 => some (9, false)
  | 58 => some (10, false)
  | _ => none
set_option maxRecDepth 8000 in
theorem qkey_one : ∀ i, qkey i = some (1, false) → i = 3 := by
  intro i h
  unfold qkey at h
  split at h <;> first | rfl | (simp at h; done) | cases h
def qP (i : Nat) (v : Value) : Prop := match i with
  | 1 => v = kA 1 false
  | 2 => v = rowV
  | 4 => v = kA 2 false
  | 5 => isF v
  | 6 => isF v
  | 9 => v = kA 2 true
  | 10 => isF v
  | 11 => isF v
  | 14 => v = kA 3 false
  | 15 => isF v
  | 16 => isF v
  | 19 => v = kA 3 true
  | 20 => isF v
  | 23 => v = kA 4 false
  | 24 => isF v
  | 25 => isF v
  | 26 => isF v
  | 27 => isF v
  | 28 => isF v
  | 29 => isF v
  | 30 => isF v
  | 33 => v = kA 4 true
  | 34 => isF v
  | 37 => v = kA 5 false
  | 40 => v = kA 5 true
  | 41 => isF v
  | 42 => isF v
  | 43 => isF v
  | 44 => isF v
  | 45 => isF v
  | 46 => isF v
  | 47 => isF v
  | 50 => v = kA 8 false
  | 53 => v = kA 9 false
  | 56 => v = kA 10 false
  | _ => True
structure RowsOf (listed : Array Bool) (es : Array MapEntry) : Prop where
  all : ∀ e ∈ es.toList, ∃ j k b, listed.getD j false = true ∧ qkey j = some (k, b) ∧ e.key = kA k b ∧ (j = 3 → e.val = rowV)
  one : listed.getD 3 false = true → ∃ e ∈ es.toList, e.key = kA 1 false
structure Jr (w0 : World) (listed : Array Bool) (a : Act) (w : World) : Prop where
  sz : listed.size = 61
  ta : a.tmps.size = 49
  df : a.defers = []
  bel : Below w0.heap.size w0 w
  sl : ∀ i, listed.getD i false = true → ∀ d, qd[i]? = some (some d) → ∃ v, a.tmps[d]? = some v ∧ qP i v
  mp : listed.getD 0 false = true → ∃ g es c, a.tmps[1]? = some (.map (some g)) ∧ w0.heap.size ≤ g ∧ w.heap[g]? = some (.map es c) ∧ RowsOf listed es
  e1 : listed.getD 59 false = true → a.tmps[48]? = a.tmps[1]?
  e2 : listed.getD 60 false = true → a.tmps[0]? = a.tmps[48]?
set_option maxRecDepth 8000 in
theorem getD_set (l : Array Bool) (i j : Nat) (h : (l.setIfInBounds i true).getD j false = true) : j = i ∨ l.getD j false = true := by
  by_cases e : j = i
  · exact .inl e
  · right
    rw [Array.getD_eq_getD_getElem?, Array.getElem?_setIfInBounds_ne (by omega)] at h
    rwa [Array.getD_eq_getD_getElem?]
set_option maxRecDepth 8000 in
theorem getD_le (l : Array Bool) (i j : Nat) (h : l.getD j false = true) : (l.setIfInBounds i true).getD j false = true := by
  by_cases e : i = j
  · subst e
    have hi : i < l.size := by
      rcases Nat.lt_or_ge i l.size with q | q
      · exact q
      · rw [Array.getD_eq_getD_getElem?, Array.getElem?_eq_none q] at h
        cases h
    rw [Array.getD_eq_getD_getElem?, Array.getElem?_setIfInBounds_self_of_lt hi]
    rfl
  · rw [Array.getD_eq_getD_getElem?, Array.getElem?_setIfInBounds_ne e, ← Array.getD_eq_getD_getElem?]
    exact h
theorem RowsOf.list {listed : Array Bool} {es : Array MapEntry} (h : RowsOf listed es) {i : Nat} (hi : i ≠ 3) : RowsOf (listed.setIfInBounds i true) es :=
  ⟨fun e he => by
    obtain ⟨j, k, b, h1, h2⟩ := h.all e he
    exact ⟨j, k, b, getD_le _ _ _ h1, h2⟩, fun hl => by
    rcases getD_set _ _ _ hl with e | e
    · exact absurd e.symm hi
    · exact h.one e⟩
set_option maxRecDepth 8000 in
theorem put_get {a : Act} {d : Nat} {v : Value} (hd : d < a.tmps.size) : (a.put (some d) v).tmps[d]? = some v := by
  show (a.tmps.setIfInBounds d v)[d]? = some v
  exact Array.getElem?_setIfInBounds_self_of_lt hd
set_option maxRecDepth 8000 in
theorem put_other {a : Act} {d d' : Nat} {v : Value} (h : d ≠ d') : (a.put (some d) v).tmps[d']? = a.tmps[d']? := by
  show (a.tmps.setIfInBounds d v)[d']? = a.tmps[d']?
  exact Array.getElem?_setIfInBounds_ne h
set_option maxRecDepth 8000 in
theorem eval_tmp {a : Act} {d : Nat} {v : Value} (h : a.tmps[d]? = some v) : a.eval (.tmp d) = v := by
  simp [Act.eval, h]
variable {w0 w w' : World} {listed : Array Bool} {a : Act}
set_option maxRecDepth 8000 in
/-- an operation that yields -/
theorem Jr.put (h : Jr w0 listed a w) {i d : Nat} {v : Value} (hi : i < 59) (h0 : i ≠ 0) (hF : i ≠ 3) (hd : qd[i]? = some (some d)) (hd49 : d < 49) (hP : qP i v) (hb : Below w.heap.size w w') : Jr w0 (listed.setIfInBounds i true) (a.put (some d) v) w' where
  sz := by rw [Array.size_setIfInBounds]; exact h.sz
  ta := by show (a.tmps.setIfInBounds d v).size = 49; rw [Array.size_setIfInBounds]; exact h.ta
  df := h.df
  bel := h.bel.trans (hb.mono h.bel.size)
  sl := fun j hj d' hd' => by
    by_cases e : j = i
    · subst e
      rw [hd] at hd'
      injection hd' with hd'
      injection hd' with hd'
      subst hd'
      exact ⟨v, put_get (by rw [h.ta]; exact hd49), hP⟩
    · obtain ⟨u, hu, hp⟩ := h.sl j ((getD_set _ _ _ hj).resolve_left e) d' hd'
      refine ⟨u, ?_, hp⟩
      have hne : d ≠ d' := fun q => e (qd_inj j (by have := (List.getElem?_eq_some_iff.1 hd').1; exact this) i (by omega) (by rw [hd']; simp) (by rw [hd, hd', q]))
      rw [put_other hne, hu]
  mp := fun hj => by
    obtain ⟨g, es, c, h1, h2, h3, h4⟩ := h.mp ((getD_set _ _ _ hj).resolve_left (Ne.symm h0))
    refine ⟨g, es, c, ?_, h2, (hb.block g (Array.getElem?_eq_some_iff.1 h3).1).trans h3, h4.list hF⟩
    have hne : d ≠ 1 := fun q => h0 (qd_inj i (by omega) 0 (by omega) (by rw [hd]; simp) (by rw [hd, q]; rfl))
    rw [put_other hne, h1]
  e1 := fun hj => by
    have h48 : d ≠ 48 := fun q => absurd (qd_inj i (by omega) 59 (by omega) (by rw [hd]; simp) (by rw [hd, q]; rfl)) (by omega)
    have h1 : d ≠ 1 := fun q => h0 (qd_inj i (by omega) 0 (by omega) (by rw [hd]; simp) (by rw [hd, q]; rfl))
    rw [put_other h48, put_other h1]
    exact h.e1 ((getD_set _ _ _ hj).resolve_left (by omega))
  e2 := fun hj => by
    have h48 : d ≠ 48 := fun q => absurd (qd_inj i (by omega) 59 (by omega) (by rw [hd]; simp) (by rw [hd, q]; rfl)) (by omega)
    have h1 : d ≠ 0 := fun q => absurd (qd_inj i (by omega) 60 (by omega) (by rw [hd]; simp) (by rw [hd, q]; rfl)) (by omega)
    rw [put_other h48, put_other h1]
    exact h.e2 ((getD_set _ _ _ hj).resolve_left (by omega))
set_option maxRecDepth 8000 in
theorem wpOp_val {ops : Array Oper} {Q : Exit → Act → World → Prop} {K : Act → World → Prop} {i : Nat} {o : Oper} {v : Value} (hi : ops[i]? = some o) (hg : o.guard = none) (hr : (execOp a.eval o).run Tryz.prog w = .ok (.value v) w') (h : K (a.put o.dst v) w') : wpOp Tryz.prog ops Q i K a w := by
  unfold wpOp
  rw [hi]
  have hw : Region.wanted o (yielded ops a.tmps) = true := by unfold Region.wanted; rw [hg]
  show if Region.wanted o (yielded ops a.tmps) = true then _ else _
  rw [if_pos hw]
  left
  unfold Oper.wp
  rw [hr]
  exact h
set_option maxRecDepth 8000 in
theorem wpOp_skip {ops : Array Oper} {Q : Exit → Act → World → Prop} {K : Act → World → Prop} {i : Nat} {o : Oper} (hi : ops[i]? = some o) (hg : o.guard = none) (hr : (execOp a.eval o).run Tryz.prog w = .ok .skip w') (h : K (a.put o.dst undef) w') : wpOp Tryz.prog ops Q i K a w := by
  unfold wpOp
  rw [hi]
  have hw : Region.wanted o (yielded ops a.tmps) = true := by unfold Region.wanted; rw [hg]
  show if Region.wanted o (yielded ops a.tmps) = true then _ else _
  rw [if_pos hw]
  left
  unfold Oper.wp
  rw [hr]
  exact h
set_option maxRecDepth 8000 in
theorem wpOp_call {ops : Array Oper} {Q : Exit → Act → World → Prop} {K : Act → World → Prop} {i : Nat} {o : Oper} {f : FuncId} {args : Array Value} (hi : ops[i]? = some o) (hg : o.guard = none) (hr : (execOp a.eval o).run Tryz.prog w = .ok (.enter f args) w) (hc : Calls Tryz.prog f args w fun e w' => ∃ v, e = .returned v ∧ isF v ∧ Below w.heap.size w w') (h : ∀ v w', isF v → Below w.heap.size w w' → K (a.put o.dst v) w') : wpOp Tryz.prog ops Q i K a w := by
  unfold wpOp
  rw [hi]
  have hw : Region.wanted o (yielded ops a.tmps) = true := by unfold Region.wanted; rw [hg]
  show if Region.wanted o (yielded ops a.tmps) = true then _ else _
  rw [if_pos hw]
  left
  unfold Oper.wp
  rw [hr, Oper.upon_enter]
  refine hc.mono ?_
  rintro e w' ⟨v, rfl, hv, hb⟩
  exact h v w' hv hb
set_option maxRecDepth 8000 in
theorem cq86 (w : World) {x0 : Value} (h0 : isF x0) : Calls Tryz.prog 86 #[x0] w fun e w' => ∃ v, e = .returned v ∧ isF v ∧ Below w.heap.size w w' := by
  obtain ⟨f0, y0, z0, rfl⟩ := h0
  have hmf : ∀ (fn : Fn) (first cap : Array Value) (w : World), (Instr.makeFunc fn first cap).run Tryz.prog w = .ok (.func fn first cap) w := fun _ _ _ _ => rfl
  have HB := Lib.hid (show Below w.heap.size w (w.alloc (.cells #[.func f0 y0 z0] 148)) from ((Below.refl w.heap.size w).alloc (by simp <;> omega) (.cells #[.func f0 y0 z0] 148)))
  go_enter Tryz.func86, Tryz.ntmps86
  go_wp2
  go_ret
  exact ⟨_, rfl, ⟨_, _, _, rfl⟩, HB.out⟩
set_option maxRecDepth 8000 in
theorem cq88 (w : World) {x0 x1 : Value} (h0 : isF x0) (h1 : isF x1) : Calls Tryz.prog 88 #[x0, x1] w fun e w' => ∃ v, e = .returned v ∧ isF v ∧ Below w.heap.size w w' := by
  obtain ⟨f0, y0, z0, rfl⟩ := h0
  obtain ⟨f1, y1, z1, rfl⟩ := h1
  have hmf : ∀ (fn : Fn) (first cap : Array Value) (w : World), (Instr.makeFunc fn first cap).run Tryz.prog w = .ok (.func fn first cap) w := fun _ _ _ _ => rfl
  have HB := Lib.hid (show Below w.heap.size w ((w.alloc (.cells #[.func f0 y0 z0] 150)).alloc (.cells #[.func f1 y1 z1] 151)) from (((Below.refl w.heap.size w).alloc (by simp <;> omega) (.cells #[.func f0 y0 z0] 150)).alloc (by simp <;> omega) (.cells #[.func f1 y1 z1] 151)))
  go_enter Tryz.func88, Tryz.ntmps88
  go_wp2
  go_ret
  exact ⟨_, rfl, ⟨_, _, _, rfl⟩, HB.out⟩
set_option maxRecDepth 8000 in
theorem cq92 (w : World) {x0 x1 x2 : Value} (h0 : isF x0) (h1 : isF x1) (h2 : isF x2) : Calls Tryz.prog 92 #[x0, x1, x2] w fun e w' => ∃ v, e = .returned v ∧ isF v ∧ Below w.heap.size w w' := by
  obtain ⟨f0, y0, z0, rfl⟩ := h0
  obtain ⟨f1, y1, z1, rfl⟩ := h1
  obtain ⟨f2, y2, z2, rfl⟩ := h2
  have hmf : ∀ (fn : Fn) (first cap : Array Value) (w : World), (Instr.makeFunc fn first cap).run Tryz.prog w = .ok (.func fn first cap) w := fun _ _ _ _ => rfl
  have HB := Lib.hid (show Below w.heap.size w (((w.alloc (.cells #[.func f0 y0 z0] 153)).alloc (.cells #[.func f1 y1 z1] 154)).alloc (.cells #[.func f2 y2 z2] 155)) from ((((Below.refl w.heap.size w).alloc (by simp <;> omega) (.cells #[.func f0 y0 z0] 153)).alloc (by simp <;> omega) (.cells #[.func f1 y1 z1] 154)).alloc (by simp <;> omega) (.cells #[.func f2 y2 z2] 155)))
  go_enter Tryz.func92, Tryz.ntmps92
  go_wp2
  go_ret
  exact ⟨_, rfl, ⟨_, _, _, rfl⟩, HB.out⟩
set_option maxRecDepth 8000 in
theorem cq96 (w : World) {x0 x1 x2 x3 : Value} (h0 : isF x0) (h1 : isF x1) (h2 : isF x2) (h3 : isF x3) : Calls Tryz.prog 96 #[x0, x1, x2, x3] w fun e w' => ∃ v, e = .returned v ∧ isF v ∧ Below w.heap.size w w' := by
  obtain ⟨f0, y0, z0, rfl⟩ := h0
  obtain ⟨f1, y1, z1, rfl⟩ := h1
  obtain ⟨f2, y2, z2, rfl⟩ := h2
  obtain ⟨f3, y3, z3, rfl⟩ := h3
  have hmf : ∀ (fn : Fn) (first cap : Array Value) (w : World), (Instr.makeFunc fn first cap).run Tryz.prog w = .ok (.func fn first cap) w := fun _ _ _ _ => rfl
  have HB := Lib.hid (show Below w.heap.size w ((((w.alloc (.cells #[.func f0 y0 z0] 157)).alloc (.cells #[.func f1 y1 z1] 154)).alloc (.cells #[.func f2 y2 z2] 151)).alloc (.cells #[.func f3 y3 z3] 155)) from (((((Below.refl w.heap.size w).alloc (by simp <;> omega) (.cells #[.func f0 y0 z0] 157)).alloc (by simp <;> omega) (.cells #[.func f1 y1 z1] 154)).alloc (by simp <;> omega) (.cells #[.func f2 y2 z2] 151)).alloc (by simp <;> omega) (.cells #[.func f3 y3 z3] 155)))
  go_enter Tryz.func96, Tryz.ntmps96
  go_wp2
  go_ret
  exact ⟨_, rfl, ⟨_, _, _, rfl⟩, HB.out⟩
set_option maxRecDepth 8000 in
theorem cq101 (w : World) {x0 x1 x2 : Value} (h0 : isF x0) (h1 : isF x1) (h2 : isF x2) : Calls Tryz.prog 101 #[x0, x1, x2] w fun e w' => ∃ v, e = .returned v ∧ isF v ∧ Below w.heap.size w w' := by
  obtain ⟨f0, y0, z0, rfl⟩ := h0
  obtain ⟨f1, y1, z1, rfl⟩ := h1
  obtain ⟨f2, y2, z2, rfl⟩ := h2
  have hmf : ∀ (fn : Fn) (first cap : Array Value) (w : World), (Instr.makeFunc fn first cap).run Tryz.prog w = .ok (.func fn first cap) w := fun _ _ _ _ => rfl
  have HB := Lib.hid (show Below w.heap.size w (((w.alloc (.cells #[.func f0 y0 z0] 159)).alloc (.cells #[.func f1 y1 z1] 154)).alloc (.cells #[.func f2 y2 z2] 160)) from ((((Below.refl w.heap.size w).alloc (by simp <;> omega) (.cells #[.func f0 y0 z0] 159)).alloc (by simp <;> omega) (.cells #[.func f1 y1 z1] 154)).alloc (by simp <;> omega) (.cells #[.func f2 y2 z2] 160)))
  go_enter Tryz.func101, Tryz.ntmps101
  go_wp2
  go_ret
  exact ⟨_, rfl, ⟨_, _, _, rfl⟩, HB.out⟩
set_option maxRecDepth 8000 in
theorem cq105 (w : World) {x0 x1 x2 : Value} (h0 : isF x0) (h1 : isF x1) (h2 : isF x2) : Calls Tryz.prog 105 #[x0, x1, x2] w fun e w' => ∃ v, e = .returned v ∧ isF v ∧ Below w.heap.size w w' := by
  obtain ⟨f0, y0, z0, rfl⟩ := h0
  obtain ⟨f1, y1, z1, rfl⟩ := h1
  obtain ⟨f2, y2, z2, rfl⟩ := h2
  have hmf : ∀ (fn : Fn) (first cap : Array Value) (w : World), (Instr.makeFunc fn first cap).run Tryz.prog w = .ok (.func fn first cap) w := fun _ _ _ _ => rfl
  have HB := Lib.hid (show Below w.heap.size w (((w.alloc (.cells #[.func f0 y0 z0] 162)).alloc (.cells #[.func f1 y1 z1] 163)).alloc (.cells #[.func f2 y2 z2] 155)) from ((((Below.refl w.heap.size w).alloc (by simp <;> omega) (.cells #[.func f0 y0 z0] 162)).alloc (by simp <;> omega) (.cells #[.func f1 y1 z1] 163)).alloc (by simp <;> omega) (.cells #[.func f2 y2 z2] 155)))
  go_enter Tryz.func105, Tryz.ntmps105
  go_wp2
  go_ret
  exact ⟨_, rfl, ⟨_, _, _, rfl⟩, HB.out⟩
set_option maxRecDepth 8000 in
theorem cq107 (w : World) (z : Int) : Calls Tryz.prog 107 #[.int .i64 z] w fun e w' => ∃ v, e = .returned v ∧ isF v ∧ Below w.heap.size w w' := by
  have hmf : ∀ (fn : Fn) (first cap : Array Value) (w : World), (Instr.makeFunc fn first cap).run Tryz.prog w = .ok (.func fn first cap) w := fun _ _ _ _ => rfl
  have HB := Lib.hid (show Below w.heap.size w (w.alloc (.cells #[.int .i64 z] 45)) from ((Below.refl w.heap.size w).alloc (by simp <;> omega) (.cells #[.int .i64 z] 45)))
  go_enter Tryz.func107, Tryz.ntmps107
  go_wp2
  go_ret
  exact ⟨_, rfl, ⟨_, _, _, rfl⟩, HB.out⟩
set_option maxRecDepth 8000 in
theorem cq109 (w : World) {x0 x1 x2 : Value} (h0 : isF x0) (h1 : isF x1) (h2 : isF x2) : Calls Tryz.prog 109 #[x0, x1, x2] w fun e w' => ∃ v, e = .returned v ∧ isF v ∧ Below w.heap.size w w' := by
  obtain ⟨f0, y0, z0, rfl⟩ := h0
  obtain ⟨f1, y1, z1, rfl⟩ := h1
  obtain ⟨f2, y2, z2, rfl⟩ := h2
  have hmf : ∀ (fn : Fn) (first cap : Array Value) (w : World), (Instr.makeFunc fn first cap).run Tryz.prog w = .ok (.func fn first cap) w := fun _ _ _ _ => rfl
  have HB := Lib.hid (show Below w.heap.size w (((w.alloc (.cells #[.func f0 y0 z0] 166)).alloc (.cells #[.func f1 y1 z1] 151)).alloc (.cells #[.func f2 y2 z2] 167)) from ((((Below.refl w.heap.size w).alloc (by simp <;> omega) (.cells #[.func f0 y0 z0] 166)).alloc (by simp <;> omega) (.cells #[.func f1 y1 z1] 151)).alloc (by simp <;> omega) (.cells #[.func f2 y2 z2] 167)))
  go_enter Tryz.func109, Tryz.ntmps109
  go_wp2
  go_ret
  exact ⟨_, rfl, ⟨_, _, _, rfl⟩, HB.out⟩
set_option maxRecDepth 8000 in
theorem cq112 (w : World) {x0 x1 : Value} (h0 : isF x0) (h1 : isF x1) : Calls Tryz.prog 112 #[x0, x1] w fun e w' => ∃ v, e = .returned v ∧ isF v ∧ Below w.heap.size w w' := by
  obtain ⟨f0, y0, z0, rfl⟩ := h0
  obtain ⟨f1, y1, z1, rfl⟩ := h1
  have hmf : ∀ (fn : Fn) (first cap : Array Value) (w : World), (Instr.makeFunc fn first cap).run Tryz.prog w = .ok (.func fn first cap) w := fun _ _ _ _ => rfl
  have HB := Lib.hid (show Below w.heap.size w ((w.alloc (.cells #[.func f0 y0 z0] 169)).alloc (.cells #[.func f1 y1 z1] 170)) from (((Below.refl w.heap.size w).alloc (by simp <;> omega) (.cells #[.func f0 y0 z0] 169)).alloc (by simp <;> omega) (.cells #[.func f1 y1 z1] 170)))
  go_enter Tryz.func112, Tryz.ntmps112
  go_wp2
  go_ret
  exact ⟨_, rfl, ⟨_, _, _, rfl⟩, HB.out⟩
set_option maxRecDepth 8000 in
theorem cq117 (w : World) {x0 : Value} (h0 : isF x0) : Calls Tryz.prog 117 #[x0] w fun e w' => ∃ v, e = .returned v ∧ isF v ∧ Below w.heap.size w w' := by
  obtain ⟨f0, y0, z0, rfl⟩ := h0
  have hmf : ∀ (fn : Fn) (first cap : Array Value) (w : World), (Instr.makeFunc fn first cap).run Tryz.prog w = .ok (.func fn first cap) w := fun _ _ _ _ => rfl
  have HB := Lib.hid (show Below w.heap.size w (w.alloc (.cells #[.func f0 y0 z0] 81)) from ((Below.refl w.heap.size w).alloc (by simp <;> omega) (.cells #[.func f0 y0 z0] 81)))
  go_enter Tryz.func117, Tryz.ntmps117
  go_wp2
  go_ret
  exact ⟨_, rfl, ⟨_, _, _, rfl⟩, HB.out⟩
set_option maxRecDepth 8000 in
theorem cq120 (w : World) {x0 x1 : Value} (h0 : isF x0) (h1 : isF x1) : Calls Tryz.prog 120 #[x0, x1] w fun e w' => ∃ v, e = .returned v ∧ isF v ∧ Below w.heap.size w w' := by
  obtain ⟨f0, y0, z0, rfl⟩ := h0
  obtain ⟨f1, y1, z1, rfl⟩ := h1
  have hmf : ∀ (fn : Fn) (first cap : Array Value) (w : World), (Instr.makeFunc fn first cap).run Tryz.prog w = .ok (.func fn first cap) w := fun _ _ _ _ => rfl
  have HB := Lib.hid (show Below w.heap.size w ((w.alloc (.cells #[.func f0 y0 z0] 174)).alloc (.cells #[.func f1 y1 z1] 175)) from (((Below.refl w.heap.size w).alloc (by simp <;> omega) (.cells #[.func f0 y0 z0] 174)).alloc (by simp <;> omega) (.cells #[.func f1 y1 z1] 175)))
  go_enter Tryz.func120, Tryz.ntmps120
  go_wp2
  go_ret
  exact ⟨_, rfl, ⟨_, _, _, rfl⟩, HB.out⟩
set_option maxRecDepth 8000 in
theorem cq123 (w : World) {x0 : Value} (h0 : isF x0) : Calls Tryz.prog 123 #[x0] w fun e w' => ∃ v, e = .returned v ∧ isF v ∧ Below w.heap.size w w' := by
  obtain ⟨f0, y0, z0, rfl⟩ := h0
  have hmf : ∀ (fn : Fn) (first cap : Array Value) (w : World), (Instr.makeFunc fn first cap).run Tryz.prog w = .ok (.func fn first cap) w := fun _ _ _ _ => rfl
  have HB := Lib.hid (show Below w.heap.size w (w.alloc (.cells #[.func f0 y0 z0] 81)) from ((Below.refl w.heap.size w).alloc (by simp <;> omega) (.cells #[.func f0 y0 z0] 81)))
  go_enter Tryz.func123, Tryz.ntmps123
  go_wp2_with (go_at_call 117; refine (cq117 _ ⟨_, _, _, rfl⟩).mono ?_; rintro e w1 ⟨v, rfl, hv, b1⟩; have HV := Lib.hid hv; have HB1 := Lib.hid (HB.out.trans (b1.mono HB.out.size)); clear b1 hv)
  go_ret
  exact ⟨_, rfl, HV.out, HB1.out⟩
set_option maxRecDepth 8000 in
theorem fieldsA : (Tryz.prog.fieldsOf 111).toList.map (fun f => (f.name == "_", f.type, f.offset)) = [(false, 30, 0), (false, 4, 1)] := by kernel_rfl
set_option maxRecDepth 8000 in
theorem eq_hd {d : Nat} {xs ys : Array Value} {t : TypeId} {i : Nat} {x y : Value} {c : Bool} (w : World) (f : Field) (fs : List Field) (hn : (f.name == "_") = false) (ht : f.type = t) (ho : f.offset = i) (hp : (part t xs i).run Tryz.prog w = .ok x w) (hq : (part t ys i).run Tryz.prog w = .ok y w) (he : (Op.equalIn (d + 1) t x y).run Tryz.prog w = .ok c w) (b' : Bool) (hr : (Op.eqFields (d + 1) xs ys fs).run Tryz.prog w = .ok b' w) : (Op.eqFields (d + 1) xs ys (f :: fs)).run Tryz.prog w = .ok (c && b') w := by
  have hn' : f.name ≠ "_" := by simpa using hn
  subst ht ho
  simp only [Op.eqFields, hn', ne_eq, not_false_eq_true, if_true, Sem.run_bind, hp, hq, he, Result.andThen_ok]
  cases c <;> simp [hr]
set_option maxRecDepth 8000 in
theorem kA_eq (w : World) (k k' : Int) (b b' : Bool) : (Op.equal 111 (kA k b) (kA k' b')).run Tryz.prog w = .ok ((k == k') && ((b == b') && true)) w := by
  have hf := fieldsA
  unfold Op.equal kA
  rw [show Op.maxDepth = 9999 + 1 from rfl, run_equalIn_agg w 9999 111 _ _ (by kernel_rfl) (by kernel_rfl)]
  generalize (Tryz.prog.fieldsOf 111).toList = fs at hf ⊢
  have hl : fs.length = 2 := by have := congrArg List.length hf; simpa using this
  match fs, hl, hf with
  | [f0, f1], _, hf =>
    simp only [List.map_cons, List.map_nil, List.cons.injEq, Prod.mk.injEq, and_true] at hf
    obtain ⟨⟨n0, t0, o0⟩, ⟨n1, t1, o1⟩⟩ := hf
    exact eq_hd w f0 _ n0 t0 o0 (run_part_plain w (by kernel_rfl) rfl) (run_part_plain w (by kernel_rfl) rfl) (run_equalIn_int w 9998 30 .i64 .i64 k k' Tryz.underlying30) _ <|
      eq_hd w f1 _ n1 t1 o1 (run_part_plain w (by kernel_rfl) rfl) (run_part_plain w (by kernel_rfl) rfl) (run_equalIn_bool' w 9998 4 b b' Tryz.underlying4) _ (by simp [Op.eqFields])
set_option maxRecDepth 8000 in
theorem kA_chk (w : World) (e : Bool) (k : Int) (b : Bool) : (Instr.checkKey e 10000 111 (kA k b)).run Tryz.prog w = .ok () w := by kernel_rfl
set_option maxRecDepth 8000 in
theorem find_none (w : World) (k : Int) (b : Bool) : ∀ (es : List MapEntry) (i : Nat), (∀ e ∈ es, ∃ k' b', e.key = kA k' b' ∧ ¬ (k = k' ∧ b = b')) → (Instr.findAsking 111 (kA k b) es i).run Tryz.prog w = .ok none w
  | [], _, _ => rfl
  | e :: es, i, h => by
    obtain ⟨k', b', he, hne⟩ := h e (by simp)
    have hq := kA_eq w k k' b b'
    have hf : ((k == k') && ((b == b') && true)) = false := by
      rw [Bool.eq_false_iff]
      intro q
      simp at q
      exact hne q
    rw [hf, ← he] at hq
    simp only [Instr.findAsking, Sem.run_bind, hq, Result.andThen_ok]
    exact find_none w k b es (i + 1) fun x hx => h x (by simp [hx])
set_option maxRecDepth 8000 in
theorem find_some (w : World) (k : Int) (b : Bool) : ∀ (es : List MapEntry) (i : Nat), (∀ e ∈ es, ∃ k' b', e.key = kA k' b') → (∃ e ∈ es, e.key = kA k b) → ∃ j e, e ∈ es ∧ e.key = kA k b ∧ (Instr.findAsking 111 (kA k b) es i).run Tryz.prog w = .ok (some (j, e.val)) w
  | [], _, _, h => by obtain ⟨e, he, _⟩ := h; cases he
  | e :: es, i, h, hx => by
    obtain ⟨k', b', he⟩ := h e (by simp)
    have hq := kA_eq w k k' b b'
    by_cases hk : k = k' ∧ b = b'
    · obtain ⟨rfl, rfl⟩ := hk
      have hf : ((k == k) && ((b == b) && true)) = true := by simp
      have hq' : (Op.equal 111 (kA k b) e.key).run Tryz.prog w = .ok true w := by rw [he, hq, hf]
      refine ⟨i, e, by simp, he, ?_⟩
      simp only [Instr.findAsking, Sem.run_bind, hq', Result.andThen_ok]
      rfl
    · have hf : ((k == k') && ((b == b') && true)) = false := by
        rw [Bool.eq_false_iff]
        intro q
        simp at q
        exact hk q
      rw [hf, ← he] at hq
      obtain ⟨j, x, h1, h2, h3⟩ := find_some w k b es (i + 1) (fun x hx => h x (by simp [hx])) (by
        obtain ⟨x, h1, h2⟩ := hx
        rcases List.mem_cons.1 h1 with rfl | h1
        · rw [he] at h2
          injection h2 with h2
          simp at h2
          exact absurd ⟨h2.1.symm, h2.2.symm⟩ hk
        · exact ⟨x, h1, h2⟩)
      refine ⟨j, x, by simp [h1], h2, ?_⟩
      simp only [Instr.findAsking, Sem.run_bind, hq, Result.andThen_ok]
      exact h3
set_option maxRecDepth 8000 in
theorem map_put (w : World) (g : Nat) (es : Array MapEntry) (c : Nat) (k : Int) (b : Bool) (v : Value) (hg : w.heap[g]? = some (.map es c)) (hno : ∀ e ∈ es.toList, ∃ k' b', e.key = kA k' b' ∧ ¬ (k = k' ∧ b = b')) : (Instr.mapUpdate 107 (.map (some g)) (kA k b) v).run Tryz.prog w = .ok () { w with heap := w.heap.setIfInBounds g (.map (es.push { key := kA k b, val := v, born := c }) (c + 1)) } := by
  have hf := find_none w k b es.toList 0 hno
  have hfk : (Instr.findKey 111 (kA k b) es.toList).run Tryz.prog w = .ok none w := by rw [run_findKey_eq w (by kernel_rfl)]; exact hf
  have hc := kA_chk w false k b
  simp [Instr.mapUpdate, run_underlying Tryz.underlying107, Go.MapKept.run_getObj_map hg, hc, hfk, Go.MapKept.run_setObj_map _ hg, Result.andThen]
set_option maxRecDepth 8000 in
theorem map_look (w : World) (g : Nat) (es : Array MapEntry) (c : Nat) (hg : w.heap[g]? = some (.map es c)) {listed : Array Bool} (hr : RowsOf listed es) (h1 : listed.getD 3 false = true) : (Instr.lookup 107 (.map (some g)) (kA 1 false) false).run Tryz.prog w = .ok rowV w := by
  obtain ⟨j, e, hm, hk, hf⟩ := find_some w 1 false es.toList 0 (fun e he => by obtain ⟨_, k, b, _, _, q, _⟩ := hr.all e he; exact ⟨k, b, q⟩) (hr.one h1)
  have hv : e.val = rowV := by
    obtain ⟨i, k, b, _, hq, hke, hval⟩ := hr.all e hm
    rw [hk] at hke
    refine hval ?_
    injection hke with hke
    simp at hke
    obtain ⟨rfl, rfl⟩ := hke
    exact qkey_one i hq
  have hfk : (Instr.findKey 111 (kA 1 false) es.toList).run Tryz.prog w = .ok (some (j, e.val)) w := by rw [run_findKey_eq w (by kernel_rfl)]; exact hf
  have hc := fun x => kA_chk w x 1 false
  simp [Instr.lookup, run_underlying Tryz.underlying107, Go.MapKept.run_getObj_map hg, hc, hfk, hv, Result.andThen]
/-- what is listed waits for nothing -/
def Cl (listed : Array Bool) : Prop := ∀ i o, listed.getD i false = true → qops[i]? = some o → ∀ e ∈ o.after, Region.binds .any e = true → listed.getD e.on false = true
set_option maxRecDepth 8000 in
theorem dep_of {o : Oper} {j : Nat} {listed : Array Bool} {b : Bool} (hb : b = true) (hx : (o.after.toList.any fun e => Region.binds .any e && e.on == j) = b) (hd : ∀ e ∈ o.after, Region.binds .any e = true → listed.getD e.on false = true) : listed.getD j false = true := by
  rw [hb, List.any_eq_true] at hx
  obtain ⟨e, he, hq⟩ := hx
  simp only [Bool.and_eq_true, beq_iff_eq] at hq
  rw [← hq.2]
  exact hd e (by simpa using he) hq.1
set_option maxRecDepth 8000 in
theorem ft {listed : Array Bool} {i : Nat} (h : listed.getD i true = false) (h' : listed.getD i false = true) : False := by
  rw [Array.getD_eq_getD_getElem?] at h h'
  cases hq : listed[i]? with
  | none => rw [hq] at h; cases h
  | some b =>
    rw [hq] at h h'
    simp at h h'
    rw [h] at h'
    cases h'
set_option maxRecDepth 8000 in
theorem qkey_inj0 : ∀ i, i < 61 → ∀ j, j < 61 → (qkey i).isSome = true → (qkey i == qkey j) = true → i = j := by decide +kernel
theorem qkey_inj (i : Nat) (hi : i < 61) (j : Nat) (hj : j < 61) {p : Int × Bool} (h1 : qkey i = some p) (h2 : qkey j = some p) : i = j := qkey_inj0 i hi j hj (by rw [h1]; rfl) (by rw [h1, h2]; simp)
set_option maxRecDepth 8000 in
theorem qkey_lt : ∀ i p, qkey i = some p → i < 59 := by
  intro i p h
  unfold qkey at h
  split at h <;> first | omega | cases h
set_option maxRecDepth 8000 in
theorem run_call_fn {ρ : Operand → Value} {o : Oper} {c : Call} {f : Operand} {m : FuncId} {args : Array Value} {w : World} (ho : o.op = .call c) (hc : c.callee = .value f) (hg : ρ f = .func (.func m) #[] #[]) (ha : c.args.map ρ = args) (hok : ∀ w, (callFunc m args).run Tryz.prog w = .ok (.enter m args) w) : (execOp ρ o).run Tryz.prog w = .ok (.enter m args) w := by
  unfold execOp
  simp only [ho]
  simp [resolve, hc, hg, ha, Deferred.ofValue, invoke, hok]
set_option maxRecDepth 8000 in
theorem run_ins {ρ : Operand → Value} {o : Oper} {m k x : Operand} {w : World} {g : Nat} {es : Array MapEntry} {c : Nat} {kk : Int} {b : Bool} {v : Value} (ho : o.op = .insert 107 m k x) (hm : ρ m = .map (some g)) (hk : ρ k = kA kk b) (hx : ρ x = v) (hg : w.heap[g]? = some (.map es c)) (hno : ∀ e ∈ es.toList, ∃ k' b', e.key = kA k' b' ∧ ¬ (kk = k' ∧ b = b')) : (execOp ρ o).run Tryz.prog w = .ok .skip { w with heap := w.heap.setIfInBounds g (.map (es.push { key := kA kk b, val := v, born := c }) (c + 1)) } := by
  unfold execOp
  simp only [ho, hm, hk, hx]
  simp [map_put w g es c kk b v hg hno, Result.andThen]
section
variable {w0 w : World} {listed : Array Bool} {a : Act}
set_option maxRecDepth 8000 in
theorem Jr.fresh (h : Jr w0 listed a w) {i : Nat} {k : Int} {b : Bool} (hi : listed.getD i true = false) (hq : qkey i = some (k, b)) {es : Array MapEntry} (h4 : RowsOf listed es) : ∀ e ∈ es.toList, ∃ k' b', e.key = kA k' b' ∧ ¬ (k = k' ∧ b = b') := by
  intro e he
  obtain ⟨j, k', b', h1, h2, h3, _⟩ := h4.all e he
  refine ⟨k', b', h3, fun q => ?_⟩
  obtain ⟨rfl, rfl⟩ := q
  have : i = j := qkey_inj i (by have := qkey_lt i _ hq; omega) j (by have := qkey_lt j _ h2; omega) hq h2
  subst this
  have hs : i < listed.size := by have := qkey_lt i _ hq; have := h.sz; omega
  rw [Array.getD_eq_getD_getElem?, Array.getElem?_eq_getElem hs] at hi h1
  simp at hi h1
  rw [hi] at h1
  cases h1
set_option maxRecDepth 8000 in
theorem Jr.ins (h : Jr w0 listed a w) {i : Nat} {k : Int} {b : Bool} {v : Value} (hq : qkey i = some (k, b)) (hv : i = 3 → v = rowV) (hF : i = 3 → k = 1 ∧ b = false) (hd : qd[i]? = some none) (h0 : i ≠ 0) {g c : Nat} {es : Array MapEntry} (h1 : a.tmps[1]? = some (.map (some g))) (h2 : w0.heap.size ≤ g) (h3 : w.heap[g]? = some (.map es c)) (h4 : RowsOf listed es) : Jr w0 (listed.setIfInBounds i true) (a.put none undef) { w with heap := w.heap.setIfInBounds g (.map (es.push { key := kA k b, val := v, born := c }) (c + 1)) } where
  sz := by rw [Array.size_setIfInBounds]; exact h.sz
  ta := h.ta
  df := h.df
  bel := ⟨h.bel.os, h.bel.tape, h.bel.output, by show _ ≤ (w.heap.setIfInBounds g _).size; rw [Array.size_setIfInBounds]; exact h.bel.size, fun j hj => by
    show (w.heap.setIfInBounds g _)[j]? = _
    rw [Array.getElem?_setIfInBounds_ne (by omega)]
    exact h.bel.block j hj⟩
  sl := fun j hj d hdj => by
    rcases getD_set _ _ _ hj with e | e
    · subst e
      rw [hd] at hdj
      cases hdj
    · exact h.sl j e d hdj
  mp := fun _ => ⟨g, _, _, h1, h2, by
      show (w.heap.setIfInBounds g _)[g]? = _
      exact Array.getElem?_setIfInBounds_self_of_lt (Array.getElem?_eq_some_iff.1 h3).1, ⟨fun e he => by
        rw [Array.toList_push, List.mem_append] at he
        rcases he with he | he
        · obtain ⟨j, k', b', q1, q2⟩ := h4.all e he
          exact ⟨j, k', b', getD_le _ _ _ q1, q2⟩
        · obtain rfl := List.mem_singleton.1 he
          refine ⟨i, k, b, ?_, hq, rfl, hv⟩
          have hs : i < listed.size := by have := qkey_lt i _ hq; have := h.sz; omega
          rw [Array.getD_eq_getD_getElem?, Array.getElem?_setIfInBounds_self_of_lt hs]
          rfl, fun hl => by
        by_cases e : i = 3
        · obtain ⟨rfl, rfl⟩ := hF e
          exact ⟨{ key := kA 1 false, val := v, born := c }, by simp, rfl⟩
        · obtain ⟨x, hx, hk⟩ := h4.one ((getD_set _ _ _ hl).resolve_left (Ne.symm e))
          exact ⟨x, by simp [Array.toList_push]; exact .inl (by simpa using hx), hk⟩⟩⟩
  e1 := fun hj => h.e1 ((getD_set _ _ _ hj).resolve_left (by have := qkey_lt i _ hq; omega))
  e2 := fun hj => h.e2 ((getD_set _ _ _ hj).resolve_left (by have := qkey_lt i _ hq; omega))
set_option maxRecDepth 8000 in
theorem Jr.made (h : Jr w0 listed a w) (_hi : listed.getD 0 true = false) (hno : ∀ i, listed.getD i false = true → i ≠ 3 ∧ i ≠ 59 ∧ i ≠ 60) : Jr w0 (listed.setIfInBounds 0 true) (a.put (some 1) (.map (some w.heap.size))) (w.alloc (.map #[] 0)) where
  sz := by rw [Array.size_setIfInBounds]; exact h.sz
  ta := by show (a.tmps.setIfInBounds 1 _).size = 49; rw [Array.size_setIfInBounds]; exact h.ta
  df := h.df
  bel := h.bel.alloc h.bel.size _
  sl := fun j hj d' hd' => by
    by_cases e : j = 0
    · subst e
      injection hd' with hd'
      injection hd' with hd'
      subst hd'
      exact ⟨_, put_get (by rw [h.ta]; decide), trivial⟩
    · obtain ⟨u, hu, hp⟩ := h.sl j ((getD_set _ _ _ hj).resolve_left e) d' hd'
      refine ⟨u, ?_, hp⟩
      have hne : (1 : Nat) ≠ d' := fun q => e (qd_inj j (List.getElem?_eq_some_iff.1 hd').1 0 (by decide) (by rw [hd']; simp) (by rw [hd', ← q]; rfl))
      rw [put_other hne, hu]
  mp := fun _ => ⟨w.heap.size, #[], 0, put_get (by rw [h.ta]; decide), h.bel.size, (Go.MapKept.heap_alloc w _).1, ⟨fun e he => absurd he (by simp), fun hl => ((hno 3 ((getD_set _ _ _ hl).resolve_left (by decide))).1 rfl).elim⟩⟩
  e1 := fun hj => ((hno 59 ((getD_set _ _ _ hj).resolve_left (by decide))).2.1 rfl).elim
  e2 := fun hj => ((hno 60 ((getD_set _ _ _ hj).resolve_left (by decide))).2.2 rfl).elim
set_option maxRecDepth 8000 in
theorem Jr.mv1 (h : Jr w0 listed a w) {g : Nat} (h1 : a.tmps[1]? = some (.map (some g))) (hno : listed.getD 60 false = true → False) : Jr w0 (listed.setIfInBounds 59 true) (a.put (some 48) (.map (some g))) w where
  sz := by rw [Array.size_setIfInBounds]; exact h.sz
  ta := by show (a.tmps.setIfInBounds 48 _).size = 49; rw [Array.size_setIfInBounds]; exact h.ta
  df := h.df
  bel := h.bel
  sl := fun j hj d' hd' => by
    by_cases e : j = 59
    · subst e
      injection hd' with hd'
      injection hd' with hd'
      subst hd'
      exact ⟨_, put_get (by rw [h.ta]; decide), trivial⟩
    · obtain ⟨u, hu, hp⟩ := h.sl j ((getD_set _ _ _ hj).resolve_left e) d' hd'
      refine ⟨u, ?_, hp⟩
      have hne : (48 : Nat) ≠ d' := fun q => e (qd_inj j (List.getElem?_eq_some_iff.1 hd').1 59 (by decide) (by rw [hd']; simp) (by rw [hd', ← q]; rfl))
      rw [put_other hne, hu]
  mp := fun hj => by
    obtain ⟨g', es, c, q1, q2, q3, q4⟩ := h.mp ((getD_set _ _ _ hj).resolve_left (by decide))
    exact ⟨g', es, c, by rw [put_other (by decide)]; exact q1, q2, q3, q4.list (by decide)⟩
  e1 := fun _ => by
    rw [put_get (by rw [h.ta]; decide), put_other (by decide), h1]
  e2 := fun hj => (hno ((getD_set _ _ _ hj).resolve_left (by decide))).elim
set_option maxRecDepth 8000 in
theorem Jr.mv2 (h : Jr w0 listed a w) {v : Value} (h1 : a.tmps[48]? = some v) : Jr w0 (listed.setIfInBounds 60 true) (a.put (some 0) v) w where
  sz := by rw [Array.size_setIfInBounds]; exact h.sz
  ta := by show (a.tmps.setIfInBounds 0 _).size = 49; rw [Array.size_setIfInBounds]; exact h.ta
  df := h.df
  bel := h.bel
  sl := fun j hj d' hd' => by
    by_cases e : j = 60
    · subst e
      injection hd' with hd'
      injection hd' with hd'
      subst hd'
      exact ⟨_, put_get (by rw [h.ta]; decide), trivial⟩
    · obtain ⟨u, hu, hp⟩ := h.sl j ((getD_set _ _ _ hj).resolve_left e) d' hd'
      refine ⟨u, ?_, hp⟩
      have hne : (0 : Nat) ≠ d' := fun q => e (qd_inj j (List.getElem?_eq_some_iff.1 hd').1 60 (by decide) (by rw [hd']; simp) (by rw [hd', ← q]; rfl))
      rw [put_other hne, hu]
  mp := fun hj => by
    obtain ⟨g', es, c, q1, q2, q3, q4⟩ := h.mp ((getD_set _ _ _ hj).resolve_left (by decide))
    exact ⟨g', es, c, by rw [put_other (by decide)]; exact q1, q2, q3, q4.list (by decide)⟩
  e1 := fun hj => by
    rw [put_other (by decide), put_other (by decide)]
    exact h.e1 ((getD_set _ _ _ hj).resolve_left (by decide))
  e2 := fun _ => by
    rw [put_get (by rw [h.ta]; decide), put_other (by decide), h1]
end
set_option maxRecDepth 8000 in
theorem st0 (h : Jr w0 listed a w) (_hc : Cl listed) {Q : Exit → Act → World → Prop} (_hi : listed.getD 0 true = false) (_hd : ∀ e ∈ qo0.after, Region.binds .any e = true → listed.getD e.on false = true) : wpOp Tryz.prog qops Q 0 (Jr w0 (listed.setIfInBounds 0 true)) a w := by
  exact wpOp_val (i := 0) (o := qo0) (v := .map (some w.heap.size)) (w' := w.alloc (.map #[] 0)) rfl rfl rfl (h.made _hi fun i hl => ⟨fun e => ft _hi (dep_of (o := qo3) (j := 0) rfl (by decide) (_hc _ qo3 (e ▸ hl) rfl)), fun e => ft _hi (dep_of (o := qo59) (j := 0) rfl (by decide) (_hc _ qo59 (e ▸ hl) rfl)), fun e => ft _hi (dep_of (o := qo60) (j := 0) rfl (by decide) (_hc _ qo60 (e ▸ hl) rfl))⟩)
set_option maxRecDepth 8000 in
theorem st1 (h : Jr w0 listed a w) (_hc : Cl listed) {Q : Exit → Act → World → Prop} (_hi : listed.getD 1 true = false) (_hd : ∀ e ∈ qo1.after, Region.binds .any e = true → listed.getD e.on false = true) : wpOp Tryz.prog qops Q 1 (Jr w0 (listed.setIfInBounds 1 true)) a w := by
  exact wpOp_val (i := 1) (o := qo1) (v := kA 1 false) rfl rfl (by kernel_rfl) (h.put (i := 1) (by decide) (by decide) (by decide) rfl (by decide) rfl (Below.refl _ _))
set_option maxRecDepth 8000 in
theorem st2 (h : Jr w0 listed a w) (_hc : Cl listed) {Q : Exit → Act → World → Prop} (_hi : listed.getD 2 true = false) (_hd : ∀ e ∈ qo2.after, Region.binds .any e = true → listed.getD e.on false = true) : wpOp Tryz.prog qops Q 2 (Jr w0 (listed.setIfInBounds 2 true)) a w := by
  exact wpOp_val (i := 2) (o := qo2) (v := rowV) rfl rfl (by kernel_rfl) (h.put (i := 2) (by decide) (by decide) (by decide) rfl (by decide) rfl (Below.refl _ _))
set_option maxRecDepth 8000 in
theorem st3 (h : Jr w0 listed a w) (_hc : Cl listed) {Q : Exit → Act → World → Prop} (_hi : listed.getD 3 true = false) (_hd : ∀ e ∈ qo3.after, Region.binds .any e = true → listed.getD e.on false = true) : wpOp Tryz.prog qops Q 3 (Jr w0 (listed.setIfInBounds 3 true)) a w := by
  obtain ⟨g, es, c, h1, h2, h3, h4⟩ := h.mp (_hd { on := 0, ground := .data } (by simp [qo3]) rfl)
  obtain ⟨vk, hk, rfl⟩ := h.sl 1 (_hd { on := 1, ground := .data } (by simp [qo3]) rfl) 2 rfl
  obtain ⟨vv, hv, hp⟩ := h.sl 2 (_hd { on := 2, ground := .data } (by simp [qo3]) rfl) 3 rfl
  exact wpOp_skip (i := 3) (o := qo3) rfl rfl (run_ins rfl (eval_tmp h1) (eval_tmp hk) (eval_tmp hv) h3 (h.fresh _hi (i := 3) rfl h4)) (h.ins (i := 3) rfl (fun _ => hp) (fun _ => ⟨rfl, rfl⟩) rfl (by decide) h1 h2 h3 h4)
set_option maxRecDepth 8000 in
theorem st4 (h : Jr w0 listed a w) (_hc : Cl listed) {Q : Exit → Act → World → Prop} (_hi : listed.getD 4 true = false) (_hd : ∀ e ∈ qo4.after, Region.binds .any e = true → listed.getD e.on false = true) : wpOp Tryz.prog qops Q 4 (Jr w0 (listed.setIfInBounds 4 true)) a w := by
  exact wpOp_val (i := 4) (o := qo4) (v := kA 2 false) rfl rfl (by kernel_rfl) (h.put (i := 4) (by decide) (by decide) (by decide) rfl (by decide) rfl (Below.refl _ _))
set_option maxRecDepth 8000 in
theorem st5 (h : Jr w0 listed a w) (_hc : Cl listed) {Q : Exit → Act → World → Prop} (_hi : listed.getD 5 true = false) (_hd : ∀ e ∈ qo5.after, Region.binds .any e = true → listed.getD e.on false = true) : wpOp Tryz.prog qops Q 5 (Jr w0 (listed.setIfInBounds 5 true)) a w := by
  exact wpOp_call (i := 5) (o := qo5) (f := 86) (args := #[.func (.func 87) #[] #[]]) rfl rfl (by kernel_rfl) (cq86 w ⟨_, _, _, rfl⟩) fun v w' hv hb => (h.put (i := 5) (by decide) (by decide) (by decide) rfl (by decide) hv hb)
set_option maxRecDepth 8000 in
theorem st6 (h : Jr w0 listed a w) (_hc : Cl listed) {Q : Exit → Act → World → Prop} (_hi : listed.getD 6 true = false) (_hd : ∀ e ∈ qo6.after, Region.binds .any e = true → listed.getD e.on false = true) : wpOp Tryz.prog qops Q 6 (Jr w0 (listed.setIfInBounds 6 true)) a w := by
  exact wpOp_call (i := 6) (o := qo6) (f := 88) (args := #[.func (.func 89) #[] #[], .func (.func 90) #[] #[]]) rfl rfl (by kernel_rfl) (cq88 w ⟨_, _, _, rfl⟩ ⟨_, _, _, rfl⟩) fun v w' hv hb => (h.put (i := 6) (by decide) (by decide) (by decide) rfl (by decide) hv hb)
set_option maxRecDepth 8000 in
theorem st7 (h : Jr w0 listed a w) (_hc : Cl listed) {Q : Exit → Act → World → Prop} (_hi : listed.getD 7 true = false) (_hd : ∀ e ∈ qo7.after, Region.binds .any e = true → listed.getD e.on false = true) : wpOp Tryz.prog qops Q 7 (Jr w0 (listed.setIfInBounds 7 true)) a w := by
  obtain ⟨v5, hv5, fv5, yv5, zv5, rfl⟩ := h.sl 5 (_hd { on := 5, ground := .data } (by simp [qo7]) rfl) 5 rfl
  obtain ⟨v6, hv6, fv6, yv6, zv6, rfl⟩ := h.sl 6 (_hd { on := 6, ground := .data } (by simp [qo7]) rfl) 6 rfl
  have hr : (execOp a.eval qo7).run Tryz.prog w = .ok (.value (.agg #[.func (.func 84) #[] #[], .nilFunc, .nilFunc, .func fv5 yv5 zv5, .func fv6 yv6 zv6, .nilFunc, .func (.func 91) #[] #[], .nilFunc])) w := by
    have hb := run_build w 109 #[(0, .func (.func 84) #[] #[]), (3, .func fv5 yv5 zv5), (4, .func fv6 yv6 zv6), (6, .func (.func 91) #[] #[])] _ (show Tryz.prog.built 109 [(0, .func (.func 84) #[] #[]), (3, .func fv5 yv5 zv5), (4, .func fv6 yv6 zv6), (6, .func (.func 91) #[] #[])] = some #[.func (.func 84) #[] #[], .nilFunc, .nilFunc, .func fv5 yv5 zv5, .func fv6 yv6 zv6, .nilFunc, .func (.func 91) #[] #[], .nilFunc] by kernel_rfl)
    unfold execOp
    simp only [qo7, Sem.run_bind, List.map_toArray, List.map_cons, List.map_nil, eval_tmp hv5, eval_tmp hv6, show a.eval (.func 84) = .func (.func 84) #[] #[] from rfl, show a.eval (.func 91) = .func (.func 91) #[] #[] from rfl,  hb, Result.andThen_ok, Sem.run_pure]
    try rfl
  exact wpOp_val (i := 7) (o := qo7) rfl rfl hr (h.put (i := 7) (by decide) (by decide) (by decide) rfl (by decide) trivial (Below.refl _ _))
set_option maxRecDepth 8000 in
theorem st8 (h : Jr w0 listed a w) (_hc : Cl listed) {Q : Exit → Act → World → Prop} (_hi : listed.getD 8 true = false) (_hd : ∀ e ∈ qo8.after, Region.binds .any e = true → listed.getD e.on false = true) : wpOp Tryz.prog qops Q 8 (Jr w0 (listed.setIfInBounds 8 true)) a w := by
  obtain ⟨g, es, c, h1, h2, h3, h4⟩ := h.mp (_hd { on := 0, ground := .data } (by simp [qo8]) rfl)
  obtain ⟨vk, hk, rfl⟩ := h.sl 4 (_hd { on := 4, ground := .data } (by simp [qo8]) rfl) 4 rfl
  obtain ⟨vv, hv, hp⟩ := h.sl 7 (_hd { on := 7, ground := .data } (by simp [qo8]) rfl) 7 rfl
  exact wpOp_skip (i := 8) (o := qo8) rfl rfl (run_ins rfl (eval_tmp h1) (eval_tmp hk) (eval_tmp hv) h3 (h.fresh _hi (i := 8) rfl h4)) (h.ins (i := 8) rfl (fun q => absurd q (by decide)) (fun q => absurd q (by decide)) rfl (by decide) h1 h2 h3 h4)
set_option maxRecDepth 8000 in
theorem st9 (h : Jr w0 listed a w) (_hc : Cl listed) {Q : Exit → Act → World → Prop} (_hi : listed.getD 9 true = false) (_hd : ∀ e ∈ qo9.after, Region.binds .any e = true → listed.getD e.on false = true) : wpOp Tryz.prog qops Q 9 (Jr w0 (listed.setIfInBounds 9 true)) a w := by
  exact wpOp_val (i := 9) (o := qo9) (v := kA 2 true) rfl rfl (by kernel_rfl) (h.put (i := 9) (by decide) (by decide) (by decide) rfl (by decide) rfl (Below.refl _ _))
set_option maxRecDepth 8000 in
theorem st10 (h : Jr w0 listed a w) (_hc : Cl listed) {Q : Exit → Act → World → Prop} (_hi : listed.getD 10 true = false) (_hd : ∀ e ∈ qo10.after, Region.binds .any e = true → listed.getD e.on false = true) : wpOp Tryz.prog qops Q 10 (Jr w0 (listed.setIfInBounds 10 true)) a w := by
  exact wpOp_call (i := 10) (o := qo10) (f := 92) (args := #[.func (.func 93) #[] #[], .func (.func 94) #[] #[], .func (.func 95) #[] #[]]) rfl rfl (by kernel_rfl) (cq92 w ⟨_, _, _, rfl⟩ ⟨_, _, _, rfl⟩ ⟨_, _, _, rfl⟩) fun v w' hv hb => (h.put (i := 10) (by decide) (by decide) (by decide) rfl (by decide) hv hb)
set_option maxRecDepth 8000 in
theorem st11 (h : Jr w0 listed a w) (_hc : Cl listed) {Q : Exit → Act → World → Prop} (_hi : listed.getD 11 true = false) (_hd : ∀ e ∈ qo11.after, Region.binds .any e = true → listed.getD e.on false = true) : wpOp Tryz.prog qops Q 11 (Jr w0 (listed.setIfInBounds 11 true)) a w := by
  exact wpOp_call (i := 11) (o := qo11) (f := 96) (args := #[.func (.func 97) #[] #[], .func (.func 94) #[] #[], .func (.func 90) #[] #[], .func (.func 95) #[] #[]]) rfl rfl (by kernel_rfl) (cq96 w ⟨_, _, _, rfl⟩ ⟨_, _, _, rfl⟩ ⟨_, _, _, rfl⟩ ⟨_, _, _, rfl⟩) fun v w' hv hb => (h.put (i := 11) (by decide) (by decide) (by decide) rfl (by decide) hv hb)
set_option maxRecDepth 8000 in
theorem st12 (h : Jr w0 listed a w) (_hc : Cl listed) {Q : Exit → Act → World → Prop} (_hi : listed.getD 12 true = false) (_hd : ∀ e ∈ qo12.after, Region.binds .any e = true → listed.getD e.on false = true) : wpOp Tryz.prog qops Q 12 (Jr w0 (listed.setIfInBounds 12 true)) a w := by
  obtain ⟨v9, hv9, fv9, yv9, zv9, rfl⟩ := h.sl 10 (_hd { on := 10, ground := .data } (by simp [qo12]) rfl) 9 rfl
  obtain ⟨v10, hv10, fv10, yv10, zv10, rfl⟩ := h.sl 11 (_hd { on := 11, ground := .data } (by simp [qo12]) rfl) 10 rfl
  have hr : (execOp a.eval qo12).run Tryz.prog w = .ok (.value (.agg #[.nilFunc, .func fv9 yv9 zv9, .func fv10 yv10 zv10, .nilFunc, .nilFunc, .func (.func 98) #[] #[], .nilFunc, .nilFunc])) w := by
    have hb := run_build w 109 #[(1, .func fv9 yv9 zv9), (2, .func fv10 yv10 zv10), (5, .func (.func 98) #[] #[])] _ (show Tryz.prog.built 109 [(1, .func fv9 yv9 zv9), (2, .func fv10 yv10 zv10), (5, .func (.func 98) #[] #[])] = some #[.nilFunc, .func fv9 yv9 zv9, .func fv10 yv10 zv10, .nilFunc, .nilFunc, .func (.func 98) #[] #[], .nilFunc, .nilFunc] by kernel_rfl)
    unfold execOp
    simp only [qo12, Sem.run_bind, List.map_toArray, List.map_cons, List.map_nil, eval_tmp hv9, eval_tmp hv10, show a.eval (.func 98) = .func (.func 98) #[] #[] from rfl,  hb, Result.andThen_ok, Sem.run_pure]
    try rfl
  exact wpOp_val (i := 12) (o := qo12) rfl rfl hr (h.put (i := 12) (by decide) (by decide) (by decide) rfl (by decide) trivial (Below.refl _ _))
set_option maxRecDepth 8000 in
theorem st13 (h : Jr w0 listed a w) (_hc : Cl listed) {Q : Exit → Act → World → Prop} (_hi : listed.getD 13 true = false) (_hd : ∀ e ∈ qo13.after, Region.binds .any e = true → listed.getD e.on false = true) : wpOp Tryz.prog qops Q 13 (Jr w0 (listed.setIfInBounds 13 true)) a w := by
  obtain ⟨g, es, c, h1, h2, h3, h4⟩ := h.mp (_hd { on := 0, ground := .data } (by simp [qo13]) rfl)
  obtain ⟨vk, hk, rfl⟩ := h.sl 9 (_hd { on := 9, ground := .data } (by simp [qo13]) rfl) 8 rfl
  obtain ⟨vv, hv, hp⟩ := h.sl 12 (_hd { on := 12, ground := .data } (by simp [qo13]) rfl) 11 rfl
  exact wpOp_skip (i := 13) (o := qo13) rfl rfl (run_ins rfl (eval_tmp h1) (eval_tmp hk) (eval_tmp hv) h3 (h.fresh _hi (i := 13) rfl h4)) (h.ins (i := 13) rfl (fun q => absurd q (by decide)) (fun q => absurd q (by decide)) rfl (by decide) h1 h2 h3 h4)
set_option maxRecDepth 8000 in
theorem st14 (h : Jr w0 listed a w) (_hc : Cl listed) {Q : Exit → Act → World → Prop} (_hi : listed.getD 14 true = false) (_hd : ∀ e ∈ qo14.after, Region.binds .any e = true → listed.getD e.on false = true) : wpOp Tryz.prog qops Q 14 (Jr w0 (listed.setIfInBounds 14 true)) a w := by
  exact wpOp_val (i := 14) (o := qo14) (v := kA 3 false) rfl rfl (by kernel_rfl) (h.put (i := 14) (by decide) (by decide) (by decide) rfl (by decide) rfl (Below.refl _ _))
set_option maxRecDepth 8000 in
theorem st15 (h : Jr w0 listed a w) (_hc : Cl listed) {Q : Exit → Act → World → Prop} (_hi : listed.getD 15 true = false) (_hd : ∀ e ∈ qo15.after, Region.binds .any e = true → listed.getD e.on false = true) : wpOp Tryz.prog qops Q 15 (Jr w0 (listed.setIfInBounds 15 true)) a w := by
  exact wpOp_call (i := 15) (o := qo15) (f := 86) (args := #[.func (.func 99) #[] #[]]) rfl rfl (by kernel_rfl) (cq86 w ⟨_, _, _, rfl⟩) fun v w' hv hb => (h.put (i := 15) (by decide) (by decide) (by decide) rfl (by decide) hv hb)
set_option maxRecDepth 8000 in
theorem st16 (h : Jr w0 listed a w) (_hc : Cl listed) {Q : Exit → Act → World → Prop} (_hi : listed.getD 16 true = false) (_hd : ∀ e ∈ qo16.after, Region.binds .any e = true → listed.getD e.on false = true) : wpOp Tryz.prog qops Q 16 (Jr w0 (listed.setIfInBounds 16 true)) a w := by
  exact wpOp_call (i := 16) (o := qo16) (f := 88) (args := #[.func (.func 100) #[] #[], .func (.func 90) #[] #[]]) rfl rfl (by kernel_rfl) (cq88 w ⟨_, _, _, rfl⟩ ⟨_, _, _, rfl⟩) fun v w' hv hb => (h.put (i := 16) (by decide) (by decide) (by decide) rfl (by decide) hv hb)
set_option maxRecDepth 8000 in
theorem st17 (h : Jr w0 listed a w) (_hc : Cl listed) {Q : Exit → Act → World → Prop} (_hi : listed.getD 17 true = false) (_hd : ∀ e ∈ qo17.after, Region.binds .any e = true → listed.getD e.on false = true) : wpOp Tryz.prog qops Q 17 (Jr w0 (listed.setIfInBounds 17 true)) a w := by
  obtain ⟨v13, hv13, fv13, yv13, zv13, rfl⟩ := h.sl 15 (_hd { on := 15, ground := .data } (by simp [qo17]) rfl) 13 rfl
  obtain ⟨v14, hv14, fv14, yv14, zv14, rfl⟩ := h.sl 16 (_hd { on := 16, ground := .data } (by simp [qo17]) rfl) 14 rfl
  have hr : (execOp a.eval qo17).run Tryz.prog w = .ok (.value (.agg #[.func (.func 84) #[] #[], .nilFunc, .nilFunc, .func fv13 yv13 zv13, .func fv14 yv14 zv14, .nilFunc, .nilFunc, .nilFunc])) w := by
    have hb := run_build w 109 #[(0, .func (.func 84) #[] #[]), (3, .func fv13 yv13 zv13), (4, .func fv14 yv14 zv14)] _ (show Tryz.prog.built 109 [(0, .func (.func 84) #[] #[]), (3, .func fv13 yv13 zv13), (4, .func fv14 yv14 zv14)] = some #[.func (.func 84) #[] #[], .nilFunc, .nilFunc, .func fv13 yv13 zv13, .func fv14 yv14 zv14, .nilFunc, .nilFunc, .nilFunc] by kernel_rfl)
    unfold execOp
    simp only [qo17, Sem.run_bind, List.map_toArray, List.map_cons, List.map_nil, eval_tmp hv13, eval_tmp hv14, show a.eval (.func 84) = .func (.func 84) #[] #[] from rfl,  hb, Result.andThen_ok, Sem.run_pure]
    try rfl
  exact wpOp_val (i := 17) (o := qo17) rfl rfl hr (h.put (i := 17) (by decide) (by decide) (by decide) rfl (by decide) trivial (Below.refl _ _))
set_option maxRecDepth 8000 in
theorem st18 (h : Jr w0 listed a w) (_hc : Cl listed) {Q : Exit → Act → World → Prop} (_hi : listed.getD 18 true = false) (_hd : ∀ e ∈ qo18.after, Region.binds .any e = true → listed.getD e.on false = true) : wpOp Tryz.prog qops Q 18 (Jr w0 (listed.setIfInBounds 18 true)) a w := by
  obtain ⟨g, es, c, h1, h2, h3, h4⟩ := h.mp (_hd { on := 0, ground := .data } (by simp [qo18]) rfl)
  obtain ⟨vk, hk, rfl⟩ := h.sl 14 (_hd { on := 14, ground := .data } (by simp [qo18]) rfl) 12 rfl
  obtain ⟨vv, hv, hp⟩ := h.sl 17 (_hd { on := 17, ground := .data } (by simp [qo18]) rfl) 15 rfl
  exact wpOp_skip (i := 18) (o := qo18) rfl rfl (run_ins rfl (eval_tmp h1) (eval_tmp hk) (eval_tmp hv) h3 (h.fresh _hi (i := 18) rfl h4)) (h.ins (i := 18) rfl (fun q => absurd q (by decide)) (fun q => absurd q (by decide)) rfl (by decide) h1 h2 h3 h4)
set_option maxRecDepth 8000 in
theorem st19 (h : Jr w0 listed a w) (_hc : Cl listed) {Q : Exit → Act → World → Prop} (_hi : listed.getD 19 true = false) (_hd : ∀ e ∈ qo19.after, Region.binds .any e = true → listed.getD e.on false = true) : wpOp Tryz.prog qops Q 19 (Jr w0 (listed.setIfInBounds 19 true)) a w := by
  exact wpOp_val (i := 19) (o := qo19) (v := kA 3 true) rfl rfl (by kernel_rfl) (h.put (i := 19) (by decide) (by decide) (by decide) rfl (by decide) rfl (Below.refl _ _))
set_option maxRecDepth 8000 in
theorem st20 (h : Jr w0 listed a w) (_hc : Cl listed) {Q : Exit → Act → World → Prop} (_hi : listed.getD 20 true = false) (_hd : ∀ e ∈ qo20.after, Region.binds .any e = true → listed.getD e.on false = true) : wpOp Tryz.prog qops Q 20 (Jr w0 (listed.setIfInBounds 20 true)) a w := by
  exact wpOp_call (i := 20) (o := qo20) (f := 101) (args := #[.func (.func 102) #[] #[], .func (.func 94) #[] #[], .func (.func 103) #[] #[]]) rfl rfl (by kernel_rfl) (cq101 w ⟨_, _, _, rfl⟩ ⟨_, _, _, rfl⟩ ⟨_, _, _, rfl⟩) fun v w' hv hb => (h.put (i := 20) (by decide) (by decide) (by decide) rfl (by decide) hv hb)
set_option maxRecDepth 8000 in
theorem st21 (h : Jr w0 listed a w) (_hc : Cl listed) {Q : Exit → Act → World → Prop} (_hi : listed.getD 21 true = false) (_hd : ∀ e ∈ qo21.after, Region.binds .any e = true → listed.getD e.on false = true) : wpOp Tryz.prog qops Q 21 (Jr w0 (listed.setIfInBounds 21 true)) a w := by
  obtain ⟨v17, hv17, fv17, yv17, zv17, rfl⟩ := h.sl 20 (_hd { on := 20, ground := .data } (by simp [qo21]) rfl) 17 rfl
  have hr : (execOp a.eval qo21).run Tryz.prog w = .ok (.value (.agg #[.nilFunc, .func fv17 yv17 zv17, .func (.func 104) #[] #[], .nilFunc, .nilFunc, .func (.func 98) #[] #[], .nilFunc, .nilFunc])) w := by
    have hb := run_build w 109 #[(1, .func fv17 yv17 zv17), (2, .func (.func 104) #[] #[]), (5, .func (.func 98) #[] #[])] _ (show Tryz.prog.built 109 [(1, .func fv17 yv17 zv17), (2, .func (.func 104) #[] #[]), (5, .func (.func 98) #[] #[])] = some #[.nilFunc, .func fv17 yv17 zv17, .func (.func 104) #[] #[], .nilFunc, .nilFunc, .func (.func 98) #[] #[], .nilFunc, .nilFunc] by kernel_rfl)
    unfold execOp
    simp only [qo21, Sem.run_bind, List.map_toArray, List.map_cons, List.map_nil, eval_tmp hv17, show a.eval (.func 98) = .func (.func 98) #[] #[] from rfl, show a.eval (.func 104) = .func (.func 104) #[] #[] from rfl,  hb, Result.andThen_ok, Sem.run_pure]
    try rfl
  exact wpOp_val (i := 21) (o := qo21) rfl rfl hr (h.put (i := 21) (by decide) (by decide) (by decide) rfl (by decide) trivial (Below.refl _ _))
set_option maxRecDepth 8000 in
theorem st22 (h : Jr w0 listed a w) (_hc : Cl listed) {Q : Exit → Act → World → Prop} (_hi : listed.getD 22 true = false) (_hd : ∀ e ∈ qo22.after, Region.binds .any e = true → listed.getD e.on false = true) : wpOp Tryz.prog qops Q 22 (Jr w0 (listed.setIfInBounds 22 true)) a w := by
  obtain ⟨g, es, c, h1, h2, h3, h4⟩ := h.mp (_hd { on := 0, ground := .data } (by simp [qo22]) rfl)
  obtain ⟨vk, hk, rfl⟩ := h.sl 19 (_hd { on := 19, ground := .data } (by simp [qo22]) rfl) 16 rfl
  obtain ⟨vv, hv, hp⟩ := h.sl 21 (_hd { on := 21, ground := .data } (by simp [qo22]) rfl) 18 rfl
  exact wpOp_skip (i := 22) (o := qo22) rfl rfl (run_ins rfl (eval_tmp h1) (eval_tmp hk) (eval_tmp hv) h3 (h.fresh _hi (i := 22) rfl h4)) (h.ins (i := 22) rfl (fun q => absurd q (by decide)) (fun q => absurd q (by decide)) rfl (by decide) h1 h2 h3 h4)
set_option maxRecDepth 8000 in
theorem st23 (h : Jr w0 listed a w) (_hc : Cl listed) {Q : Exit → Act → World → Prop} (_hi : listed.getD 23 true = false) (_hd : ∀ e ∈ qo23.after, Region.binds .any e = true → listed.getD e.on false = true) : wpOp Tryz.prog qops Q 23 (Jr w0 (listed.setIfInBounds 23 true)) a w := by
  exact wpOp_val (i := 23) (o := qo23) (v := kA 4 false) rfl rfl (by kernel_rfl) (h.put (i := 23) (by decide) (by decide) (by decide) rfl (by decide) rfl (Below.refl _ _))
set_option maxRecDepth 8000 in
theorem st24 (h : Jr w0 listed a w) (_hc : Cl listed) {Q : Exit → Act → World → Prop} (_hi : listed.getD 24 true = false) (_hd : ∀ e ∈ qo24.after, Region.binds .any e = true → listed.getD e.on false = true) : wpOp Tryz.prog qops Q 24 (Jr w0 (listed.setIfInBounds 24 true)) a w := by
  exact wpOp_call (i := 24) (o := qo24) (f := 107) (args := #[.int .i64 1]) rfl rfl (by kernel_rfl) (cq107 w 1) fun v w' hv hb => (h.put (i := 24) (by decide) (by decide) (by decide) rfl (by decide) hv hb)
set_option maxRecDepth 8000 in
theorem st25 (h : Jr w0 listed a w) (_hc : Cl listed) {Q : Exit → Act → World → Prop} (_hi : listed.getD 25 true = false) (_hd : ∀ e ∈ qo25.after, Region.binds .any e = true → listed.getD e.on false = true) : wpOp Tryz.prog qops Q 25 (Jr w0 (listed.setIfInBounds 25 true)) a w := by
  obtain ⟨v20, hv20, fv20, yv20, zv20, rfl⟩ := h.sl 24 (_hd { on := 24, ground := .data } (by simp [qo25]) rfl) 20 rfl
  have hr : (execOp a.eval qo25).run Tryz.prog w = .ok (.enter 105 #[.func (.func 106) #[] #[], .func fv20 yv20 zv20, .func (.func 95) #[] #[]]) w := run_call_fn rfl rfl rfl (by simp only [List.map_toArray, List.map_cons, List.map_nil, eval_tmp hv20] <;> rfl) (fun w => by kernel_rfl)
  exact wpOp_call (i := 25) (o := qo25) (f := 105) (args := #[.func (.func 106) #[] #[], .func fv20 yv20 zv20, .func (.func 95) #[] #[]]) rfl rfl hr (cq105 w ⟨_, _, _, rfl⟩ ⟨_, _, _, rfl⟩ ⟨_, _, _, rfl⟩) fun v w' hv hb => (h.put (i := 25) (by decide) (by decide) (by decide) rfl (by decide) hv hb)
set_option maxRecDepth 8000 in
theorem st26 (h : Jr w0 listed a w) (_hc : Cl listed) {Q : Exit → Act → World → Prop} (_hi : listed.getD 26 true = false) (_hd : ∀ e ∈ qo26.after, Region.binds .any e = true → listed.getD e.on false = true) : wpOp Tryz.prog qops Q 26 (Jr w0 (listed.setIfInBounds 26 true)) a w := by
  exact wpOp_call (i := 26) (o := qo26) (f := 107) (args := #[.int .i64 2]) rfl rfl (by kernel_rfl) (cq107 w 2) fun v w' hv hb => (h.put (i := 26) (by decide) (by decide) (by decide) rfl (by decide) hv hb)
set_option maxRecDepth 8000 in
theorem st27 (h : Jr w0 listed a w) (_hc : Cl listed) {Q : Exit → Act → World → Prop} (_hi : listed.getD 27 true = false) (_hd : ∀ e ∈ qo27.after, Region.binds .any e = true → listed.getD e.on false = true) : wpOp Tryz.prog qops Q 27 (Jr w0 (listed.setIfInBounds 27 true)) a w := by
  obtain ⟨v22, hv22, fv22, yv22, zv22, rfl⟩ := h.sl 26 (_hd { on := 26, ground := .data } (by simp [qo27]) rfl) 22 rfl
  have hr : (execOp a.eval qo27).run Tryz.prog w = .ok (.enter 105 #[.func (.func 106) #[] #[], .func fv22 yv22 zv22, .func (.func 95) #[] #[]]) w := run_call_fn rfl rfl rfl (by simp only [List.map_toArray, List.map_cons, List.map_nil, eval_tmp hv22] <;> rfl) (fun w => by kernel_rfl)
  exact wpOp_call (i := 27) (o := qo27) (f := 105) (args := #[.func (.func 106) #[] #[], .func fv22 yv22 zv22, .func (.func 95) #[] #[]]) rfl rfl hr (cq105 w ⟨_, _, _, rfl⟩ ⟨_, _, _, rfl⟩ ⟨_, _, _, rfl⟩) fun v w' hv hb => (h.put (i := 27) (by decide) (by decide) (by decide) rfl (by decide) hv hb)
set_option maxRecDepth 8000 in
theorem st28 (h : Jr w0 listed a w) (_hc : Cl listed) {Q : Exit → Act → World → Prop} (_hi : listed.getD 28 true = false) (_hd : ∀ e ∈ qo28.after, Region.binds .any e = true → listed.getD e.on false = true) : wpOp Tryz.prog qops Q 28 (Jr w0 (listed.setIfInBounds 28 true)) a w := by
  exact wpOp_call (i := 28) (o := qo28) (f := 88) (args := #[.func (.func 108) #[] #[], .func (.func 90) #[] #[]]) rfl rfl (by kernel_rfl) (cq88 w ⟨_, _, _, rfl⟩ ⟨_, _, _, rfl⟩) fun v w' hv hb => (h.put (i := 28) (by decide) (by decide) (by decide) rfl (by decide) hv hb)
set_option maxRecDepth 8000 in
theorem st29 (h : Jr w0 listed a w) (_hc : Cl listed) {Q : Exit → Act → World → Prop} (_hi : listed.getD 29 true = false) (_hd : ∀ e ∈ qo29.after, Region.binds .any e = true → listed.getD e.on false = true) : wpOp Tryz.prog qops Q 29 (Jr w0 (listed.setIfInBounds 29 true)) a w := by
  exact wpOp_call (i := 29) (o := qo29) (f := 109) (args := #[.func (.func 110) #[] #[], .func (.func 90) #[] #[], .func (.func 111) #[] #[]]) rfl rfl (by kernel_rfl) (cq109 w ⟨_, _, _, rfl⟩ ⟨_, _, _, rfl⟩ ⟨_, _, _, rfl⟩) fun v w' hv hb => (h.put (i := 29) (by decide) (by decide) (by decide) rfl (by decide) hv hb)
set_option maxRecDepth 8000 in
theorem st30 (h : Jr w0 listed a w) (_hc : Cl listed) {Q : Exit → Act → World → Prop} (_hi : listed.getD 30 true = false) (_hd : ∀ e ∈ qo30.after, Region.binds .any e = true → listed.getD e.on false = true) : wpOp Tryz.prog qops Q 30 (Jr w0 (listed.setIfInBounds 30 true)) a w := by
  exact wpOp_call (i := 30) (o := qo30) (f := 112) (args := #[.func (.func 113) #[] #[], .func (.func 114) #[] #[]]) rfl rfl (by kernel_rfl) (cq112 w ⟨_, _, _, rfl⟩ ⟨_, _, _, rfl⟩) fun v w' hv hb => (h.put (i := 30) (by decide) (by decide) (by decide) rfl (by decide) hv hb)
set_option maxRecDepth 8000 in
theorem st31 (h : Jr w0 listed a w) (_hc : Cl listed) {Q : Exit → Act → World → Prop} (_hi : listed.getD 31 true = false) (_hd : ∀ e ∈ qo31.after, Region.binds .any e = true → listed.getD e.on false = true) : wpOp Tryz.prog qops Q 31 (Jr w0 (listed.setIfInBounds 31 true)) a w := by
  obtain ⟨v21, hv21, fv21, yv21, zv21, rfl⟩ := h.sl 25 (_hd { on := 25, ground := .data } (by simp [qo31]) rfl) 21 rfl
  obtain ⟨v23, hv23, fv23, yv23, zv23, rfl⟩ := h.sl 27 (_hd { on := 27, ground := .data } (by simp [qo31]) rfl) 23 rfl
  obtain ⟨v24, hv24, fv24, yv24, zv24, rfl⟩ := h.sl 28 (_hd { on := 28, ground := .data } (by simp [qo31]) rfl) 24 rfl
  obtain ⟨v25, hv25, fv25, yv25, zv25, rfl⟩ := h.sl 29 (_hd { on := 29, ground := .data } (by simp [qo31]) rfl) 25 rfl
  obtain ⟨v26, hv26, fv26, yv26, zv26, rfl⟩ := h.sl 30 (_hd { on := 30, ground := .data } (by simp [qo31]) rfl) 26 rfl
  have hr : (execOp a.eval qo31).run Tryz.prog w = .ok (.value (.agg #[.func (.func 84) #[] #[], .func fv21 yv21 zv21, .func fv23 yv23 zv23, .func fv24 yv24 zv24, .nilFunc, .func fv25 yv25 zv25, .func fv26 yv26 zv26, .nilFunc])) w := by
    have hb := run_build w 109 #[(0, .func (.func 84) #[] #[]), (1, .func fv21 yv21 zv21), (2, .func fv23 yv23 zv23), (3, .func fv24 yv24 zv24), (5, .func fv25 yv25 zv25), (6, .func fv26 yv26 zv26)] _ (show Tryz.prog.built 109 [(0, .func (.func 84) #[] #[]), (1, .func fv21 yv21 zv21), (2, .func fv23 yv23 zv23), (3, .func fv24 yv24 zv24), (5, .func fv25 yv25 zv25), (6, .func fv26 yv26 zv26)] = some #[.func (.func 84) #[] #[], .func fv21 yv21 zv21, .func fv23 yv23 zv23, .func fv24 yv24 zv24, .nilFunc, .func fv25 yv25 zv25, .func fv26 yv26 zv26, .nilFunc] by kernel_rfl)
    unfold execOp
    simp only [qo31, Sem.run_bind, List.map_toArray, List.map_cons, List.map_nil, eval_tmp hv21, eval_tmp hv23, eval_tmp hv24, eval_tmp hv25, eval_tmp hv26, show a.eval (.func 84) = .func (.func 84) #[] #[] from rfl,  hb, Result.andThen_ok, Sem.run_pure]
    try rfl
  exact wpOp_val (i := 31) (o := qo31) rfl rfl hr (h.put (i := 31) (by decide) (by decide) (by decide) rfl (by decide) trivial (Below.refl _ _))
set_option maxRecDepth 8000 in
theorem st32 (h : Jr w0 listed a w) (_hc : Cl listed) {Q : Exit → Act → World → Prop} (_hi : listed.getD 32 true = false) (_hd : ∀ e ∈ qo32.after, Region.binds .any e = true → listed.getD e.on false = true) : wpOp Tryz.prog qops Q 32 (Jr w0 (listed.setIfInBounds 32 true)) a w := by
  obtain ⟨g, es, c, h1, h2, h3, h4⟩ := h.mp (_hd { on := 0, ground := .data } (by simp [qo32]) rfl)
  obtain ⟨vk, hk, rfl⟩ := h.sl 23 (_hd { on := 23, ground := .data } (by simp [qo32]) rfl) 19 rfl
  obtain ⟨vv, hv, hp⟩ := h.sl 31 (_hd { on := 31, ground := .data } (by simp [qo32]) rfl) 27 rfl
  exact wpOp_skip (i := 32) (o := qo32) rfl rfl (run_ins rfl (eval_tmp h1) (eval_tmp hk) (eval_tmp hv) h3 (h.fresh _hi (i := 32) rfl h4)) (h.ins (i := 32) rfl (fun q => absurd q (by decide)) (fun q => absurd q (by decide)) rfl (by decide) h1 h2 h3 h4)
set_option maxRecDepth 8000 in
theorem st33 (h : Jr w0 listed a w) (_hc : Cl listed) {Q : Exit → Act → World → Prop} (_hi : listed.getD 33 true = false) (_hd : ∀ e ∈ qo33.after, Region.binds .any e = true → listed.getD e.on false = true) : wpOp Tryz.prog qops Q 33 (Jr w0 (listed.setIfInBounds 33 true)) a w := by
  exact wpOp_val (i := 33) (o := qo33) (v := kA 4 true) rfl rfl (by kernel_rfl) (h.put (i := 33) (by decide) (by decide) (by decide) rfl (by decide) rfl (Below.refl _ _))
set_option maxRecDepth 8000 in
theorem st34 (h : Jr w0 listed a w) (_hc : Cl listed) {Q : Exit → Act → World → Prop} (_hi : listed.getD 34 true = false) (_hd : ∀ e ∈ qo34.after, Region.binds .any e = true → listed.getD e.on false = true) : wpOp Tryz.prog qops Q 34 (Jr w0 (listed.setIfInBounds 34 true)) a w := by
  exact wpOp_call (i := 34) (o := qo34) (f := 92) (args := #[.func (.func 115) #[] #[], .func (.func 94) #[] #[], .func (.func 95) #[] #[]]) rfl rfl (by kernel_rfl) (cq92 w ⟨_, _, _, rfl⟩ ⟨_, _, _, rfl⟩ ⟨_, _, _, rfl⟩) fun v w' hv hb => (h.put (i := 34) (by decide) (by decide) (by decide) rfl (by decide) hv hb)
set_option maxRecDepth 8000 in
theorem st35 (h : Jr w0 listed a w) (_hc : Cl listed) {Q : Exit → Act → World → Prop} (_hi : listed.getD 35 true = false) (_hd : ∀ e ∈ qo35.after, Region.binds .any e = true → listed.getD e.on false = true) : wpOp Tryz.prog qops Q 35 (Jr w0 (listed.setIfInBounds 35 true)) a w := by
  obtain ⟨v29, hv29, fv29, yv29, zv29, rfl⟩ := h.sl 34 (_hd { on := 34, ground := .data } (by simp [qo35]) rfl) 29 rfl
  have hr : (execOp a.eval qo35).run Tryz.prog w = .ok (.value (.agg #[.nilFunc, .nilFunc, .nilFunc, .nilFunc, .func fv29 yv29 zv29, .nilFunc, .nilFunc, .nilFunc])) w := by
    have hb := run_build w 109 #[(4, .func fv29 yv29 zv29)] _ (show Tryz.prog.built 109 [(4, .func fv29 yv29 zv29)] = some #[.nilFunc, .nilFunc, .nilFunc, .nilFunc, .func fv29 yv29 zv29, .nilFunc, .nilFunc, .nilFunc] by kernel_rfl)
    unfold execOp
    simp only [qo35, Sem.run_bind, List.map_toArray, List.map_cons, List.map_nil, eval_tmp hv29,  hb, Result.andThen_ok, Sem.run_pure]
    try rfl
  exact wpOp_val (i := 35) (o := qo35) rfl rfl hr (h.put (i := 35) (by decide) (by decide) (by decide) rfl (by decide) trivial (Below.refl _ _))
set_option maxRecDepth 8000 in
theorem st36 (h : Jr w0 listed a w) (_hc : Cl listed) {Q : Exit → Act → World → Prop} (_hi : listed.getD 36 true = false) (_hd : ∀ e ∈ qo36.after, Region.binds .any e = true → listed.getD e.on false = true) : wpOp Tryz.prog qops Q 36 (Jr w0 (listed.setIfInBounds 36 true)) a w := by
  obtain ⟨g, es, c, h1, h2, h3, h4⟩ := h.mp (_hd { on := 0, ground := .data } (by simp [qo36]) rfl)
  obtain ⟨vk, hk, rfl⟩ := h.sl 33 (_hd { on := 33, ground := .data } (by simp [qo36]) rfl) 28 rfl
  obtain ⟨vv, hv, hp⟩ := h.sl 35 (_hd { on := 35, ground := .data } (by simp [qo36]) rfl) 30 rfl
  exact wpOp_skip (i := 36) (o := qo36) rfl rfl (run_ins rfl (eval_tmp h1) (eval_tmp hk) (eval_tmp hv) h3 (h.fresh _hi (i := 36) rfl h4)) (h.ins (i := 36) rfl (fun q => absurd q (by decide)) (fun q => absurd q (by decide)) rfl (by decide) h1 h2 h3 h4)
set_option maxRecDepth 8000 in
theorem st37 (h : Jr w0 listed a w) (_hc : Cl listed) {Q : Exit → Act → World → Prop} (_hi : listed.getD 37 true = false) (_hd : ∀ e ∈ qo37.after, Region.binds .any e = true → listed.getD e.on false = true) : wpOp Tryz.prog qops Q 37 (Jr w0 (listed.setIfInBounds 37 true)) a w := by
  exact wpOp_val (i := 37) (o := qo37) (v := kA 5 false) rfl rfl (by kernel_rfl) (h.put (i := 37) (by decide) (by decide) (by decide) rfl (by decide) rfl (Below.refl _ _))
set_option maxRecDepth 8000 in
theorem st38 (h : Jr w0 listed a w) (_hc : Cl listed) {Q : Exit → Act → World → Prop} (_hi : listed.getD 38 true = false) (_hd : ∀ e ∈ qo38.after, Region.binds .any e = true → listed.getD e.on false = true) : wpOp Tryz.prog qops Q 38 (Jr w0 (listed.setIfInBounds 38 true)) a w := by
  have hr : (execOp a.eval qo38).run Tryz.prog w = .ok (.value (.agg #[.func (.func 84) #[] #[], .nilFunc, .nilFunc, .nilFunc, .func (.func 116) #[] #[], .nilFunc, .nilFunc, .nilFunc])) w := by
    have hb := run_build w 109 #[(0, .func (.func 84) #[] #[]), (4, .func (.func 116) #[] #[])] _ (show Tryz.prog.built 109 [(0, .func (.func 84) #[] #[]), (4, .func (.func 116) #[] #[])] = some #[.func (.func 84) #[] #[], .nilFunc, .nilFunc, .nilFunc, .func (.func 116) #[] #[], .nilFunc, .nilFunc, .nilFunc] by kernel_rfl)
    unfold execOp
    simp only [qo38, Sem.run_bind, List.map_toArray, List.map_cons, List.map_nil, show a.eval (.func 84) = .func (.func 84) #[] #[] from rfl, show a.eval (.func 116) = .func (.func 116) #[] #[] from rfl,  hb, Result.andThen_ok, Sem.run_pure]
    try rfl
  exact wpOp_val (i := 38) (o := qo38) rfl rfl hr (h.put (i := 38) (by decide) (by decide) (by decide) rfl (by decide) trivial (Below.refl _ _))
set_option maxRecDepth 8000 in
theorem st39 (h : Jr w0 listed a w) (_hc : Cl listed) {Q : Exit → Act → World → Prop} (_hi : listed.getD 39 true = false) (_hd : ∀ e ∈ qo39.after, Region.binds .any e = true → listed.getD e.on false = true) : wpOp Tryz.prog qops Q 39 (Jr w0 (listed.setIfInBounds 39 true)) a w := by
  obtain ⟨g, es, c, h1, h2, h3, h4⟩ := h.mp (_hd { on := 0, ground := .data } (by simp [qo39]) rfl)
  obtain ⟨vk, hk, rfl⟩ := h.sl 37 (_hd { on := 37, ground := .data } (by simp [qo39]) rfl) 31 rfl
  obtain ⟨vv, hv, hp⟩ := h.sl 38 (_hd { on := 38, ground := .data } (by simp [qo39]) rfl) 32 rfl
  exact wpOp_skip (i := 39) (o := qo39) rfl rfl (run_ins rfl (eval_tmp h1) (eval_tmp hk) (eval_tmp hv) h3 (h.fresh _hi (i := 39) rfl h4)) (h.ins (i := 39) rfl (fun q => absurd q (by decide)) (fun q => absurd q (by decide)) rfl (by decide) h1 h2 h3 h4)
set_option maxRecDepth 8000 in
theorem st40 (h : Jr w0 listed a w) (_hc : Cl listed) {Q : Exit → Act → World → Prop} (_hi : listed.getD 40 true = false) (_hd : ∀ e ∈ qo40.after, Region.binds .any e = true → listed.getD e.on false = true) : wpOp Tryz.prog qops Q 40 (Jr w0 (listed.setIfInBounds 40 true)) a w := by
  exact wpOp_val (i := 40) (o := qo40) (v := kA 5 true) rfl rfl (by kernel_rfl) (h.put (i := 40) (by decide) (by decide) (by decide) rfl (by decide) rfl (Below.refl _ _))
set_option maxRecDepth 8000 in
theorem st41 (h : Jr w0 listed a w) (_hc : Cl listed) {Q : Exit → Act → World → Prop} (_hi : listed.getD 41 true = false) (_hd : ∀ e ∈ qo41.after, Region.binds .any e = true → listed.getD e.on false = true) : wpOp Tryz.prog qops Q 41 (Jr w0 (listed.setIfInBounds 41 true)) a w := by
  exact wpOp_call (i := 41) (o := qo41) (f := 92) (args := #[.func (.func 93) #[] #[], .func (.func 118) #[] #[], .func (.func 95) #[] #[]]) rfl rfl (by kernel_rfl) (cq92 w ⟨_, _, _, rfl⟩ ⟨_, _, _, rfl⟩ ⟨_, _, _, rfl⟩) fun v w' hv hb => (h.put (i := 41) (by decide) (by decide) (by decide) rfl (by decide) hv hb)
set_option maxRecDepth 8000 in
theorem st42 (h : Jr w0 listed a w) (_hc : Cl listed) {Q : Exit → Act → World → Prop} (_hi : listed.getD 42 true = false) (_hd : ∀ e ∈ qo42.after, Region.binds .any e = true → listed.getD e.on false = true) : wpOp Tryz.prog qops Q 42 (Jr w0 (listed.setIfInBounds 42 true)) a w := by
  obtain ⟨v34, hv34, fv34, yv34, zv34, rfl⟩ := h.sl 41 (_hd { on := 41, ground := .data } (by simp [qo42]) rfl) 34 rfl
  have hr : (execOp a.eval qo42).run Tryz.prog w = .ok (.enter 117 #[.func fv34 yv34 zv34]) w := run_call_fn rfl rfl rfl (by simp only [List.map_toArray, List.map_cons, List.map_nil, eval_tmp hv34] <;> rfl) (fun w => by kernel_rfl)
  exact wpOp_call (i := 42) (o := qo42) (f := 117) (args := #[.func fv34 yv34 zv34]) rfl rfl hr (cq117 w ⟨_, _, _, rfl⟩) fun v w' hv hb => (h.put (i := 42) (by decide) (by decide) (by decide) rfl (by decide) hv hb)
set_option maxRecDepth 8000 in
theorem st43 (h : Jr w0 listed a w) (_hc : Cl listed) {Q : Exit → Act → World → Prop} (_hi : listed.getD 43 true = false) (_hd : ∀ e ∈ qo43.after, Region.binds .any e = true → listed.getD e.on false = true) : wpOp Tryz.prog qops Q 43 (Jr w0 (listed.setIfInBounds 43 true)) a w := by
  exact wpOp_call (i := 43) (o := qo43) (f := 96) (args := #[.func (.func 97) #[] #[], .func (.func 118) #[] #[], .func (.func 90) #[] #[], .func (.func 95) #[] #[]]) rfl rfl (by kernel_rfl) (cq96 w ⟨_, _, _, rfl⟩ ⟨_, _, _, rfl⟩ ⟨_, _, _, rfl⟩ ⟨_, _, _, rfl⟩) fun v w' hv hb => (h.put (i := 43) (by decide) (by decide) (by decide) rfl (by decide) hv hb)
set_option maxRecDepth 8000 in
theorem st44 (h : Jr w0 listed a w) (_hc : Cl listed) {Q : Exit → Act → World → Prop} (_hi : listed.getD 44 true = false) (_hd : ∀ e ∈ qo44.after, Region.binds .any e = true → listed.getD e.on false = true) : wpOp Tryz.prog qops Q 44 (Jr w0 (listed.setIfInBounds 44 true)) a w := by
  obtain ⟨v36, hv36, fv36, yv36, zv36, rfl⟩ := h.sl 43 (_hd { on := 43, ground := .data } (by simp [qo44]) rfl) 36 rfl
  have hr : (execOp a.eval qo44).run Tryz.prog w = .ok (.enter 117 #[.func fv36 yv36 zv36]) w := run_call_fn rfl rfl rfl (by simp only [List.map_toArray, List.map_cons, List.map_nil, eval_tmp hv36] <;> rfl) (fun w => by kernel_rfl)
  exact wpOp_call (i := 44) (o := qo44) (f := 117) (args := #[.func fv36 yv36 zv36]) rfl rfl hr (cq117 w ⟨_, _, _, rfl⟩) fun v w' hv hb => (h.put (i := 44) (by decide) (by decide) (by decide) rfl (by decide) hv hb)
set_option maxRecDepth 8000 in
theorem st45 (h : Jr w0 listed a w) (_hc : Cl listed) {Q : Exit → Act → World → Prop} (_hi : listed.getD 45 true = false) (_hd : ∀ e ∈ qo45.after, Region.binds .any e = true → listed.getD e.on false = true) : wpOp Tryz.prog qops Q 45 (Jr w0 (listed.setIfInBounds 45 true)) a w := by
  exact wpOp_call (i := 45) (o := qo45) (f := 120) (args := #[.func (.func 121) #[] #[], .func (.func 122) #[] #[]]) rfl rfl (by kernel_rfl) (cq120 w ⟨_, _, _, rfl⟩ ⟨_, _, _, rfl⟩) fun v w' hv hb => (h.put (i := 45) (by decide) (by decide) (by decide) rfl (by decide) hv hb)
set_option maxRecDepth 8000 in
theorem st46 (h : Jr w0 listed a w) (_hc : Cl listed) {Q : Exit → Act → World → Prop} (_hi : listed.getD 46 true = false) (_hd : ∀ e ∈ qo46.after, Region.binds .any e = true → listed.getD e.on false = true) : wpOp Tryz.prog qops Q 46 (Jr w0 (listed.setIfInBounds 46 true)) a w := by
  exact wpOp_call (i := 46) (o := qo46) (f := 123) (args := #[.func (.func 124) #[] #[]]) rfl rfl (by kernel_rfl) (cq123 w ⟨_, _, _, rfl⟩) fun v w' hv hb => (h.put (i := 46) (by decide) (by decide) (by decide) rfl (by decide) hv hb)
set_option maxRecDepth 8000 in
theorem st47 (h : Jr w0 listed a w) (_hc : Cl listed) {Q : Exit → Act → World → Prop} (_hi : listed.getD 47 true = false) (_hd : ∀ e ∈ qo47.after, Region.binds .any e = true → listed.getD e.on false = true) : wpOp Tryz.prog qops Q 47 (Jr w0 (listed.setIfInBounds 47 true)) a w := by
  exact wpOp_call (i := 47) (o := qo47) (f := 123) (args := #[.func (.func 125) #[] #[]]) rfl rfl (by kernel_rfl) (cq123 w ⟨_, _, _, rfl⟩) fun v w' hv hb => (h.put (i := 47) (by decide) (by decide) (by decide) rfl (by decide) hv hb)
set_option maxRecDepth 8000 in
theorem st48 (h : Jr w0 listed a w) (_hc : Cl listed) {Q : Exit → Act → World → Prop} (_hi : listed.getD 48 true = false) (_hd : ∀ e ∈ qo48.after, Region.binds .any e = true → listed.getD e.on false = true) : wpOp Tryz.prog qops Q 48 (Jr w0 (listed.setIfInBounds 48 true)) a w := by
  obtain ⟨v35, hv35, fv35, yv35, zv35, rfl⟩ := h.sl 42 (_hd { on := 42, ground := .data } (by simp [qo48]) rfl) 35 rfl
  obtain ⟨v37, hv37, fv37, yv37, zv37, rfl⟩ := h.sl 44 (_hd { on := 44, ground := .data } (by simp [qo48]) rfl) 37 rfl
  obtain ⟨v38, hv38, fv38, yv38, zv38, rfl⟩ := h.sl 45 (_hd { on := 45, ground := .data } (by simp [qo48]) rfl) 38 rfl
  obtain ⟨v39, hv39, fv39, yv39, zv39, rfl⟩ := h.sl 46 (_hd { on := 46, ground := .data } (by simp [qo48]) rfl) 39 rfl
  obtain ⟨v40, hv40, fv40, yv40, zv40, rfl⟩ := h.sl 47 (_hd { on := 47, ground := .data } (by simp [qo48]) rfl) 40 rfl
  have hr : (execOp a.eval qo48).run Tryz.prog w = .ok (.value (.agg #[.nilFunc, .func fv35 yv35 zv35, .func fv37 yv37 zv37, .func (.func 119) #[] #[], .nilFunc, .func fv38 yv38 zv38, .func fv39 yv39 zv39, .func fv40 yv40 zv40])) w := by
    have hb := run_build w 109 #[(1, .func fv35 yv35 zv35), (2, .func fv37 yv37 zv37), (3, .func (.func 119) #[] #[]), (5, .func fv38 yv38 zv38), (6, .func fv39 yv39 zv39), (7, .func fv40 yv40 zv40)] _ (show Tryz.prog.built 109 [(1, .func fv35 yv35 zv35), (2, .func fv37 yv37 zv37), (3, .func (.func 119) #[] #[]), (5, .func fv38 yv38 zv38), (6, .func fv39 yv39 zv39), (7, .func fv40 yv40 zv40)] = some #[.nilFunc, .func fv35 yv35 zv35, .func fv37 yv37 zv37, .func (.func 119) #[] #[], .nilFunc, .func fv38 yv38 zv38, .func fv39 yv39 zv39, .func fv40 yv40 zv40] by kernel_rfl)
    unfold execOp
    simp only [qo48, Sem.run_bind, List.map_toArray, List.map_cons, List.map_nil, eval_tmp hv35, eval_tmp hv37, eval_tmp hv38, eval_tmp hv39, eval_tmp hv40, show a.eval (.func 119) = .func (.func 119) #[] #[] from rfl,  hb, Result.andThen_ok, Sem.run_pure]
    try rfl
  exact wpOp_val (i := 48) (o := qo48) rfl rfl hr (h.put (i := 48) (by decide) (by decide) (by decide) rfl (by decide) trivial (Below.refl _ _))
set_option maxRecDepth 8000 in
theorem st49 (h : Jr w0 listed a w) (_hc : Cl listed) {Q : Exit → Act → World → Prop} (_hi : listed.getD 49 true = false) (_hd : ∀ e ∈ qo49.after, Region.binds .any e = true → listed.getD e.on false = true) : wpOp Tryz.prog qops Q 49 (Jr w0 (listed.setIfInBounds 49 true)) a w := by
  obtain ⟨g, es, c, h1, h2, h3, h4⟩ := h.mp (_hd { on := 0, ground := .data } (by simp [qo49]) rfl)
  obtain ⟨vk, hk, rfl⟩ := h.sl 40 (_hd { on := 40, ground := .data } (by simp [qo49]) rfl) 33 rfl
  obtain ⟨vv, hv, hp⟩ := h.sl 48 (_hd { on := 48, ground := .data } (by simp [qo49]) rfl) 41 rfl
  exact wpOp_skip (i := 49) (o := qo49) rfl rfl (run_ins rfl (eval_tmp h1) (eval_tmp hk) (eval_tmp hv) h3 (h.fresh _hi (i := 49) rfl h4)) (h.ins (i := 49) rfl (fun q => absurd q (by decide)) (fun q => absurd q (by decide)) rfl (by decide) h1 h2 h3 h4)
set_option maxRecDepth 8000 in
theorem st50 (h : Jr w0 listed a w) (_hc : Cl listed) {Q : Exit → Act → World → Prop} (_hi : listed.getD 50 true = false) (_hd : ∀ e ∈ qo50.after, Region.binds .any e = true → listed.getD e.on false = true) : wpOp Tryz.prog qops Q 50 (Jr w0 (listed.setIfInBounds 50 true)) a w := by
  exact wpOp_val (i := 50) (o := qo50) (v := kA 8 false) rfl rfl (by kernel_rfl) (h.put (i := 50) (by decide) (by decide) (by decide) rfl (by decide) rfl (Below.refl _ _))
set_option maxRecDepth 8000 in
theorem st51 (h : Jr w0 listed a w) (_hc : Cl listed) {Q : Exit → Act → World → Prop} (_hi : listed.getD 51 true = false) (_hd : ∀ e ∈ qo51.after, Region.binds .any e = true → listed.getD e.on false = true) : wpOp Tryz.prog qops Q 51 (Jr w0 (listed.setIfInBounds 51 true)) a w := by
  have hr : (execOp a.eval qo51).run Tryz.prog w = .ok (.value (.agg #[.func (.func 84) #[] #[], .func (.func 126) #[] #[], .func (.func 127) #[] #[], .func (.func 128) #[] #[], .nilFunc, .nilFunc, .nilFunc, .nilFunc])) w := by
    have hb := run_build w 109 #[(0, .func (.func 84) #[] #[]), (1, .func (.func 126) #[] #[]), (2, .func (.func 127) #[] #[]), (3, .func (.func 128) #[] #[])] _ (show Tryz.prog.built 109 [(0, .func (.func 84) #[] #[]), (1, .func (.func 126) #[] #[]), (2, .func (.func 127) #[] #[]), (3, .func (.func 128) #[] #[])] = some #[.func (.func 84) #[] #[], .func (.func 126) #[] #[], .func (.func 127) #[] #[], .func (.func 128) #[] #[], .nilFunc, .nilFunc, .nilFunc, .nilFunc] by kernel_rfl)
    unfold execOp
    simp only [qo51, Sem.run_bind, List.map_toArray, List.map_cons, List.map_nil, show a.eval (.func 84) = .func (.func 84) #[] #[] from rfl, show a.eval (.func 126) = .func (.func 126) #[] #[] from rfl, show a.eval (.func 127) = .func (.func 127) #[] #[] from rfl, show a.eval (.func 128) = .func (.func 128) #[] #[] from rfl,  hb, Result.andThen_ok, Sem.run_pure]
    try rfl
  exact wpOp_val (i := 51) (o := qo51) rfl rfl hr (h.put (i := 51) (by decide) (by decide) (by decide) rfl (by decide) trivial (Below.refl _ _))
set_option maxRecDepth 8000 in
theorem st52 (h : Jr w0 listed a w) (_hc : Cl listed) {Q : Exit → Act → World → Prop} (_hi : listed.getD 52 true = false) (_hd : ∀ e ∈ qo52.after, Region.binds .any e = true → listed.getD e.on false = true) : wpOp Tryz.prog qops Q 52 (Jr w0 (listed.setIfInBounds 52 true)) a w := by
  obtain ⟨g, es, c, h1, h2, h3, h4⟩ := h.mp (_hd { on := 0, ground := .data } (by simp [qo52]) rfl)
  obtain ⟨vk, hk, rfl⟩ := h.sl 50 (_hd { on := 50, ground := .data } (by simp [qo52]) rfl) 42 rfl
  obtain ⟨vv, hv, hp⟩ := h.sl 51 (_hd { on := 51, ground := .data } (by simp [qo52]) rfl) 43 rfl
  exact wpOp_skip (i := 52) (o := qo52) rfl rfl (run_ins rfl (eval_tmp h1) (eval_tmp hk) (eval_tmp hv) h3 (h.fresh _hi (i := 52) rfl h4)) (h.ins (i := 52) rfl (fun q => absurd q (by decide)) (fun q => absurd q (by decide)) rfl (by decide) h1 h2 h3 h4)
set_option maxRecDepth 8000 in
theorem st53 (h : Jr w0 listed a w) (_hc : Cl listed) {Q : Exit → Act → World → Prop} (_hi : listed.getD 53 true = false) (_hd : ∀ e ∈ qo53.after, Region.binds .any e = true → listed.getD e.on false = true) : wpOp Tryz.prog qops Q 53 (Jr w0 (listed.setIfInBounds 53 true)) a w := by
  exact wpOp_val (i := 53) (o := qo53) (v := kA 9 false) rfl rfl (by kernel_rfl) (h.put (i := 53) (by decide) (by decide) (by decide) rfl (by decide) rfl (Below.refl _ _))
set_option maxRecDepth 8000 in
theorem st54 (h : Jr w0 listed a w) (_hc : Cl listed) {Q : Exit → Act → World → Prop} (_hi : listed.getD 54 true = false) (_hd : ∀ e ∈ qo54.after, Region.binds .any e = true → listed.getD e.on false = true) : wpOp Tryz.prog qops Q 54 (Jr w0 (listed.setIfInBounds 54 true)) a w := by
  have hr : (execOp a.eval qo54).run Tryz.prog w = .ok (.value (.agg #[.func (.func 84) #[] #[], .func (.func 129) #[] #[], .nilFunc, .nilFunc, .nilFunc, .nilFunc, .nilFunc, .nilFunc])) w := by
    have hb := run_build w 109 #[(0, .func (.func 84) #[] #[]), (1, .func (.func 129) #[] #[])] _ (show Tryz.prog.built 109 [(0, .func (.func 84) #[] #[]), (1, .func (.func 129) #[] #[])] = some #[.func (.func 84) #[] #[], .func (.func 129) #[] #[], .nilFunc, .nilFunc, .nilFunc, .nilFunc, .nilFunc, .nilFunc] by kernel_rfl)
    unfold execOp
    simp only [qo54, Sem.run_bind, List.map_toArray, List.map_cons, List.map_nil, show a.eval (.func 84) = .func (.func 84) #[] #[] from rfl, show a.eval (.func 129) = .func (.func 129) #[] #[] from rfl,  hb, Result.andThen_ok, Sem.run_pure]
    try rfl
  exact wpOp_val (i := 54) (o := qo54) rfl rfl hr (h.put (i := 54) (by decide) (by decide) (by decide) rfl (by decide) trivial (Below.refl _ _))
set_option maxRecDepth 8000 in
theorem st55 (h : Jr w0 listed a w) (_hc : Cl listed) {Q : Exit → Act → World → Prop} (_hi : listed.getD 55 true = false) (_hd : ∀ e ∈ qo55.after, Region.binds .any e = true → listed.getD e.on false = true) : wpOp Tryz.prog qops Q 55 (Jr w0 (listed.setIfInBounds 55 true)) a w := by
  obtain ⟨g, es, c, h1, h2, h3, h4⟩ := h.mp (_hd { on := 0, ground := .data } (by simp [qo55]) rfl)
  obtain ⟨vk, hk, rfl⟩ := h.sl 53 (_hd { on := 53, ground := .data } (by simp [qo55]) rfl) 44 rfl
  obtain ⟨vv, hv, hp⟩ := h.sl 54 (_hd { on := 54, ground := .data } (by simp [qo55]) rfl) 45 rfl
  exact wpOp_skip (i := 55) (o := qo55) rfl rfl (run_ins rfl (eval_tmp h1) (eval_tmp hk) (eval_tmp hv) h3 (h.fresh _hi (i := 55) rfl h4)) (h.ins (i := 55) rfl (fun q => absurd q (by decide)) (fun q => absurd q (by decide)) rfl (by decide) h1 h2 h3 h4)
set_option maxRecDepth 8000 in
theorem st56 (h : Jr w0 listed a w) (_hc : Cl listed) {Q : Exit → Act → World → Prop} (_hi : listed.getD 56 true = false) (_hd : ∀ e ∈ qo56.after, Region.binds .any e = true → listed.getD e.on false = true) : wpOp Tryz.prog qops Q 56 (Jr w0 (listed.setIfInBounds 56 true)) a w := by
  exact wpOp_val (i := 56) (o := qo56) (v := kA 10 false) rfl rfl (by kernel_rfl) (h.put (i := 56) (by decide) (by decide) (by decide) rfl (by decide) rfl (Below.refl _ _))
set_option maxRecDepth 8000 in
theorem st57 (h : Jr w0 listed a w) (_hc : Cl listed) {Q : Exit → Act → World → Prop} (_hi : listed.getD 57 true = false) (_hd : ∀ e ∈ qo57.after, Region.binds .any e = true → listed.getD e.on false = true) : wpOp Tryz.prog qops Q 57 (Jr w0 (listed.setIfInBounds 57 true)) a w := by
  have hr : (execOp a.eval qo57).run Tryz.prog w = .ok (.value (.agg #[.func (.func 84) #[] #[], .func (.func 130) #[] #[], .nilFunc, .nilFunc, .nilFunc, .nilFunc, .nilFunc, .nilFunc])) w := by
    have hb := run_build w 109 #[(0, .func (.func 84) #[] #[]), (1, .func (.func 130) #[] #[])] _ (show Tryz.prog.built 109 [(0, .func (.func 84) #[] #[]), (1, .func (.func 130) #[] #[])] = some #[.func (.func 84) #[] #[], .func (.func 130) #[] #[], .nilFunc, .nilFunc, .nilFunc, .nilFunc, .nilFunc, .nilFunc] by kernel_rfl)
    unfold execOp
    simp only [qo57, Sem.run_bind, List.map_toArray, List.map_cons, List.map_nil, show a.eval (.func 84) = .func (.func 84) #[] #[] from rfl, show a.eval (.func 130) = .func (.func 130) #[] #[] from rfl,  hb, Result.andThen_ok, Sem.run_pure]
    try rfl
  exact wpOp_val (i := 57) (o := qo57) rfl rfl hr (h.put (i := 57) (by decide) (by decide) (by decide) rfl (by decide) trivial (Below.refl _ _))
set_option maxRecDepth 8000 in
theorem st58 (h : Jr w0 listed a w) (_hc : Cl listed) {Q : Exit → Act → World → Prop} (_hi : listed.getD 58 true = false) (_hd : ∀ e ∈ qo58.after, Region.binds .any e = true → listed.getD e.on false = true) : wpOp Tryz.prog qops Q 58 (Jr w0 (listed.setIfInBounds 58 true)) a w := by
  obtain ⟨g, es, c, h1, h2, h3, h4⟩ := h.mp (_hd { on := 0, ground := .data } (by simp [qo58]) rfl)
  obtain ⟨vk, hk, rfl⟩ := h.sl 56 (_hd { on := 56, ground := .data } (by simp [qo58]) rfl) 46 rfl
  obtain ⟨vv, hv, hp⟩ := h.sl 57 (_hd { on := 57, ground := .data } (by simp [qo58]) rfl) 47 rfl
  exact wpOp_skip (i := 58) (o := qo58) rfl rfl (run_ins rfl (eval_tmp h1) (eval_tmp hk) (eval_tmp hv) h3 (h.fresh _hi (i := 58) rfl h4)) (h.ins (i := 58) rfl (fun q => absurd q (by decide)) (fun q => absurd q (by decide)) rfl (by decide) h1 h2 h3 h4)
set_option maxRecDepth 8000 in
theorem st59 (h : Jr w0 listed a w) (_hc : Cl listed) {Q : Exit → Act → World → Prop} (_hi : listed.getD 59 true = false) (_hd : ∀ e ∈ qo59.after, Region.binds .any e = true → listed.getD e.on false = true) : wpOp Tryz.prog qops Q 59 (Jr w0 (listed.setIfInBounds 59 true)) a w := by
  obtain ⟨g, es, c, h1, h2, h3, h4⟩ := h.mp (dep_of (j := 0) rfl (by decide) _hd)
  exact wpOp_val (i := 59) (o := qo59) (v := .map (some g)) rfl rfl (by unfold execOp; simp [qo59, eval_tmp h1]) (h.mv1 h1 fun hl => ft _hi (dep_of (o := qo60) (j := 59) rfl (by decide) (_hc _ qo60 hl rfl)))
set_option maxRecDepth 8000 in
theorem st60 (h : Jr w0 listed a w) (_hc : Cl listed) {Q : Exit → Act → World → Prop} (_hi : listed.getD 60 true = false) (_hd : ∀ e ∈ qo60.after, Region.binds .any e = true → listed.getD e.on false = true) : wpOp Tryz.prog qops Q 60 (Jr w0 (listed.setIfInBounds 60 true)) a w := by
  obtain ⟨v, hv, _⟩ := h.sl 59 (dep_of (j := 59) rfl (by decide) _hd) 48 rfl
  exact wpOp_val (i := 60) (o := qo60) (v := v) rfl rfl (by unfold execOp; simp [qo60, eval_tmp hv]) (h.mv2 hv)
theorem st_all (h : Jr w0 listed a w) (hc : Cl listed) {Q : Exit → Act → World → Prop} : ∀ i, i < 61 → listed.getD i true = false → (∀ o, qops[i]? = some o → ∀ e ∈ o.after, Region.binds .any e = true → listed.getD e.on false = true) → wpOp Tryz.prog qops Q i (Jr w0 (listed.setIfInBounds i true)) a w
  | 0, _, hi, hd => st0 h hc hi (hd qo0 rfl)
  | 1, _, hi, hd => st1 h hc hi (hd qo1 rfl)
  | 2, _, hi, hd => st2 h hc hi (hd qo2 rfl)
  | 3, _, hi, hd => st3 h hc hi (hd qo3 rfl)
  | 4, _, hi, hd => st4 h hc hi (hd qo4 rfl)
  | 5, _, hi, hd => st5 h hc hi (hd qo5 rfl)
  | 6, _, hi, hd => st6 h hc hi (hd qo6 rfl)
  | 7, _, hi, hd => st7 h hc hi (hd qo7 rfl)
  | 8, _, hi, hd => st8 h hc hi (hd qo8 rfl)
  | 9, _, hi, hd => st9 h hc hi (hd qo9 rfl)
  | 10, _, hi, hd => st10 h hc hi (hd qo10 rfl)
  | 11, _, hi, hd => st11 h hc hi (hd qo11 rfl)
  | 12, _, hi, hd => st12 h hc hi (hd qo12 rfl)
  | 13, _, hi, hd => st13 h hc hi (hd qo13 rfl)
  | 14, _, hi, hd => st14 h hc hi (hd qo14 rfl)
  | 15, _, hi, hd => st15 h hc hi (hd qo15 rfl)
  | 16, _, hi, hd => st16 h hc hi (hd qo16 rfl)
  | 17, _, hi, hd => st17 h hc hi (hd qo17 rfl)
  | 18, _, hi, hd => st18 h hc hi (hd qo18 rfl)
  | 19, _, hi, hd => st19 h hc hi (hd qo19 rfl)
  | 20, _, hi, hd => st20 h hc hi (hd qo20 rfl)
  | 21, _, hi, hd => st21 h hc hi (hd qo21 rfl)
  | 22, _, hi, hd => st22 h hc hi (hd qo22 rfl)
  | 23, _, hi, hd => st23 h hc hi (hd qo23 rfl)
  | 24, _, hi, hd => st24 h hc hi (hd qo24 rfl)
  | 25, _, hi, hd => st25 h hc hi (hd qo25 rfl)
  | 26, _, hi, hd => st26 h hc hi (hd qo26 rfl)
  | 27, _, hi, hd => st27 h hc hi (hd qo27 rfl)
  | 28, _, hi, hd => st28 h hc hi (hd qo28 rfl)
  | 29, _, hi, hd => st29 h hc hi (hd qo29 rfl)
  | 30, _, hi, hd => st30 h hc hi (hd qo30 rfl)
  | 31, _, hi, hd => st31 h hc hi (hd qo31 rfl)
  | 32, _, hi, hd => st32 h hc hi (hd qo32 rfl)
  | 33, _, hi, hd => st33 h hc hi (hd qo33 rfl)
  | 34, _, hi, hd => st34 h hc hi (hd qo34 rfl)
  | 35, _, hi, hd => st35 h hc hi (hd qo35 rfl)
  | 36, _, hi, hd => st36 h hc hi (hd qo36 rfl)
  | 37, _, hi, hd => st37 h hc hi (hd qo37 rfl)
  | 38, _, hi, hd => st38 h hc hi (hd qo38 rfl)
  | 39, _, hi, hd => st39 h hc hi (hd qo39 rfl)
  | 40, _, hi, hd => st40 h hc hi (hd qo40 rfl)
  | 41, _, hi, hd => st41 h hc hi (hd qo41 rfl)
  | 42, _, hi, hd => st42 h hc hi (hd qo42 rfl)
  | 43, _, hi, hd => st43 h hc hi (hd qo43 rfl)
  | 44, _, hi, hd => st44 h hc hi (hd qo44 rfl)
  | 45, _, hi, hd => st45 h hc hi (hd qo45 rfl)
  | 46, _, hi, hd => st46 h hc hi (hd qo46 rfl)
  | 47, _, hi, hd => st47 h hc hi (hd qo47 rfl)
  | 48, _, hi, hd => st48 h hc hi (hd qo48 rfl)
  | 49, _, hi, hd => st49 h hc hi (hd qo49 rfl)
  | 50, _, hi, hd => st50 h hc hi (hd qo50 rfl)
  | 51, _, hi, hd => st51 h hc hi (hd qo51 rfl)
  | 52, _, hi, hd => st52 h hc hi (hd qo52 rfl)
  | 53, _, hi, hd => st53 h hc hi (hd qo53 rfl)
  | 54, _, hi, hd => st54 h hc hi (hd qo54 rfl)
  | 55, _, hi, hd => st55 h hc hi (hd qo55 rfl)
  | 56, _, hi, hd => st56 h hc hi (hd qo56 rfl)
  | 57, _, hi, hd => st57 h hc hi (hd qo57 rfl)
  | 58, _, hi, hd => st58 h hc hi (hd qo58 rfl)
  | 59, _, hi, hd => st59 h hc hi (hd qo59 rfl)
  | 60, _, hi, hd => st60 h hc hi (hd qo60 rfl)
  | i + 61, hi, _, _ => absurd hi (by omega)
theorem Cl.set (h : Cl listed) {i : Nat} (hd : ∀ o, qops[i]? = some o → ∀ e ∈ o.after, Region.binds .any e = true → listed.getD e.on false = true) : Cl (listed.setIfInBounds i true) := fun j o hj ho e he hb => by
  rcases getD_set _ _ _ hj with q | q
  · subst q
    exact getD_le _ _ _ (hd o ho e he hb)
  · exact getD_le _ _ _ (h j o q ho e he hb)
set_option maxRecDepth 8000 in
theorem getD_rep {n i : Nat} : (Array.replicate n false).getD i false = false := by
  rw [Array.getD_eq_getD_getElem?, Array.getElem?_replicate]
  split <;> rfl
set_option maxRecDepth 8000 in
/-- the region, whatever order it draws -/
theorem region_rows {Q : Exit → Act → World → Prop} {id : Nat} {a : Act} {w : World} (ha : a.tmps.size = 49) (hdf : a.defers = []) (hQ : ∀ a' w' g es c l, a'.tmps[0]? = some (.map (some g)) → a'.tmps.size = 49 → a'.defers = [] → w.heap.size ≤ g → w'.heap[g]? = some (.map es c) → RowsOf l es → l.getD 3 false = true → Below w.heap.size w w' → Q .normal a' w') : (Code.region id qops true).wp Tryz.prog Q a w := by
  refine wp_region_any (by kernel_rfl) (wpAny_inv (fun l a w' => Jr w l a w' ∧ Cl l) ?_ ?_ _ _ _ _ (by simp [qops]) ⟨⟨by simp [qops], ha, hdf, ⟨rfl, rfl, rfl, Nat.le_refl _, fun _ _ => rfl⟩, ?_, ?_, ?_, ?_⟩, ?_⟩)
  · rintro l a w' i ⟨h, hc⟩ hr
    obtain ⟨hi, o, ho, hd⟩ := mem_ready.1 hr
    have hin : i < 61 := (Array.getElem?_eq_some_iff.1 ho).1
    have hd' : ∀ o, qops[i]? = some o → ∀ e ∈ o.after, Region.binds .any e = true → l.getD e.on false = true := fun o' ho' => by
      rw [ho] at ho'
      injection ho' with ho'
      exact ho' ▸ hd
    exact wpOp_mono (fun a' w'' h' => ⟨h', hc.set hd'⟩) (st_all h hc i hin hi hd')
  · rintro l a w' ⟨h, hc⟩ hr
    have hall := all_listed qback hr (by rw [h.sz]; rfl)
    obtain ⟨g, es, c, h1, h2, h3, h4⟩ := h.mp (hall 0 (by decide))
    refine hQ a w' g es c l ?_ h.ta h.df h2 h3 h4 (hall 3 (by decide)) h.bel
    rw [h.e2 (hall 60 (by decide)), h.e1 (hall 59 (by decide)), h1]
  · intro i hi
    rw [getD_rep] at hi
    cases hi
  · intro hi
    rw [getD_rep] at hi
    cases hi
  · intro hi
    rw [getD_rep] at hi
    cases hi
  · intro hi
    rw [getD_rep] at hi
    cases hi
  · intro i o hi
    rw [getD_rep] at hi
    cases hi
set_option maxRecDepth 8000 in
/-- the map of rows is made; what a number's key does stands in it -/
theorem rows_any (w : World) : Calls Tryz.prog 56 #[] w fun e w' => ∃ g es c l, e = .returned (.map (some g)) ∧ w.heap.size ≤ g ∧ w'.heap[g]? = some (.map es c) ∧ RowsOf l es ∧ l.getD 3 false = true ∧ Below w.heap.size w w' := by
  go_enter Tryz.func56, Tryz.ntmps56
  go_wp2_with fail
  refine region_rows (by rfl) rfl ?_
  rintro ⟨ts, df⟩ w' g es c l h0 hs hd hg hw hR h3 hB
  cases hd
  have e0 : ts.getD 0 undef = .map (some g) := by
    rw [Array.getD_eq_getD_getElem?, show ts[0]? = some (.map (some g)) from h0]
    rfl
  go_wp2_with fail
  go_ret
  rw [show (Act.tmps ⟨ts, []⟩) = ts from rfl, e0]
  exact ⟨g, rfl, hg, es, ⟨c, hw⟩, l, hR, by simpa [Array.getD_eq_getD_getElem?] using h3, hB⟩
end Go.Proofs.YtogkdhpnbpgheaaGreatDoor
