import Derived.Test.YtndfmgdhiallpaaDp
namespace Go.Proofs.Ytndfmgdhiallpaa
open Go.RowKit
def sA : ByteArray := ⟨#[97]⟩
def sAB : ByteArray := ⟨#[97, 47, 98]⟩
def sXYZ : ByteArray := ⟨#[120, 121, 122]⟩
def s0 : ByteArray := ⟨#[]⟩
def sQR : ByteArray := ⟨#[113, 47, 114]⟩
def sC : ByteArray := ⟨#[99]⟩
def sCB : ByteArray := ⟨#[99, 47, 98]⟩
def sB : ByteArray := ⟨#[98]⟩
def sX : ByteArray := ⟨#[120]⟩
def sFour : ByteArray := ⟨#[102, 111, 117, 114]⟩
def sABC : ByteArray := ⟨#[97, 98, 99]⟩
def D0 : Dsk := ⟨[], -1, -1, 0, false⟩
def D1 : Dsk := ⟨[⟨sA, true, s0⟩], -1, -1, 1, false⟩
def D2 : Dsk := ⟨[⟨sA, true, s0⟩, ⟨sAB, false, sXYZ⟩], -1, -1, 2, false⟩
def D3 : Dsk := ⟨[⟨sA, true, s0⟩, ⟨sAB, false, sXYZ⟩], -1, -1, 3, false⟩
def D4 : Dsk := ⟨[⟨sA, true, s0⟩, ⟨sAB, false, sXYZ⟩], -1, -1, 4, false⟩
def D5 : Dsk := ⟨[⟨sC, true, s0⟩, ⟨sCB, false, sXYZ⟩], -1, -1, 5, false⟩
def D6 : Dsk := ⟨[⟨sC, true, s0⟩, ⟨sCB, false, sXYZ⟩], -1, -1, 6, false⟩
theorem e1 : mkdirOf D0 sA = (0, D1) := by kernel_rfl
theorem e2 : writeOf D1 sAB sXYZ = (0, D2) := by kernel_rfl
theorem e3 : writeOf D2 sAB s0 = (2, D3) := by kernel_rfl
theorem e4 : mkdirOf D3 sQR = (1, D4) := by kernel_rfl
theorem e5 : renameOf D4 sA sC = (0, D5) := by kernel_rfl
theorem e6 : removeOf D5 sC = (2, D6) := by kernel_rfl
def D7 : Dsk := ⟨[⟨sC, true, s0⟩, ⟨sCB, false, sXYZ⟩], 3, -1, 6, false⟩
def D8 : Dsk := ⟨[⟨sC, true, s0⟩, ⟨sCB, false, sXYZ⟩], 3, -1, 7, false⟩
def D9 : Dsk := ⟨[⟨sC, true, s0⟩, ⟨sCB, false, sXYZ⟩, ⟨sX, false, sABC⟩], 0, -1, 8, false⟩
def D10 : Dsk := ⟨[⟨sC, true, s0⟩, ⟨sCB, false, sXYZ⟩, ⟨sX, false, sABC⟩], 0, 1, 8, false⟩
def D11 : Dsk := ⟨[⟨sC, true, s0⟩, ⟨sCB, false, sXYZ⟩], 3, 0, 9, false⟩
def D12 : Dsk := ⟨[⟨sC, true, s0⟩, ⟨sCB, false, sXYZ⟩], 3, 0, 10, true⟩
def H0 : Dsk := ⟨[⟨sC, true, s0⟩, ⟨sCB, false, sXYZ⟩], -1, -1, 0, false⟩
def H1 : Dsk := ⟨[⟨sC, true, s0⟩], -1, -1, 1, false⟩
theorem e8 : writeOf D7 sX sFour = (3, D8) := by kernel_rfl
theorem e9 : writeOf D8 sX sABC = (0, D9) := by kernel_rfl
theorem e11 : removeOf D10 sX = (0, D11) := by kernel_rfl
theorem e12 : removeOf D11 sCB = (4, D12) := by kernel_rfl
theorem eh : removeOf H0 sCB = (0, H1) := by kernel_rfl
theorem er : readOf D5.ts sCB = sXYZ := by kernel_rfl
theorem ef : isFile D5.ts sCB = true := by kernel_rfl
theorem en : namesL D5.ts sC = [sB] := by kernel_rfl
theorem eo : okN D5.ts sC = true := by kernel_rfl
theorem i1 : isOf D6.ts sA = 0 := by kernel_rfl
theorem i2 : isOf D6.ts sC = 2 := by kernel_rfl
theorem i3 : isOf D6.ts sCB = 1 := by kernel_rfl
theorem i4 : isOf D12.ts sCB = 1 := by kernel_rfl
end Go.Proofs.Ytndfmgdhiallpaa
