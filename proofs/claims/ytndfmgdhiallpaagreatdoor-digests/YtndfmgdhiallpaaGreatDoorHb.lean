/- The digest: the document's own walks. -/
import Derived.Test.YtndfmgdhiallpaaGreatDoorChecked
import Derived.Test.YtndfmgdhiallpaaGreatDoorHa
import Derived.Deep.QuietTactic
import Derived.BigQuiet
namespace Go.Proofs.YtndfmgdhiallpaaGreatDoor
open Go.RowKit

set_option maxHeartbeats 400000 in
theorem turned_any (v n : Nat) (hv : v < 4294967296) (h1 : 1 ≤ n) (h2 : n ≤ 31) (w : World) :
    Calls Tryz.prog 283 #[.int .i64 v, .int .i64 n] w fun e w' => e = .returned (.int .i64 (rotr v n)) ∧ ∃ m, w' = w.drewN m := by
  go_enter Tryz.func283, Tryz.ntmps283
  go_wp2_with fail
  go_quiet (fail)
  go_wp2
  go_ret
  exact ⟨ret1_eq (show Value.int .i64 (bits BinOp.or IntKind.i64 ((v : Int) / 2 ^ n) ((wrap64 ((v : Int) * 2 ^ (32 - n))).tmod 4294967296)) = _ by rw [turned_eq hv h1]), _, rfl⟩

set_option maxHeartbeats 400000 in
theorem byte4_any (s : ByteArray) (w : World) (h : s.size = 4) :
    Calls Tryz.prog 282 #[.string s] w fun e w' => e = .returned (.int .i64 ((s[0]'(by omega)).toNat * 16777216 + (s[1]'(by omega)).toNat * 65536 + (s[2]'(by omega)).toNat * 256 + (s[3]'(by omega)).toNat)) ∧ ∃ m, w' = w.drewN m := by
  have h0 : (0 : Int) < (s.size : Int) := by omega
  have h0n : 0 < s.size := by omega
  have h1 : (1 : Int) < (s.size : Int) := by omega
  have h2 : (2 : Int) < (s.size : Int) := by omega
  have h3 : (3 : Int) < (s.size : Int) := by omega
  have b0 := byte_lt (s[0]'(by omega))
  have b1 := byte_lt (s[1]'(by omega))
  have b2 := byte_lt (s[2]'(by omega))
  have b3 := byte_lt (s[3]'(by omega))
  go_enter Tryz.func282, Tryz.ntmps282
  go_wp2_with fail
  go_quiet (fail)
  go_wp2
  go_ret
  exact ⟨rfl, _, rfl⟩

theorem conv4 (w : World) (n : Nat) : (convert 62 9 (.slice (some ⟨w.heap.size, 0, none⟩) 4 4)).run Tryz.prog
    (w.alloc (.cells #[.int .u8 ((n : Int) / 16777216 % 256), .int .u8 ((n : Int) / 65536 % 256), .int .u8 ((n : Int) / 256 % 256), .int .u8 ((n : Int) % 256)] 5)) =
    .ok (.string ⟨(be4 n).toArray⟩) (w.alloc (.cells #[.int .u8 ((n : Int) / 16777216 % 256), .int .u8 ((n : Int) / 65536 % 256), .int .u8 ((n : Int) / 256 % 256), .int .u8 ((n : Int) % 256)] 5)) := by
  refine run_bytes_string (P := Tryz.prog) _ 62 9 5 ⟨w.heap.size, 0, none⟩ 4 (be4 n) Tryz.underlying62 Tryz.underlying5 Tryz.underlying9 ?_
  intro j v hv
  rw [Addr.add_lit, Nat.zero_add, cell_of_row _ _ j _ 5 (0, 0) (Go.heap_alloc_new w _)]
  rw [← hv]
  simp only [byteCells8, be4, List.map_cons, List.map_nil]
  rw [b8_toNat (by omega), b8_toNat (by omega), b8_toNat (by omega), b8_toNat (by omega)]
  rw [show (n : Int) / 16777216 % 256 = ((n / 16777216 % 256 : Nat) : Int) by omega, show (n : Int) / 65536 % 256 = ((n / 65536 % 256 : Nat) : Int) by omega, show (n : Int) / 256 % 256 = ((n / 256 % 256 : Nat) : Int) by omega, show (n : Int) % 256 = ((n % 256 : Nat) : Int) by omega]
  rw [List.getElem?_toArray]

set_option maxRecDepth 100000 in
set_option maxHeartbeats 400000 in
theorem highest_any (n : Nat) (w : World) (h : n < 9223372036854775808) :
    Calls Tryz.prog 187 #[.int .i64 n] w fun e w' => e = .returned (.string ⟨(be4 n).toArray⟩) ∧ ∃ o, w' = w.alloc o := by
  have hcv := conv4 w n
  go_enter Tryz.func187, Tryz.ntmps187
  go_wp2
  go_ret
  exact ⟨rfl, _, rfl⟩
end Go.Proofs.YtndfmgdhiallpaaGreatDoor
