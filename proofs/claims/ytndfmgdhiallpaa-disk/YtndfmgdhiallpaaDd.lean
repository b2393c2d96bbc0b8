/- Contracts of package disk: within. -/
import Derived.Test.YtndfmgdhiallpaaDc
namespace Go.Proofs.Ytndfmgdhiallpaa
open Go.RowKit

def withinB (p u : ByteArray) : Bool :=
  (p.toList == u.toList) || (if h : u.size < p.size then ((p.extract 0 u.size).toList == u.toList) && ((((p[u.size]'h).toNat : Int)) == 47) else false)

set_option maxHeartbeats 400000 in
theorem within_any (p u : ByteArray) (w : World) (hs : u.size ≤ 1000000000000) :
    Calls Try.prog 20 #[.string p, .string u] w fun e w' => e = .returned (.bool (withinB p u)) ∧ w' = w := by
  unfold withinB
  by_cases h : u.size < p.size
  · rw [dif_pos h]
    cases h1 : (p.toList == u.toList) <;> cases h2 : ((p.extract 0 u.size).toList == u.toList)
    all_goals
      go_enter Try.func20, Try.ntmps20
      go_wp2
      go_ret
      exact ⟨ret1_eq (by simp), rfl⟩
  · rw [dif_neg h]
    cases h1 : (p.toList == u.toList)
    all_goals
      go_enter Try.func20, Try.ntmps20
      go_wp2
      go_ret
      exact ⟨ret1_eq (by simp), rfl⟩

set_option maxHeartbeats 400000 in
theorem new_any (w : World) : Calls Try.prog 4 #[] w fun e w' => e = .returned (.pointer (some ⟨w.heap.size, 0, none⟩)) ∧ w' = w.alloc (.cells #[.slice none 0 0, .int .i64 (-1), .int .i64 (-1), .int .i64 0, .bool false] 38) := by
  go_enter Try.func4, Try.ntmps4
  go_wp2
  go_ret
  exact ⟨rfl, rfl⟩
end Go.Proofs.Ytndfmgdhiallpaa
