import Derived.Test.YtndfmgdhiallpaaGreatDoorMd
namespace Go.Proofs.YtndfmgdhiallpaaGreatDoor
open Go.RowKit
abbrev nilS : Value := .slice none 0 0
theorem Only.oldW {S : Nat → Prop} {w w' : World} (h : Old w w') : Only S w w' := h.mono (fun _ _ x => x.elim)
def opV (k a c : Int) (s t : ByteArray) (tr fi : Value) : Array Value := #[.int .i64 k, .int .i64 a, .int .i64 c, .string s, .string t, tr, fi]
end Go.Proofs.YtndfmgdhiallpaaGreatDoor
namespace Go.Proofs.YtndfmgdhiallpaaGreatDoor
open Go.RowKit
def firstArr (x y : Value) : Array Value := #[.int .i64 1, .int .i64 0, .int .i64 0, .string ⟨#[109, 46, 120, 47, 121]⟩, .string ⟨#[118, 49, 46, 50, 46, 51]⟩, nilS, nilS, .int .i64 2, .int .i64 0, .int .i64 0, .string ⟨#[97, 98, 99]⟩, .string ⟨#[]⟩, nilS, nilS, .int .i64 3, .int .i64 0, .int .i64 0, .string ⟨#[1, 2, 0, 253, 255, 72, 105]⟩, .string ⟨#[]⟩, nilS, nilS, .int .i64 4, .int .i64 0, .int .i64 0, .string ⟨#[72, 105]⟩, .string ⟨#[]⟩, nilS, nilS, .int .i64 5, .int .i64 0, .int .i64 0, .string ⟨#[]⟩, .string ⟨#[]⟩, x, nilS, .int .i64 6, .int .i64 0, .int .i64 0, .string ⟨#[]⟩, .string ⟨#[]⟩, x, nilS, .int .i64 7, .int .i64 0, .int .i64 0, .string ⟨#[]⟩, .string ⟨#[]⟩, nilS, nilS, .int .i64 10, .int .i64 0, .int .i64 0, .string ⟨#[]⟩, .string ⟨#[]⟩, nilS, y, .int .i64 11, .int .i64 0, .int .i64 0, .string ⟨#[]⟩, .string ⟨#[]⟩, nilS, nilS, .int .i64 13, .int .i64 0, .int .i64 0, .string ⟨#[112]⟩, .string ⟨#[]⟩, nilS, nilS, .int .i64 14, .int .i64 0, .int .i64 0, .string ⟨#[112]⟩, .string ⟨#[]⟩, nilS, nilS]
theorem seven {P : Nat → Prop} (h0 : P 0) (h1 : P 1) (h2 : P 2) (h3 : P 3) (h4 : P 4) (h5 : P 5) (h6 : P 6) : ∀ j, j < 7 → P j := by
 intro j hj
 match j, hj with
 | 0, _ => exact h0
 | 1, _ => exact h1
 | 2, _ => exact h2
 | 3, _ => exact h3
 | 4, _ => exact h4
 | 5, _ => exact h5
 | 6, _ => exact h6
theorem at_new {w : World} {o : Obj} {g : Nat} (hg : g = w.heap.size) : (w.alloc o).heap[g]? = some o := by subst hg; exact Go.heap_alloc_new w o
theorem at_keep {w : World} {o o' : Obj} {g : Nat} (h : w.heap[g]? = some o) : (w.alloc o').heap[g]? = some o := old_heap ((Only.refl _ w).alloc o') h
theorem wp_world {P : Program} {c : Code} {Q : Exit → Act → World → Prop} {a : Act} {W : World} (R : World → Prop) (hR : R W) (h : ∀ W', R W' → c.wp P Q a W') : c.wp P Q a W := h W hR
theorem new_any (w : World) : Calls Tryz.prog 33 #[] w fun e w' => e = .returned (.pointer (some ⟨w.heap.size, 0, none⟩)) ∧ w' = w.alloc (.cells #[nilS, .int .i64 (-1), .int .i64 (-1), .int .i64 0, .bool false] 92) := by
 go_enter Tryz.func33, Tryz.ntmps33
 go_wp2
 go_ret
 exact ⟨rfl, rfl⟩
end Go.Proofs.YtndfmgdhiallpaaGreatDoor
