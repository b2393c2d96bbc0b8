import Derived.Test.YtndfmgdhiallpaaGreatDoorJa
import Derived.Test.YtndfmgdhiallpaaGreatDoorMr
import Derived.Test.YtndfmgdhiallpaaGreatDoorMp
import Derived.Test.YtndfmgdhiallpaaGreatDoorMc
import Derived.Maps.RangeWalk
import Derived.Deep.AppendLies
namespace Go.Proofs.YtndfmgdhiallpaaGreatDoor
open Go.RowKit
end Go.Proofs.YtndfmgdhiallpaaGreatDoor
namespace Go.Proofs.YtndfmgdhiallpaaGreatDoor
open Go.RowKit Go.Maps
theorem infoS9 : (Tryz.prog.info? 9).map (fun i => (i.zero, i.size, i.bytes)) = some (some (.string ⟨#[]⟩), 1, 16) := by kernel_rfl
theorem new_cells (wr : World) (news : List Value) (e : TypeId) : ∀ j u, news[j]? = some u → (wr.alloc (.cells news.toArray e)).cell? ((⟨wr.heap.size, 0, none⟩ : Addr).add j) = some u := by
 intro j u hu
 rw [Addr.add_lit, Nat.zero_add, cell_of_row _ _ j _ e (0, 0) (Go.heap_alloc_new wr _)]
 simpa using hu
abbrev metT : TypeId := 120
abbrev spT : TypeId := 277
theorem zeroSp (w : World) : (zeroValue spT).run Tryz.prog w = .ok (.agg #[.string ⟨#[]⟩, .bool false]) w := by kernel_rfl
end Go.Proofs.YtndfmgdhiallpaaGreatDoor
