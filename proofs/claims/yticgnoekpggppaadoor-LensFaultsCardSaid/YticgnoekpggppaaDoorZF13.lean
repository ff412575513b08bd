/- What is needed to reckon calls of this program. -/
import Derived.Test.YticgnoekpggppaaDoorZF05
import Derived.Test.YticgnoekpggppaaDoorProg
namespace Go.CE
open Go Go.RowKit Go.Proofs
def inN (n : Int) : Value := .int .i64 n
def goFns (g : FuncId) : Bool := Nat.ble 3 g && Nat.blt g 101
theorem goFns_ok : ∀ g, goFns g = true → okFn Tryd.prog g = true := by
  have h : (List.range 101).all (fun g => !(Nat.ble 3 g) || okFn Tryd.prog g) = true := by decide +kernel
  intro g hg
  simp only [goFns, Bool.and_eq_true] at hg
  have h1 : g < 101 := Nat.le_of_ble_eq_true hg.2
  have := List.all_eq_true.1 h g (List.mem_range.2 h1)
  rw [hg.1] at this
  simpa using this
theorem mixed_ok : Tryd.prog.follows .mixedOrders = true := by decide +kernel
end Go.CE
