/- What is needed to reckon calls of this program. -/
import Derived.Test.YtffdidleebognaaDoorZR05
import Derived.Test.YtffdidleebognaaDoorProg
namespace Go.CE
open Go Go.RowKit Go.Proofs
def inN (n : Int) : Value := .int .i64 n
def goFns (g : FuncId) : Bool := Nat.ble 3 g && (Nat.blt g 98 && !([94,95] : List Nat).any (Nat.beq g))
theorem goFns_ok : ∀ g, goFns g = true → okFn Tryd.prog g = true := by
  have h : (List.range 98).all (fun g => !(goFns g) || okFn Tryd.prog g) = true := by decide +kernel
  intro g hg
  have hg' := hg
  simp only [goFns, Bool.and_eq_true] at hg
  have h1 : g < 98 := Nat.le_of_ble_eq_true hg.2.1
  have := List.all_eq_true.1 h g (List.mem_range.2 h1)
  rw [hg'] at this
  simpa using this
theorem mixed_ok : Tryd.prog.follows .mixedOrders = true := by decide +kernel
end Go.CE
