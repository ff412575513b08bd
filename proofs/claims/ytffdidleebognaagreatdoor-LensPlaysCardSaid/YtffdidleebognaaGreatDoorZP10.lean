/- Contracts of wrong and of the comparisons. -/
import Derived.Deep.RegionHeld3
import Derived.Test.YtffdidleebognaaGreatDoorZP08
import Derived.Test.YtffdidleebognaaGreatDoorZP09
namespace Go.Proofs.YtffdidleebognaaGreatDoor
open Go Go.RowKit Lens
def encSeen (s : Lens.Seen) : Nat → Value
  | 0 => .int .i64 s.tanks | 1 => .int .i64 s.lens | _ => .int .i64 s.lack
abbrev SeensAt := AtN 3 encSeen
theorem seensGet {w : World} {B : Nat} {a : Option Addr} {n : Nat} {f : Nat → Lens.Seen} (h : SeensAt w B a n f) {k : Nat} (hk : k < n) :
    ∃ b off, a = some ⟨b, off, none⟩ ∧ b < B ∧ w.cell? ⟨b, off + k * 3, none⟩ = some (.int .i64 (f k).tanks) ∧ w.cell? ⟨b, off + k * 3 + 1, none⟩ = some (.int .i64 (f k).lens) ∧ w.cell? ⟨b, off + k * 3 + 2, none⟩ = some (.int .i64 (f k).lack) := by
  obtain ⟨b, off, rfl, hlt, hc⟩ := h (by omega)
  exact ⟨b, off, rfl, hlt, hc k hk 0 (by decide), hc k hk 1 (by decide), hc k hk 2 (by decide)⟩
end Go.Proofs.YtffdidleebognaaGreatDoor
