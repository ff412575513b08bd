/- Aids for runs of layer 1: readings of arguments' memory. -/
import Derived.Test.YtffdidleebognaaDoorZR06
import Derived.Test.YtffdidleebognaaDoorZR08
import Derived.Test.YtffdidleebognaaDoorZR11
namespace Go.Proofs.YtffdidleebognaaDoor
open Go Go.CE Go.RowKit Lens
theorem atN_lo {α : Type} {sz : Nat} {enc : α → Nat → Value} {w w' : World} {a : Option Addr} {n : Nat} {f : Nat → α} (h : AtN sz enc w w.heap.size a n f) (hw : (worldLo w).has w') : AtN sz enc w' w'.heap.size a n f := by
  intro hn
  obtain ⟨b, off, rfl, hlt, hc⟩ := h hn
  exact ⟨b, off, rfl, Nat.lt_of_lt_of_le hlt hw.le, fun k hk j hj => (worldLo_cell hw hlt).trans (hc k hk j hj)⟩
theorem islAt_lo {w w' : World} {i : Isl} {wa ma : Option Addr} (h : IslAt w w.heap.size i wa ma) (hw : (worldLo w).has w') : IslAt w' w'.heap.size i wa ma := ⟨h.nw, h.nm, atN_lo h.wells hw, atN_lo h.months hw⟩
/-- An islet's value, and a truth's, as runs have them. -/
def islC (i : Isl) (W M : Value) : Array Value := #[.int .i64 i.cap, .int .i64 i.sl, .int .i64 i.sh, .int .i64 i.roof, .int .i64 i.sand, .int .i64 i.kl, .int .i64 i.kh, .int .i64 i.ll, .int .i64 i.lh, .int .i64 i.pump, .int .i64 i.keep, .int .i64 i.size, W, M, .int .i64 i.most, .int .i64 i.row]
theorem vr_isl {μ : Mu} (i : Isl) (wa : Option Addr) (wc : Nat) (ma : Option Addr) (mc : Nat) : VR μ (.agg (islC i (rawS wa i.nw wc) (rawS ma i.nm mc))) (islV i wa wc ma mc) :=
  vr_aggl (.cons (.int _ _) (.cons (.int _ _) (.cons (.int _ _) (.cons (.int _ _) (.cons (.int _ _) (.cons (.int _ _) (.cons (.int _ _) (.cons (.int _ _) (.cons (.int _ _) (.cons (.int _ _) (.cons (.int _ _) (.cons (.int _ _) (.cons (vr_rawS _ _ _ _) (.cons (vr_rawS _ _ _ _) (.cons (.int _ _) (.cons (.int _ _) .nil))))))))))))))))
theorem exact_isl (i : Isl) (wa : Option Addr) (wc : Nat) (ma : Option Addr) (mc : Nat) : Exact (.agg (islC i (rawS wa i.nw wc) (rawS ma i.nm mc))) (islV i wa wc ma mc) :=
  exact_agg (.cons (exact_af rfl) (.cons (exact_af rfl) (.cons (exact_af rfl) (.cons (exact_af rfl) (.cons (exact_af rfl) (.cons (exact_af rfl) (.cons (exact_af rfl) (.cons (exact_af rfl) (.cons (exact_af rfl) (.cons (exact_af rfl) (.cons (exact_af rfl) (.cons (exact_af rfl) (.cons (exact_rawS _ _ _) (.cons (exact_rawS _ _ _) (.cons (exact_af rfl) (.cons (exact_af rfl) .nil))))))))))))))))
theorem loose_isl (i : Isl) (wa : Option Addr) (wc : Nat) (ma : Option Addr) (mc : Nat) : ∀ v ∈ islC i (rawS wa i.nw wc) (rawS ma i.nm mc), Loose v := loose_cells (by simp [loose_int, loose_rawS])
end Go.Proofs.YtffdidleebognaaDoor
