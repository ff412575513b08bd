/- ShipOpen: whatever the input, it returns true, and each argument reads as it did. The row, from the walk. -/
import Derived.Test.YtiabgkiccaodmaaGreatZOP11
import Derived.Test.YtiabgkiccaodmaaGreatZOP13
import Derived.JoinedOf
import Derived.Test.YtiabgkiccaodmaaGreatRows
set_option linter.all false
namespace Go.Proofs.YtiabgkiccaodmaaGreat
open Go Go.CE Go.RowKit
theorem open_all : ∀ trs, ArgAll [shPass, shCall, .int, shCall] trs → PureC Tryz.prog J0 4 trs.toArray (.bool true) := by
 rintro trs ⟨t0, _, rfl, h0, t1, _, rfl, h1, t2, _, rfl, h2, t3, _, rfl, h3, rfl⟩
 obtain ⟨p, rfl⟩ := arg_pass h0
 obtain ⟨a, b, rfl⟩ := arg_span h1
 obtain ⟨z, rfl⟩ := arg_int h2
 obtain ⟨c, d, rfl⟩ := arg_span h3
 exact wOpen p a b z c d
end Go.Proofs.YtiabgkiccaodmaaGreat

namespace Go.Proofs.YtiabgkiccaodmaaGreat
open Go Go.CE Go.ChangeShapes Go.WideShapes Go.RowKit
set_option maxRecDepth 100000 in
theorem shipOpen_lifted (os : Os) (started : os.Started) (H : Type) (enc : TypeId × Value → H) :
 ReturnsInHanded {} Tryz.checked os 4 .any (Rows.shipOpenSpec.pre6 enc Tryz.prog Tryz.f4 Rows.shipOpenRow.domain false) (Rows.shipOpenSpec.post enc Tryz.prog Tryz.f4 false true false false) := by
 refine returnsInHanded_of_change (C := Tryz.checked) (show ownKnob Tryz.prog.godebug = none by kernel_rfl) started (by kernel_rfl) Tryz.func4
  (ChangeSpec.witness6 (enc := enc) (C := Tryz.checked) false ⟨#[], #[Sh.zeroA shPass, Sh.zeroA shCall, Sh.zeroA .int, Sh.zeroA shCall], []⟩ 8 (by kernel_rfl) (by kernel_rfl) (by kernel_rfl) (by kernel_rfl)) ?_
 intro W base args ds gs before hval0 hW _ _
 have hval : ∀ (j : Nat) t v, Tryz.f4.params[j]? = some t → args[j]? = some v → Value.okWide Tryz.prog W .any base t v := hval0
 have hW' := hW
 obtain ⟨p, q, hA0, hV, rfl, _, _⟩ := hW
 obtain ⟨rfl, rfl⟩ := trodVars_none hV
 have hA1 : DataW.TrodAll enc Tryz.prog W 0 (fun _ => true) true Tryz.f4.params.toList args.toList ds p := hA0
 have hlt : ∀ x ∈ p, x.block < W.heap.size := fun x hx => hW'.lt x (by simpa using hx)
 have hch : chkAll Tryz.prog [shPass, shCall, .int, shCall] Tryz.f4.params.toList = true := by kernel_rfl
 have hrd : (Tryz.f4.params.toList.all fun t => Tryz.prog.readableRec t && decide (t < Tryz.prog.types.size)) = true := by kernel_rfl
 refine (law_call (J := J0) (ss := [shPass, shCall, .int, shCall]) trivial hch hA1 (fun j t v h1 h2 => hval j t v (by simpa using h1) h2) open_all).mono fun e W' ⟨he, hB⟩ => ?_
 subst he
 have hB2 := trodAll_below (show laidOutB Tryz.prog = true by kernel_rfl) hB _ _ _ _ hrd hA1 hlt
 have hA : DataW.TrodAll enc Tryz.prog W 0 (fun _ => true) true Tryz.f4.params.toList args.toList ds p := hA1
 rw [Tryz.params4] at hA
 simp only [List.toList_toArray] at hA
 have hA := hA
 obtain ⟨v0, vs0, d0, ds0, p0, q0, _, rfl, _, h0, _⟩ := CE.trodAll_cons hA
 obtain ⟨v1, vs1, d1, ds1, p1, q1, _, rfl, _, h1, _⟩ := CE.trodAll_cons h0
 obtain ⟨v2, vs2, d2, ds2, p2, q2, _, rfl, _, h2, _⟩ := CE.trodAll_cons h1
 obtain ⟨v3, vs3, d3, ds3, p3, q3, _, rfl, _, h3, _⟩ := CE.trodAll_cons h2
 obtain ⟨_, rfl, _⟩ := CE.trodAll_nil h3
 exact ⟨_, rfl, _, _, _, [], _, [], hW', trodAll_mk1 (shut_bool Tryz.underlying4 _), hB2, rfl, hB.frame _, fun h => by cases h⟩
theorem shipOpen_row : Rows.ShipOpenSaid :=
 OpenClaim.holds_of_wide 4 Tryz.f4 rfl rfl rfl rfl rfl rfl rfl ⟨rfl, rfl, rfl, rfl, rfl⟩ rfl rfl rfl rfl rfl (by kernel_rfl) Tryz.func4 (by kernel_rfl)
  (of_decide_eq_true (by kernel_rfl)) (by unfold Func.isWrapper; first | (rw [if_pos (by decide +kernel)]; kernel_rfl) | (rw [if_neg (by decide +kernel)]; exact ⟨rfl, rfl⟩))
  (fun os started H enc _ => shipOpen_lifted os started H enc)
end Go.Proofs.YtiabgkiccaodmaaGreat
