/- WallShelters: whatever the input, it returns true, and each argument reads as it did. The row, from the walk. -/
import Derived.Test.YtiigkdhaofaijaaZWI13
import Derived.Test.YtiigkdhaofaijaaZWI15
import Derived.JoinedOf
import Derived.Test.YtiigkdhaofaijaaRows
set_option linter.all false
namespace Go.Proofs.Ytiigkdhaofaijaa
open Go Go.CE Go.RowKit
theorem shelters_all : ∀ trs, ArgAll [shShore, shStorm, .slice .int, shTruth, .int] trs → PureC Try.prog J0 9 trs.toArray (.bool true) := by
 rintro trs ⟨t0, _, rfl, h0, t1, _, rfl, h1, t2, _, rfl, h2, t3, _, rfl, h3, t4, _, rfl, h4, rfl⟩
 obtain ⟨s, rfl⟩ := arg_shore h0
 obtain ⟨c, rfl⟩ := arg_storm h1
 obtain ⟨l, rfl⟩ := arg_ints h2
 obtain ⟨t, rfl⟩ := arg_truth h3
 obtain ⟨i, rfl⟩ := arg_int h4
 exact wShelters s c l t i
end Go.Proofs.Ytiigkdhaofaijaa

namespace Go.Proofs.Ytiigkdhaofaijaa
open Go Go.CE Go.ChangeShapes Go.WideShapes Go.RowKit
set_option maxRecDepth 100000 in
theorem wallShelters_lifted (os : Os) (started : os.Started) (H : Type) (enc : TypeId × Value → H) :
 ReturnsInHanded {} Try.checked os 9 .any (Rows.wallSheltersSpec.pre6 enc Try.prog Try.f9 Rows.wallSheltersRow.domain false) (Rows.wallSheltersSpec.post enc Try.prog Try.f9 false true false false) := by
 refine returnsInHanded_of_change (C := Try.checked) (show ownKnob Try.prog.godebug = none by kernel_rfl) started (by kernel_rfl) Try.func9
  (ChangeSpec.witness6 (enc := enc) (C := Try.checked) false ⟨#[], #[Sh.zeroA shShore, Sh.zeroA shStorm, Sh.zeroA (.slice .int), Sh.zeroA shTruth, Sh.zeroA .int], []⟩ 8 (by kernel_rfl) (by kernel_rfl) (by kernel_rfl) (by kernel_rfl)) ?_
 intro W base args ds gs before hval0 hW _ _
 have hval : ∀ (j : Nat) t v, Try.f9.params[j]? = some t → args[j]? = some v → Value.okWide Try.prog W .any base t v := hval0
 have hW' := hW
 obtain ⟨p, q, hA0, hV, rfl, _, _⟩ := hW
 obtain ⟨rfl, rfl⟩ := trodVars_none hV
 have hA1 : DataW.TrodAll enc Try.prog W 0 (fun _ => true) true Try.f9.params.toList args.toList ds p := hA0
 have hlt : ∀ x ∈ p, x.block < W.heap.size := fun x hx => hW'.lt x (by simpa using hx)
 have hch : chkAll Try.prog [shShore, shStorm, (.slice .int), shTruth, .int] Try.f9.params.toList = true := by kernel_rfl
 have hrd : (Try.f9.params.toList.all fun t => Try.prog.readableRec t && decide (t < Try.prog.types.size)) = true := by kernel_rfl
 refine (law_call (J := J0) (ss := [shShore, shStorm, (.slice .int), shTruth, .int]) trivial hch hA1 (fun j t v h1 h2 => hval j t v (by simpa using h1) h2) shelters_all).mono fun e W' ⟨he, hB⟩ => ?_
 subst he
 have hB2 := trodAll_below (show laidOutB Try.prog = true by kernel_rfl) hB _ _ _ _ hrd hA1 hlt
 have hA : DataW.TrodAll enc Try.prog W 0 (fun _ => true) true Try.f9.params.toList args.toList ds p := hA1
 rw [Try.params9] at hA
 simp only [List.toList_toArray] at hA
 have hA := hA
 obtain ⟨v0, vs0, d0, ds0, p0, q0, _, rfl, _, h0, _⟩ := CE.trodAll_cons hA
 obtain ⟨v1, vs1, d1, ds1, p1, q1, _, rfl, _, h1, _⟩ := CE.trodAll_cons h0
 obtain ⟨v2, vs2, d2, ds2, p2, q2, _, rfl, _, h2, _⟩ := CE.trodAll_cons h1
 obtain ⟨v3, vs3, d3, ds3, p3, q3, _, rfl, _, h3, _⟩ := CE.trodAll_cons h2
 obtain ⟨v4, vs4, d4, ds4, p4, q4, _, rfl, _, h4, _⟩ := CE.trodAll_cons h3
 obtain ⟨_, rfl, _⟩ := CE.trodAll_nil h4
 exact ⟨_, rfl, _, _, _, [], _, [], hW', trodAll_mk1 (shut_bool Try.underlying4 _), hB2, rfl, hB.frame _, fun h => by cases h⟩
theorem wallShelters_row : Rows.WallSheltersSaid :=
 OpenClaim.holds_of_wide 9 Try.f9 rfl rfl rfl rfl rfl rfl rfl ⟨rfl, rfl, rfl, rfl, rfl⟩ rfl rfl rfl rfl rfl (by kernel_rfl) Try.func9 (by kernel_rfl)
  (of_decide_eq_true (by kernel_rfl)) (by unfold Func.isWrapper; first | (rw [if_pos (by decide +kernel)]; kernel_rfl) | (rw [if_neg (by decide +kernel)]; exact ⟨rfl, rfl⟩))
  (fun os started H enc _ => wallShelters_lifted os started H enc)
end Go.Proofs.Ytiigkdhaofaijaa
