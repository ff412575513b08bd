/- WallMore: whatever the input, it returns true, and each argument reads as it did. The row, from the walk. -/
import Derived.Test.YtiigkdhaofaijaaZWM13
import Derived.Test.YtiigkdhaofaijaaZWM15
import Derived.JoinedOf
import Derived.Test.YtiigkdhaofaijaaRows
set_option linter.all false
namespace Go.Proofs.Ytiigkdhaofaijaa
open Go Go.CE Go.RowKit
theorem more_all : ∀ trs, ArgAll [shShore, shStorm, .slice .int, .int, shWWork, .int, .int] trs → PureC Try.prog J0 13 trs.toArray (.bool true) := by
 rintro trs ⟨t0, _, rfl, h0, t1, _, rfl, h1, t2, _, rfl, h2, t3, _, rfl, h3, t4, _, rfl, h4, t5, _, rfl, h5, t6, _, rfl, h6, rfl⟩
 obtain ⟨s, rfl⟩ := arg_shore h0
 obtain ⟨c, rfl⟩ := arg_storm h1
 obtain ⟨l, rfl⟩ := arg_ints h2
 obtain ⟨k, rfl⟩ := arg_int h3
 obtain ⟨w, rfl⟩ := arg_work h4
 obtain ⟨n, rfl⟩ := arg_int h5
 obtain ⟨m, rfl⟩ := arg_int h6
 exact wMore s c l k w n m
end Go.Proofs.Ytiigkdhaofaijaa

namespace Go.Proofs.Ytiigkdhaofaijaa
open Go Go.CE Go.ChangeShapes Go.WideShapes Go.RowKit
set_option maxRecDepth 100000 in
theorem wallMore_lifted (os : Os) (started : os.Started) (H : Type) (enc : TypeId × Value → H) :
 ReturnsInHanded {} Try.checked os 13 .any (Rows.wallMoreSpec.pre6 enc Try.prog Try.f13 Rows.wallMoreRow.domain false) (Rows.wallMoreSpec.post enc Try.prog Try.f13 false true false false) := by
 refine returnsInHanded_of_change (C := Try.checked) (show ownKnob Try.prog.godebug = none by kernel_rfl) started (by kernel_rfl) Try.func13
  (ChangeSpec.witness6 (enc := enc) (C := Try.checked) false ⟨#[], #[Sh.zeroA shShore, Sh.zeroA shStorm, Sh.zeroA (.slice .int), Sh.zeroA .int, Sh.zeroA shWWork, Sh.zeroA .int, Sh.zeroA .int], []⟩ 8 (by kernel_rfl) (by kernel_rfl) (by kernel_rfl) (by kernel_rfl)) ?_
 intro W base args ds gs before hval0 hW _ _
 have hval : ∀ (j : Nat) t v, Try.f13.params[j]? = some t → args[j]? = some v → Value.okWide Try.prog W .any base t v := hval0
 have hW' := hW
 obtain ⟨p, q, hA0, hV, rfl, _, _⟩ := hW
 obtain ⟨rfl, rfl⟩ := trodVars_none hV
 have hA1 : DataW.TrodAll enc Try.prog W 0 (fun _ => true) true Try.f13.params.toList args.toList ds p := hA0
 have hlt : ∀ x ∈ p, x.block < W.heap.size := fun x hx => hW'.lt x (by simpa using hx)
 have hch : chkAll Try.prog [shShore, shStorm, (.slice .int), .int, shWWork, .int, .int] Try.f13.params.toList = true := by kernel_rfl
 have hrd : (Try.f13.params.toList.all fun t => Try.prog.readableRec t && decide (t < Try.prog.types.size)) = true := by kernel_rfl
 refine (law_call (J := J0) (ss := [shShore, shStorm, (.slice .int), .int, shWWork, .int, .int]) trivial hch hA1 (fun j t v h1 h2 => hval j t v (by simpa using h1) h2) more_all).mono fun e W' ⟨he, hB⟩ => ?_
 subst he
 have hB2 := trodAll_below (show laidOutB Try.prog = true by kernel_rfl) hB _ _ _ _ hrd hA1 hlt
 have hA : DataW.TrodAll enc Try.prog W 0 (fun _ => true) true Try.f13.params.toList args.toList ds p := hA1
 rw [Try.params13] at hA
 simp only [List.toList_toArray] at hA
 have hA := hA
 obtain ⟨v0, vs0, d0, ds0, p0, q0, _, rfl, _, h0, _⟩ := CE.trodAll_cons hA
 obtain ⟨v1, vs1, d1, ds1, p1, q1, _, rfl, _, h1, _⟩ := CE.trodAll_cons h0
 obtain ⟨v2, vs2, d2, ds2, p2, q2, _, rfl, _, h2, _⟩ := CE.trodAll_cons h1
 obtain ⟨v3, vs3, d3, ds3, p3, q3, _, rfl, _, h3, _⟩ := CE.trodAll_cons h2
 obtain ⟨v4, vs4, d4, ds4, p4, q4, _, rfl, _, h4, _⟩ := CE.trodAll_cons h3
 obtain ⟨v5, vs5, d5, ds5, p5, q5, _, rfl, _, h5, _⟩ := CE.trodAll_cons h4
 obtain ⟨v6, vs6, d6, ds6, p6, q6, _, rfl, _, h6, _⟩ := CE.trodAll_cons h5
 obtain ⟨_, rfl, _⟩ := CE.trodAll_nil h6
 exact ⟨_, rfl, _, _, _, [], _, [], hW', trodAll_mk1 (shut_bool Try.underlying4 _), hB2, rfl, hB.frame _, fun h => by cases h⟩
theorem wallMore_row : Rows.WallMoreSaid :=
 OpenClaim.holds_of_wide 13 Try.f13 rfl rfl rfl rfl rfl rfl rfl ⟨rfl, rfl, rfl, rfl, rfl⟩ rfl rfl rfl rfl rfl (by kernel_rfl) Try.func13 (by kernel_rfl)
  (of_decide_eq_true (by kernel_rfl)) (by unfold Func.isWrapper; first | (rw [if_pos (by decide +kernel)]; kernel_rfl) | (rw [if_neg (by decide +kernel)]; exact ⟨rfl, rfl⟩))
  (fun os started H enc _ => wallMore_lifted os started H enc)
end Go.Proofs.Ytiigkdhaofaijaa
