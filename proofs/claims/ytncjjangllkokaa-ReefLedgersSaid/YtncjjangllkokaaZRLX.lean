/- ReefLedgers: whatever the input, it returns true, and each argument reads as it did. The row, from the walk. -/
import Derived.Test.YtncjjangllkokaaZRL16
import Derived.Test.YtncjjangllkokaaZRL17
import Derived.JoinedOf
import Derived.Test.YtncjjangllkokaaRows
set_option linter.all false
namespace Go.Proofs.Ytncjjangllkokaa
open Go Go.CE Go.RowKit
theorem Qsk:∀trs,QvJ [QpH,.slice .int,QkF] trs->Qa3 YP J0 5 trs.toArray (.bool true):=by
 rintro trs ⟨t0,_,rfl,h0,t1,_,rfl,h1,t2,_,rfl,h2,rfl⟩;obtain ⟨r,rfl⟩:=Q2C h0;obtain ⟨l,rfl⟩:=Q1v h1;obtain ⟨t,rfl⟩:=Qzk h2;exact Q2H r l t
end Go.Proofs.Ytncjjangllkokaa

namespace Go.Proofs.Ytncjjangllkokaa
open Go Go.CE Go.ChangeShapes Go.WideShapes Go.RowKit
set_option maxRecDepth 100000 in
theorem Qh5 (os:Os) (started:os.Started) (H:Type) (enc:TypeId×Value->H):
 ReturnsInHanded {} Try.checked os 5 .any (Rows.reefLedgersSpec.pre6 enc YP Try.f5 Rows.reefLedgersRow.domain false) (Rows.reefLedgersSpec.post enc YP Try.f5 false true false false):=by
 refine returnsInHanded_of_change (C:=Try.checked) (show ownKnob YP.godebug=none by kernel_rfl) started (by kernel_rfl) Try.func5
  (ChangeSpec.witness6 (enc:=enc) (C:=Try.checked) false ⟨#[],#[Sh.zeroA QpH,Sh.zeroA (.slice .int),Sh.zeroA QkF],[]⟩ 8 (by kernel_rfl) (by kernel_rfl) (by kernel_rfl) (by kernel_rfl)) ?_
 intro W base args ds gs before hval0 hW _ _;have hval:∀(j:Nat) t v,Try.f5.params[j]? =some t->args[j]? =some v->Value.okWide YP W .any base t v:=hval0;have hW':=hW;obtain ⟨p,q,hA0,hV,rfl,_,_⟩:=hW;obtain ⟨rfl,rfl⟩:=trodVars_none hV;have hA1:DataW.TrodAll enc YP W 0 (fun _=> true) true Try.f5.params.toList args.toList ds p:=hA0;have hlt:∀x∈p,x.block < W.heap.size:=fun x hx=> hW'.lt x (by simpa using hx)
 have hch:Ql6 YP [QpH,(.slice .int),QkF] Try.f5.params.toList=true:=by kernel_rfl
 have hrd:(Try.f5.params.toList.all fun t=> YP.readableRec t && decide (t < YP.types.size))=true:=by kernel_rfl
 refine (Q2d (J:=J0) (ss:=[QpH,(.slice .int),QkF]) trivial hch hA1 (fun j t v h1 h2=> hval j t v (by simpa using h1) h2) Qsk).mono fun e W' ⟨he,hB⟩=> ?_
 subst he;have hB2:=Qha (show laidOutB YP=true by kernel_rfl) hB _ _ _ _ hrd hA1 hlt;have hA:DataW.TrodAll enc YP W 0 (fun _=> true) true Try.f5.params.toList args.toList ds p:=hA1;rw [Try.params5] at hA;simp only [List.toList_toArray] at hA;have hA:=hA;obtain ⟨v0,vs0,d0,ds0,p0,q0,_,rfl,_,h0,_⟩:=CE.trodAll_cons hA;obtain ⟨v1,vs1,d1,ds1,p1,q1,_,rfl,_,h1,_⟩:=CE.trodAll_cons h0;obtain ⟨v2,vs2,d2,ds2,p2,q2,_,rfl,_,h2,_⟩:=CE.trodAll_cons h1;obtain ⟨_,rfl,_⟩:=CE.trodAll_nil h2;exact ⟨_,rfl,_,_,_,[],_,[],hW',trodAll_mk1 (shut_bool Try.underlying4 _),hB2,rfl,hB.frame _,fun h=> by cases h⟩
theorem reefLedgers_row:Rows.ReefLedgersSaid:=
 OpenClaim.holds_of_wide 5 Try.f5 rfl rfl rfl rfl rfl rfl rfl ⟨rfl,rfl,rfl,rfl,rfl⟩ rfl rfl rfl rfl rfl (by kernel_rfl) Try.func5 (by kernel_rfl)
  (of_decide_eq_true (by kernel_rfl)) (by unfold Func.isWrapper;first | (rw [if_pos (by decide+kernel)];kernel_rfl) | (rw [if_neg (by decide+kernel)];exact ⟨rfl,rfl⟩))
  (fun os started H enc _=> Qh5 os started H enc)
end Go.Proofs.Ytncjjangllkokaa
