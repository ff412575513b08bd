/- ShipMore: whatever the input, it returns true, and each argument reads as it did. The row, from the walk. -/
import Derived.Test.YtiabgkiccaodmaaGreatZMO13
import Derived.Test.YtiabgkiccaodmaaGreatZMO16
import Derived.JoinedOf
import Derived.Test.YtiabgkiccaodmaaGreatRows
set_option linter.all false
namespace Go.Proofs.YtiabgkiccaodmaaGreat
open Go Go.CE Go.RowKit
theorem Qhj:∀trs,QuX [QnH,.int,.int,QmT,.slice .int,.int,.int,.int] trs->Qai YP J0 15 trs.toArray (.bool true):=by
 rintro trs ⟨t0,_,rfl,h0,t1,_,rfl,h1,t2,_,rfl,h2,t3,_,rfl,h3,t4,_,rfl,h4,t5,_,rfl,h5,t6,_,rfl,h6,t7,_,rfl,h7,rfl⟩;obtain ⟨p,rfl⟩:=Q2S h0;obtain ⟨d,rfl⟩:=Qni h1;obtain ⟨z,rfl⟩:=Qni h2;obtain ⟨s,rfl⟩:=Qzz h3;obtain ⟨l,rfl⟩:=Q3l h4;obtain ⟨a,rfl⟩:=Qni h5;obtain ⟨b,rfl⟩:=Qni h6;obtain ⟨c,rfl⟩:=Qni h7;exact Q7N p d z s l a b c
end Go.Proofs.YtiabgkiccaodmaaGreat

namespace Go.Proofs.YtiabgkiccaodmaaGreat
open Go Go.CE Go.ChangeShapes Go.WideShapes Go.RowKit
set_option maxRecDepth 100000 in
theorem QlS (os:Os) (started:os.Started) (H:Type) (enc:TypeId×Value->H):
 ReturnsInHanded {} Tryz.checked os 15 .any (Rows.shipMoreSpec.pre6 enc YP Tryz.f15 Rows.shipMoreRow.domain false) (Rows.shipMoreSpec.post enc YP Tryz.f15 false true false false):=by
 refine returnsInHanded_of_change (C:=Tryz.checked) (show ownKnob YP.godebug=none by kernel_rfl) started (by kernel_rfl) Tryz.func15
  (ChangeSpec.witness6 (enc:=enc) (C:=Tryz.checked) false ⟨#[],#[Sh.zeroA QnH,Sh.zeroA .int,Sh.zeroA .int,Sh.zeroA QmT,Sh.zeroA (.slice .int),Sh.zeroA .int,Sh.zeroA .int,Sh.zeroA .int],[]⟩ 8 (by kernel_rfl) (by kernel_rfl) (by kernel_rfl) (by kernel_rfl)) ?_
 intro W base args ds gs before hval0 hW _ _;have hval:∀(j:Nat) t v,Tryz.f15.params[j]? =some t->args[j]? =some v->Value.okWide YP W .any base t v:=hval0;have hW':=hW;obtain ⟨p,q,hA0,hV,rfl,_,_⟩:=hW;obtain ⟨rfl,rfl⟩:=trodVars_none hV;have hA1:DataW.TrodAll enc YP W 0 (fun _=> true) true Tryz.f15.params.toList args.toList ds p:=hA0;have hlt:∀x∈p,x.block < W.heap.size:=fun x hx=> hW'.lt x (by simpa using hx)
 have hch:Ql8 YP [QnH,.int,.int,QmT,(.slice .int),.int,.int,.int] Tryz.f15.params.toList=true:=by kernel_rfl
 have hrd:(Tryz.f15.params.toList.all fun t=> YP.readableRec t && decide (t < YP.types.size))=true:=by kernel_rfl
 refine (Q2U (J:=J0) (ss:=[QnH,.int,.int,QmT,(.slice .int),.int,.int,.int]) trivial hch hA1 (fun j t v h1 h2=> hval j t v (by simpa using h1) h2) Qhj).mono fun e W' ⟨he,hB⟩=> ?_
 subst he;have hB2:=Qie (show laidOutB YP=true by kernel_rfl) hB _ _ _ _ hrd hA1 hlt;have hA:DataW.TrodAll enc YP W 0 (fun _=> true) true Tryz.f15.params.toList args.toList ds p:=hA1;rw [Tryz.params15] at hA;simp only [List.toList_toArray] at hA;have hA:=hA;obtain ⟨v0,vs0,d0,ds0,p0,q0,_,rfl,_,h0,_⟩:=CE.trodAll_cons hA;obtain ⟨v1,vs1,d1,ds1,p1,q1,_,rfl,_,h1,_⟩:=CE.trodAll_cons h0;obtain ⟨v2,vs2,d2,ds2,p2,q2,_,rfl,_,h2,_⟩:=CE.trodAll_cons h1;obtain ⟨v3,vs3,d3,ds3,p3,q3,_,rfl,_,h3,_⟩:=CE.trodAll_cons h2;obtain ⟨v4,vs4,d4,ds4,p4,q4,_,rfl,_,h4,_⟩:=CE.trodAll_cons h3;obtain ⟨v5,vs5,d5,ds5,p5,q5,_,rfl,_,h5,_⟩:=CE.trodAll_cons h4;obtain ⟨v6,vs6,d6,ds6,p6,q6,_,rfl,_,h6,_⟩:=CE.trodAll_cons h5;obtain ⟨v7,vs7,d7,ds7,p7,q7,_,rfl,_,h7,_⟩:=CE.trodAll_cons h6;obtain ⟨_,rfl,_⟩:=CE.trodAll_nil h7;exact ⟨_,rfl,_,_,_,[],_,[],hW',trodAll_mk1 (shut_bool Tryz.underlying4 _),hB2,rfl,hB.frame _,fun h=> by cases h⟩
theorem shipMore_row:Rows.ShipMoreSaid:=
 OpenClaim.holds_of_wide 15 Tryz.f15 rfl rfl rfl rfl rfl rfl rfl ⟨rfl,rfl,rfl,rfl,rfl⟩ rfl rfl rfl rfl rfl (by kernel_rfl) Tryz.func15 (by kernel_rfl)
  (of_decide_eq_true (by kernel_rfl)) (by unfold Func.isWrapper;first | (rw [if_pos (by decide+kernel)];kernel_rfl) | (rw [if_neg (by decide+kernel)];exact ⟨rfl,rfl⟩))
  (fun os started H enc _=> QlS os started H enc)
end Go.Proofs.YtiabgkiccaodmaaGreat
