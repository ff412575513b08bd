/- ReefMore: whatever the input, it returns true, and each argument reads as it did. The row, from the walk. -/
import Derived.Test.YtncjjangllkokaaZRM14
import Derived.Test.YtncjjangllkokaaZRM17
import Derived.JoinedOf
import Derived.Test.YtncjjangllkokaaRows
set_option linter.all false
namespace Go.Proofs.Ytncjjangllkokaa
open Go Go.CE Go.RowKit
theorem kG:∀trs,ov [fV,.slice .int,.int,.int,.int,.int,.int] trs->Qz YP J0 14 trs.toArray (.bool true):=by
 rintro trs ⟨t0,_,rfl,h0,t1,_,rfl,h1,t2,_,rfl,h2,t3,_,rfl,h3,t4,_,rfl,h4,t5,_,rfl,h5,t6,_,rfl,h6,rfl⟩;obtain⟨r,rfl⟩:=Ck h0;obtain⟨l,rfl⟩:=Cl h1;obtain⟨a,rfl⟩:=aC h2;obtain⟨b,rfl⟩:=aC h3;obtain⟨c,rfl⟩:=aC h4;obtain⟨d,rfl⟩:=aC h5;obtain⟨e,rfl⟩:=aC h6;exact EV r l a b c d e
end Go.Proofs.Ytncjjangllkokaa

namespace Go.Proofs.Ytncjjangllkokaa
open Go Go.CE Go.ChangeShapes Go.WideShapes Go.RowKit
set_option maxRecDepth 100000 in
theorem dQ(os:Os)(started:os.Started)(H:Type)(enc:TypeId×Value->H):
 ReturnsInHanded {} Try.checked os 14 .any (Rows.reefMoreSpec.pre6 enc YP Try.f14 Rows.reefMoreRow.domain false) (Rows.reefMoreSpec.post enc YP Try.f14 false true false false):=by
 refine returnsInHanded_of_change (C:=Try.checked) (show ownKnob YP.godebug=none by kernel_rfl) started (by kernel_rfl) Try.func14
  (ChangeSpec.witness6 (enc:=enc) (C:=Try.checked) false ⟨#[],#[Sh.zeroA fV,Sh.zeroA (.slice .int),Sh.zeroA .int,Sh.zeroA .int,Sh.zeroA .int,Sh.zeroA .int,Sh.zeroA .int],[]⟩ 8 (by kernel_rfl) (by kernel_rfl) (by kernel_rfl) (by kernel_rfl)) ?_
 intro W base args ds gs before hval0 hW _ _;have hval:∀(j:Nat) t v,Try.f14.params[j]? =some t->args[j]? =some v->Value.okWide YP W .any base t v:=hval0;have hW':=hW;obtain⟨p,q,hA0,hV,rfl,_,_⟩:=hW;obtain⟨rfl,rfl⟩:=trodVars_none hV;have hA1:DataW.TrodAll enc YP W 0 (fun _=>true) true Try.f14.params.toList args.toList ds p:=hA0;have Xu:∀x∈p,x.block<W.heap.size:=fun x hx=>hW'.lt x (by simpa using hx)
 have Y9:SX YP [fV,(.slice .int),.int,.int,.int,.int,.int] Try.f14.params.toList=true:=by kernel_rfl
 have hrd:(Try.f14.params.toList.all fun t=>YP.readableRec t && decide (t<YP.types.size))=true:=by kernel_rfl
 refine(Bz (J:=J0) (ss:=[fV,(.slice .int),.int,.int,.int,.int,.int]) trivial Y9 hA1 (fun j t v h1 h2=>hval j t v (by simpa using h1) h2) kG).mono fun e W' ⟨he,hB⟩=> ?_
 subst he;have hB2:=Sv (show laidOutB YP=true by kernel_rfl) hB _ _ _ _ hrd hA1 Xu;have hA:DataW.TrodAll enc YP W 0 (fun _=>true) true Try.f14.params.toList args.toList ds p:=hA1;rw[Try.params14]at hA;simp only[List.toList_toArray]at hA;have hA:=hA;obtain⟨v0,vs0,d0,ds0,p0,q0,_,rfl,_,h0,_⟩:=CE.trodAll_cons hA;obtain⟨v1,vs1,d1,ds1,p1,q1,_,rfl,_,h1,_⟩:=CE.trodAll_cons h0;obtain⟨v2,vs2,d2,ds2,p2,q2,_,rfl,_,h2,_⟩:=CE.trodAll_cons h1;obtain⟨v3,vs3,d3,ds3,p3,q3,_,rfl,_,h3,_⟩:=CE.trodAll_cons h2;obtain⟨v4,vs4,d4,ds4,p4,q4,_,rfl,_,h4,_⟩:=CE.trodAll_cons h3;obtain⟨v5,vs5,d5,ds5,p5,q5,_,rfl,_,h5,_⟩:=CE.trodAll_cons h4;obtain⟨v6,vs6,d6,ds6,p6,q6,_,rfl,_,h6,_⟩:=CE.trodAll_cons h5;obtain⟨_,rfl,_⟩:=CE.trodAll_nil h6;exact⟨_,rfl,_,_,_,[],_,[],hW',trodAll_mk1 (shut_bool Try.underlying4 _),hB2,rfl,hB.frame _,fun h=>by cases h⟩
theorem reefMore_row:Rows.ReefMoreSaid:=
 OpenClaim.holds_of_wide 14 Try.f14 rfl rfl rfl rfl rfl rfl rfl ⟨rfl,rfl,rfl,rfl,rfl⟩ rfl rfl rfl rfl rfl (by kernel_rfl) Try.func14 (by kernel_rfl)
  (of_decide_eq_true (by kernel_rfl)) (by unfold Func.isWrapper;first|(rw[if_pos (by decide+kernel)];kernel_rfl)|(rw[if_neg (by decide+kernel)];exact⟨rfl,rfl⟩))
  (fun os started H enc _=>dQ os started H enc)
end Go.Proofs.Ytncjjangllkokaa
