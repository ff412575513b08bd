/- layer 03: calls within known() -/
import Derived.Test.YtncjjangllkokaaZRH14
import Derived.Test.YtncjjangllkokaaZRH10
set_option linter.all false
open Array renaming eq_empty_of_size_eq_zero->LN,size->LG,extract->Lh
open List renaming getD_eq_getElem?_getD->Lq,set->LM,replicate->Ln,length->Lc,length_set->LS,length_replicate->LF,getD->Ld,range->Lg,getElem?_eq_none->LA,mem_cons_of_mem->Lw,flatMap_cons->LW,length_append->Li
open Int renaming toNat->Lb,tdiv_eq_ediv_of_nonneg->LO,le_refl->LR,tdiv->Le
open Nat renaming strongRecOn->Lz,min->LU,lt_of_lt_of_eq->Lu
open List.Mem renaming head->Lj
open Inhabited renaming default->La
namespace Go.Proofs.Ytncjjangllkokaa
open Go Go.CE Go.RowKit
noncomputable section
def gZ:WZ:=XX [pH]
theorem ll(B:Lo):Wz YP B gZ:=QS QD Qf (QI _ _) zH (Zg _ _)
def ph:Memo:=
 ⟨93,#[Qx 500000,.pointer (some ⟨2130,0,none⟩),.pointer (some ⟨2131,0,none⟩)],[(2104,Ub),(2131,.cells #[Qx 1] 3 (0,0)),(2130,s5)],2132,.bool true,[],2272⟩
theorem zx:QM ph (ph.run YP Xg gZ 100000)=true:=by decide+kernel
def gY:WZ:=XX [pG]
theorem lk(B:Lo):Wz YP B gY:=QS QD Qf (QI _ _) zG (Zg _ _)
def pf:Memo:=
 ⟨93,#[Qx 250000,.pointer (some ⟨2130,0,none⟩),.pointer (some ⟨2131,0,none⟩)],[(2104,Ub),(2131,.cells #[Qx 1] 3 (0,0)),(2130,s5)],2272,.bool true,[],2412⟩
theorem zw:QM pf (pf.run YP Xg gY 100000)=true:=by decide+kernel
def gX:WZ:=XX [pF]
theorem lj(B:Lo):Wz YP B gX:=QS QD Qf (QI _ _) zF (Zg _ _)
def pd:Memo:=
 ⟨93,#[Qx 125000,.pointer (some ⟨2130,0,none⟩),.pointer (some ⟨2131,0,none⟩)],[(2104,Ub),(2131,.cells #[Qx 1] 3 (0,0)),(2130,s5)],2412,.bool true,[],2552⟩
theorem zu:QM pd (pd.run YP Xg gX 100000)=true:=by decide+kernel
def gW:WZ:=XX [pE]
theorem lh(B:Lo):Wz YP B gW:=QS QD Qf (QI _ _) zE (Zg _ _)
def pc:Memo:=
 ⟨93,#[Qx 62500,.pointer (some ⟨2130,0,none⟩),.pointer (some ⟨2131,0,none⟩)],[(2104,Ub),(2131,.cells #[Qx 1] 3 (0,0)),(2130,s5)],2552,.bool true,[],2692⟩
theorem zt:QM pc (pc.run YP Xg gW 100000)=true:=by decide+kernel
def gU:WZ:=XX [pD]
theorem kZ(B:Lo):Wz YP B gU:=QS QD Qf (QI _ _) zD (Zg _ _)
def oZ:Memo:=
 ⟨93,#[Qx 31250,.pointer (some ⟨2130,0,none⟩),.pointer (some ⟨2131,0,none⟩)],[(2104,Ub),(2131,.cells #[Qx 1] 3 (0,0)),(2130,s5)],2692,.bool true,[],2832⟩
theorem zr:QM oZ (oZ.run YP Xg gU 100000)=true:=by decide+kernel
def gT:WZ:=XX [pC]
theorem kY(B:Lo):Wz YP B gT:=QS QD Qf (QI _ _) zC (Zg _ _)
def oY:Memo:=
 ⟨93,#[Qx 15625,.pointer (some ⟨2130,0,none⟩),.pointer (some ⟨2131,0,none⟩)],[(2104,Ub),(2131,.cells #[Qx 1] 3 (0,0)),(2130,s5)],2832,.bool true,[],2972⟩
theorem zq:QM oY (oY.run YP Xg gT 100000)=true:=by decide+kernel
def gS:WZ:=XX [pB]
theorem kX(B:Lo):Wz YP B gS:=QS QD Qf (QI _ _) zB (Zg _ _)
def oX:Memo:=
 ⟨93,#[Qx 7812,.pointer (some ⟨2130,0,none⟩),.pointer (some ⟨2131,0,none⟩)],[(2104,Ub),(2131,.cells #[Qx 1] 3 (0,0)),(2130,s5)],2972,.bool true,[],3112⟩
theorem zp:QM oX (oX.run YP Xg gS 100000)=true:=by decide+kernel
def gR:WZ:=XX [p9]
theorem kW(B:Lo):Wz YP B gR:=QS QD Qf (QI _ _) zA (Zg _ _)
def oW:Memo:=
 ⟨93,#[Qx 3906,.pointer (some ⟨2130,0,none⟩),.pointer (some ⟨2131,0,none⟩)],[(2104,Ub),(2131,.cells #[Qx 1] 3 (0,0)),(2130,s5)],3112,.bool true,[],3252⟩
theorem zo:QM oW (oW.run YP Xg gR 100000)=true:=by decide+kernel
def gQ:WZ:=XX [p8]
theorem kU(B:Lo):Wz YP B gQ:=QS QD Qf (QI _ _) z9 (Zg _ _)
def oV:Memo:=
 ⟨93,#[Qx 1953,.pointer (some ⟨2130,0,none⟩),.pointer (some ⟨2131,0,none⟩)],[(2104,Ub),(2131,.cells #[Qx 1] 3 (0,0)),(2130,s5)],3252,.bool true,[],3392⟩
theorem zm:QM oV (oV.run YP Xg gQ 100000)=true:=by decide+kernel
def gP:WZ:=XX [pz]
theorem kT(B:Lo):Wz YP B gP:=QS QD Qf (QI _ _) z8 (Zg _ _)
def oU:Memo:=
 ⟨93,#[Qx 976,.pointer (some ⟨2130,0,none⟩),.pointer (some ⟨2131,0,none⟩)],[(2104,Ub),(2131,.cells #[Qx 1] 3 (0,0)),(2130,s5)],3392,.bool true,[],3532⟩
theorem zl:QM oU (oU.run YP Xg gP 100000)=true:=by decide+kernel
def gO:WZ:=XX [py]
theorem kS(B:Lo):Wz YP B gO:=QS QD Qf (QI _ _) z7 (Zg _ _)
def oT:Memo:=
 ⟨93,#[Qx 488,.pointer (some ⟨2130,0,none⟩),.pointer (some ⟨2131,0,none⟩)],[(2104,Ub),(2131,.cells #[Qx 1] 3 (0,0)),(2130,s5)],3532,.bool true,[],3672⟩
theorem zk:QM oT (oT.run YP Xg gO 100000)=true:=by decide+kernel
def gN:WZ:=XX [px]
theorem kR(B:Lo):Wz YP B gN:=QS QD Qf (QI _ _) z6 (Zg _ _)
def oS:Memo:=
 ⟨93,#[Qx 244,.pointer (some ⟨2130,0,none⟩),.pointer (some ⟨2131,0,none⟩)],[(2104,Ub),(2131,.cells #[Qx 1] 3 (0,0)),(2130,s5)],3672,.bool true,[],3812⟩
theorem zj:QM oS (oS.run YP Xg gN 100000)=true:=by decide+kernel
def gM:WZ:=XX [pw]
theorem kQ(B:Lo):Wz YP B gM:=QS QD Qf (QI _ _) z5 (Zg _ _)
def oR:Memo:=
 ⟨93,#[Qx 122,.pointer (some ⟨2130,0,none⟩),.pointer (some ⟨2131,0,none⟩)],[(2104,Ub),(2131,.cells #[Qx 1] 3 (0,0)),(2130,s5)],3812,.bool false,[],3952⟩
theorem zi:QM oR (oR.run YP Xg gM 100000)=true:=by decide+kernel
def gL:WZ:=XX [pt]
theorem kP(B:Lo):Wz YP B gL:=QS QD Qf (QI _ _) z4 (Zg _ _)
def oQ:Memo:=
 ⟨93,#[Qx 183,.pointer (some ⟨2130,0,none⟩),.pointer (some ⟨2131,0,none⟩)],[(2104,Ub),(2131,.cells #[Qx 1] 3 (0,0)),(2130,s5)],3952,.bool false,[],4092⟩
theorem zh:QM oQ (oQ.run YP Xg gL 100000)=true:=by decide+kernel
end
end Go.Proofs.Ytncjjangllkokaa

namespace Go.Proofs.Ytncjjangllkokaa
open Go Go.CE Go.RowKit
def pj:Memo:=
 ⟨88,#[.slice (some ⟨4794,0,none⟩) 2 12,.agg #[Qx 1063,Qx 448,Qx 0,Qx 0]],[(4794,cB8)],4926,.tuple #[.agg #[Qx 1,Qx 2],.bool true],[],4931⟩
theorem zy:QM pj (pj.drun YP Xg Xy 100000)=true:=by decide+kernel
end Go.Proofs.Ytncjjangllkokaa

namespace Go.Proofs.Ytncjjangllkokaa
open Go Go.CE Go.RowKit
noncomputable section
def gK:WZ:=XX [pr]
theorem kO(B:Lo):Wz YP B gK:=QS QD Qf (QI _ _) z3 (Zg _ _)
def oP:Memo:=
 ⟨93,#[Qx 214,.pointer (some ⟨2130,0,none⟩),.pointer (some ⟨2131,0,none⟩)],[(2104,Ub),(2131,.cells #[Qx 1] 3 (0,0)),(2130,s5)],4092,.bool true,[],4232⟩
theorem zg:QM oP (oP.run YP Xg gK 100000)=true:=by decide+kernel
def gJ:WZ:=XX [pq]
theorem kN(B:Lo):Wz YP B gJ:=QS QD Qf (QI _ _) z2 (Zg _ _)
def oO:Memo:=
 ⟨93,#[Qx 199,.pointer (some ⟨2130,0,none⟩),.pointer (some ⟨2131,0,none⟩)],[(2104,Ub),(2131,.cells #[Qx 1] 3 (0,0)),(2130,s5)],4232,.bool true,[],4372⟩
theorem zf:QM oO (oO.run YP Xg gJ 100000)=true:=by decide+kernel
def gI:WZ:=XX [po]
theorem kM(B:Lo):Wz YP B gI:=QS QD Qf (QI _ _) z1 (Zg _ _)
def oN:Memo:=
 ⟨93,#[Qx 191,.pointer (some ⟨2130,0,none⟩),.pointer (some ⟨2131,0,none⟩)],[(2104,Ub),(2131,.cells #[Qx 1] 3 (0,0)),(2130,s5)],4372,.bool false,[],4512⟩
theorem ze:QM oN (oN.run YP Xg gI 100000)=true:=by decide+kernel
def gH:WZ:=XX [pn]
theorem kL(B:Lo):Wz YP B gH:=QS QD Qf (QI _ _) z0 (Zg _ _)
def oM:Memo:=
 ⟨93,#[Qx 195,.pointer (some ⟨2130,0,none⟩),.pointer (some ⟨2131,0,none⟩)],[(2104,Ub),(2131,.cells #[Qx 1] 3 (0,0)),(2130,s5)],4512,.bool false,[],4652⟩
theorem zd:QM oM (oM.run YP Xg gH 100000)=true:=by decide+kernel
def gG:WZ:=XX [pk]
theorem kK(B:Lo):Wz YP B gG:=QS QD Qf (QI _ _) zz (Zg _ _)
def oL:Memo:=
 ⟨93,#[Qx 197,.pointer (some ⟨2130,0,none⟩),.pointer (some ⟨2131,0,none⟩)],[(2104,Ub),(2131,.cells #[Qx 1] 3 (0,0)),(2130,s5)],4652,.bool true,[],4792⟩
theorem zb:QM oL (oL.run YP Xg gG 100000)=true:=by decide+kernel
def gF:WZ:=XX [pj]
theorem kJ(B:Lo):Wz YP B gF:=QS QD Qf (QI _ _) zy (Zg _ _)
def oK:Memo:=
 ⟨93,#[Qx 196,.pointer (some ⟨2130,0,none⟩),.pointer (some ⟨2131,0,none⟩)],[(2104,Ub),(2131,.cells #[Qx 1] 3 (0,0)),(2130,s5)],4792,.bool true,[],4932⟩
theorem za:QM oK (oK.run YP Xg gF 100000)=true:=by decide+kernel
end
end Go.Proofs.Ytncjjangllkokaa

namespace Go.Proofs.Ytncjjangllkokaa
open Go Go.CE Go.RowKit
noncomputable def h8:WZ:=XX [ph,pf,pd,pc,oZ,oY,oX,oW,oV,oU,oT,oS,oR,oQ,oP,oO,oN,oM,oL,oK]
theorem lp(B:Lo):Wz YP B h8:=QP QD Qf (ll _) zx (QP QD Qf (lk _) zw (QP QD Qf (lj _) zu (QP QD Qf (lh _) zt (QP QD Qf (kZ _) zr (QP QD Qf (kY _) zq (QP QD Qf (kX _) zp (QP QD Qf (kW _) zo (QP QD Qf (kU _) zm (QP QD Qf (kT _) zl (QP QD Qf (kS _) zk (QP QD Qf (kR _) zj (QP QD Qf (kQ _) zi (QP QD Qf (kP _) zh (QP QD Qf (kO _) zg (QP QD Qf (kN _) zf (QP QD Qf (kM _) ze (QP QD Qf (kL _) zd (QP QD Qf (kK _) zb (QP QD Qf (kJ _) za (Zg _ _))))))))))))))))))))
def pT:Memo:=
 ⟨43,#[.agg #[.slice (some ⟨2104,0,none⟩) 2 12,Qx 200,Qx 2],.slice (some ⟨2105,0,none⟩) 2 1,Qx 1],[(2105,.cells #[Qx 1,Qx 1] 3 (0,0)),(2104,Ub)],2106,.tuple #[Qx 195,Qx 0],[],4932⟩
theorem zT:QM pT (pT.run YP Xg h8 100000)=true:=by decide+kernel
end Go.Proofs.Ytncjjangllkokaa

namespace Go.Proofs.Ytncjjangllkokaa
open Go Go.CE Go.RowKit
noncomputable def IY:WZ:=XX [CD,uc,ub,ua,pT]
theorem FN(B:Lo):Wz YP B IY:=QP QD Qf (QI _ _) FU (QP QD Qf (QI _ _) CG (QP QD Qf (ov _) CC (QP QD Qf (ou _) CB (QP QD Qf (lp _) zT (Zg _ _)))))
theorem Gf:DV (qo YP Xg IY 100000 16 #[] (Su 0 []) ([]:List (Array Value×TypeId)).length) (.bool true) []=true:=by decide+kernel
theorem CP(w:World):Calls YP 16 #[] w fun e w'=>e=.returned (.bool true)/\Below w.heap.size w w':=by
 have hc:=Gq QD Qf (at':=[]) (args':=#[]) Gf (w:=w) (I:=fun _=>True) (hI:=fun _ _ _ _=>trivial) (FN _) trivial rfl (fun i x a h=>by simp at h) ⟨rfl,fun i v v' h=>by simp at h⟩;intro cs;obtain⟨e,w',fr,⟨v',n',H',μ',he,hp,hv,hb,hun,hbel⟩,h1,h2,h3⟩:=hc cs;exact⟨e,w',fr,⟨by rw[he,T0 rfl hv],hbel⟩,h1,h2,h3⟩
theorem known:Qn YP J0 16 #[] (.bool true):=fun fm w args' _ _ ha=>by
 have e:args'=#[]:=by exact LN ha.1.symm
 subst e;exact(CP w).mono fun _ _ h=>⟨_,h.1,h.2,.simple rfl⟩
end Go.Proofs.Ytncjjangllkokaa

namespace Go.Proofs.Ytncjjangllkokaa
open Go Go.CE Go.RowKit
set_option maxRecDepth 100000
end Go.Proofs.Ytncjjangllkokaa

namespace Go.Proofs.Ytncjjangllkokaa
open Go Go.CE Go.RowKit
def sG:Sh:=shS [.int,.int]
def D5:Sh:=shS [.int,.int,sG,.int,.int,sG,sG,.int,.int]
def mA:Sh:=shS [.slice D5,.int,.int]
theorem qj{cs:List Value}(h:sG.ok cs):∃s:Span,cs=Qj s:=by
 obtain⟨_,_,rfl,⟨a,_,rfl⟩,_,_,rfl,⟨b,_,rfl⟩,rfl⟩:=h;exact⟨⟨a,b⟩,rfl⟩
theorem Gn{cs:List Value}(h:D5.ok cs):∃s:Qg,cs=Qi s:=by
 obtain⟨_,_,rfl,⟨a,_,rfl⟩,_,_,rfl,⟨b,_,rfl⟩,_,_,rfl,h3,_,_,rfl,⟨d,_,rfl⟩,_,_,rfl,⟨e,_,rfl⟩,_,_,rfl,h6,_,_,rfl,h7,_,_,rfl,⟨g,_,rfl⟩,_,_,rfl,⟨w,_,rfl⟩,rfl⟩:=h;obtain⟨x,rfl⟩:=qj h3;obtain⟨y,rfl⟩:=qj h6;obtain⟨z,rfl⟩:=qj h7;exact⟨⟨a,b,x.lo,x.hi,d,e,y.lo,y.hi,z.lo,z.hi,g,w⟩,rfl⟩
theorem MV{v:Value}(h:mA.arg v):∃r:Ql,v=.agg (Qv r).toArray:=by
 obtain⟨cs,rfl,h⟩:=h;obtain⟨_,_,rfl,h1,_,_,rfl,⟨m,_,rfl⟩,_,_,rfl,⟨n,_,rfl⟩,rfl⟩:=h;obtain⟨xs,rfl⟩:=v8 (fun _=>Gn) h1;exact⟨⟨xs,m,n⟩,rfl⟩
theorem MC{cs:List Value}(h:Sh.ok (.slice .int) cs):∃xs:List Int,cs=XA xs:=v8 (fun _=>OP) h
theorem MW{v:Value}(h:Sh.arg (.slice .int) v):∃xs:List Int,v=XH xs:=by
 obtain⟨xs,hx⟩:=MC (show Sh.ok (.slice .int) [v]from h);exact⟨xs,by simpa using hx⟩
end Go.Proofs.Ytncjjangllkokaa

namespace Go.Proofs.Ytncjjangllkokaa
open Go Go.CE Go.RowKit
noncomputable section
set_option maxRecDepth 100000
def av(s:Span):Int:=s.lo
def a6(s:Span):Int:=s.hi
def Zr(rf:Ql):List Int:=(rf.Qb.map (XB rf.Qc)).map av
def Zs(rf:Ql):List Int:=(rf.Qb.map (XB rf.Qc)).map a6
def Pm(rf:Ql):List Int:=(rf.Qb.map XI).map av
def Pn(rf:Ql):List Int:=(rf.Qb.map XI).map a6
def Pf(rf:Ql)(p:Int):List Int:=(XE rf.Qb p).map av
def Pg(rf:Ql)(p:Int):List Int:=(XE rf.Qb p).map a6
theorem ao{α:Type}[Inhabited α]{l:List α}{f:α->Span}{g:Span->Int}{k:Int}(h0:0<=k)(h:k<l.length):nth ((l.map f).map g) k=g (f (l.getD k.toNat La)):=by
 obtain⟨m,rfl⟩:∃m:Nat,k=m:=⟨k.toNat,by omega⟩
 have hm:m<l.length:=by omega
 show((l.map f).map g).getD ((m:Int).toNat) La=_;simp[Lq,hm]
theorem db{rf:Ql}(hr:XM rf=true):KD rf.Qb.length (Pm rf) 2000/\KD rf.Qb.length (Pn rf) 2000:=by
 refine⟨⟨by simp[Pm],fun k h0 h1=> ?_⟩,⟨by simp[Pn],fun k h0 h1=> ?_⟩⟩
 ·have hp:=Zx ((Q8 hr).2 k h0 h1).1;unfold Pm;rw[ao h0 h1];simp only[XI,av];omega
 ·have hp:=Zx ((Q8 hr).2 k h0 h1).1;unfold Pn;rw[ao h0 h1];simp only[XI,a6];omega
theorem eT{l:List Span}{g:Span->Int}{k:Int}(h0:0<=k)(h:k<l.length):nth (l.map g) k=g (l.getD k.toNat La):=by
 obtain⟨m,rfl⟩:∃m:Nat,k=m:=⟨k.toNat,by omega⟩
 have hm:m<l.length:=by omega
 show(l.map g).getD ((m:Int).toNat) La=_;simp[Lq,hm]
theorem cm{rf:Ql}(hr:XM rf=true)(p:Int):KD rf.Qb.length (Pf rf p) 1000000/\KD rf.Qb.length (Pg rf p) 1000000:=by
 refine⟨⟨by simp[Pf,WS],fun k h0 h1=> ?_⟩,⟨by simp[Pg,WS],fun k h0 h1=> ?_⟩⟩
 ·have hp:=cn hr (p:=p) h0 h1;unfold Pf;rw[eT h0 (by rw[WS];exact h1),R8 h0 h1];simp only[av];omega
 ·have hp:=cn hr (p:=p) h0 h1;unfold Pg;rw[eT h0 (by rw[WS];exact h1),R8 h0 h1];simp only[a6];omega
section
variable (B:Lo)(c0:CF)(xs:List Span)(i:Int)(ys:List Int)
def Tg(ys:List Int):List Value:=[Value.func (Fn.func 76) #[] #[],.slice (some {block:=2,off:=0}) xs.length 1,Qw 1 (QC xs.length (Qe Qj xs)),YI (↑xs.length:Int),YI i]
def Yd(xs:List Span)(i:Int)(ys:List Int):List Obj:=[.cells (Qe Q5 ys) 3 (0,0)]
def Th:List Item:=([.code [1,1,0,1,0,0],.inLoop [1,1,0,1,0,0],.inBlock 0,.code [1,1,1]]).map (it (QG YP 97))
def Fy:Prop:=∃dJ:Nat->Value,(∀t,Xi (dJ t))/\GoE YP B c0 XW 1 (QA 97 26 (([1,5,11,12,13]:List Nat).zip (Tg xs i ys)) dJ Th) (Q9 (Yd xs i ys)) (2+(Yd xs i ys).length) []
def cS:=(Span.lo (xs.getD i.toNat La))
def Ft:Array Value:=#[YI (cS xs i),YI (Span.hi (xs.getD i.toNat La))]
def Fs:Array Value:=(Qe Q5 (LM ys i.toNat (cS xs i)))
def rS:Array Value:=(Qe (Ue [YI 0]) (Ln xs.length ()))
theorem Fw(B:Lo)(xs:List Span)(i:Int)(ys:List Int)(Qm:Nat->Value):let e:=Ft xs i;let c:=Fs xs i ys;let a:=Lb i;let d:=LM ys a (cS xs i);let b:=Span.lo (xs.getD a La);let f:=YI b;landM (Qo YP (Q1 YP) J0 B 13 1 (QA 97 26 (([1,5,11,12,13]:List Nat).zip (Tg xs i ys)) Qm Th) (Q9 (Yd xs i ys)) (2+(Yd xs i ys).length)
 [(0,Z5),(2,Qh.tidx a e),(11,Qh.pure (YI (cS xs i)) []),(12,Qh.XD (Hint.idx a)),(13,Qh.XD (Hint.st c)),(14,Wy (i+1))] 0 [] []) [1,5,11,12,13] [(2,KS.cells [] c)] []=some ⟨97,26,Th,[],.run,none,Tg xs (i+1) d,Yd xs (i+1) d,
 [Q0 1 [] c c,wq (i+1)=i+1,0+Lb i*1+TypeInfo.size Try.t3<=LG (Qe Q5 ys)/\splice (Qe Q5 ys) (0+Lb i*1) (Value.cells (Zc {len:=16000,tr:=Tri.set 14 (Tri.set 14 Tri.lf 22 f) 23 (.pointer (some {block:=2,off:=0+Lb i*1}))} 22))=Qe Q5 (LM ys a b),i=(↑a:Int)/\Lb i<Lc xs,Qr []/\Qn YP J0 76 #[.agg e] f,Kl i xs.length (Qe Qj xs) Try.t38.size e,XC i (↑xs.length:Int)=true]⟩:=by intro e c a d b f;kernel_rfl
theorem Fv(B:Lo)(xs:List Span)(i:Int)(ys:List Int)(Qm:Nat->Value):let a:=Fz.cs {k:=2,rs:=[],cs:=Qe Q5 ys};QO (Qo YP (Q1 YP) J0 B 9 1 (QA 97 26 (([1,5,11,12,13]:List Nat).zip (Tg xs i ys)) Qm Th) (Q9 (Yd xs i ys)) (2+(Yd xs i ys).length)
 [(0,ZW)] 0 [] []) [{k:=2,rs:=[],cs:=Qe Q5 ys}]=some (QC xs.length a,
 [X8 (Fz.rs {k:=2,rs:=[],cs:=Qe Q5 ys}) (Qe Q5 ys) a,XC i (↑xs.length:Int)=false]):=by intro a;kernel_rfl
theorem Fu(B:Lo)(xs:List Span):let a:=Lc xs;let c:=Ln a 0;let b:=Zc {len:=16000,tr:=Tri.set 14 Tri.lf 9 (YI (↑a:Int))} 9;landM (Qo YP (Q1 YP) J0 B 9 1 (Qp YP 97 26 (([YK xs,.func (.func 76) #[] #[]]).map (Q2 0 4))) XW 1
 [(3,Qh.XD (Hint.mk a (rS xs)))] 0 [] []) [1,5,11,12,13] [(1,KS.rows [] [] [] (Qe Q5 c))] []=some ⟨97,26,Th,[],.run,none,Tg xs (0) c,Yd xs (0) c,
 [Xj 1 [] [] [] (rS xs) (Qe Q5 c),Sg YP 25 b b=some (3,Qe (Ue [YI 0]) (Ln a ()),Lc xs,TypeInfo.size Try.t3)]⟩:=by intro a c b;kernel_rfl
end
set_option maxHeartbeats 4000000 in
theorem Fx(xs:List Span)(hn:xs.length<=1000000){B:Lo}(hJ:∀w,B.has w->J0 w){c0:CF}:∀m:Nat,(∀(i:Int) (ys:List Int),(xs.length-i.toNat)=m->∀(h0:0<=i) (hy:ys=Sd av 0 xs i),Fy B c0 xs i ys->EndsT YP B c0 (XH (xs.map av))):=by
 intro m0;induction m0 using Lz with
 |_ m0 ih0=>
  intro i ys YA h0 hy ⟨Qm,ZF,Xs⟩;have hyl:ys.length=xs.length:=by rw[hy];exact Tt
  by_cases q0:(i:Int)<((↑xs.length:Int))
  ·exact((ih0 _ (by omega)) (i+1) (LM ys i.toNat (Span.lo (xs.getD i.toNat La))) rfl (by omega) (by(subst hy;exact Ts (f:=av) h0 q0))
    (Xs.landM okF hJ Qf (Fw B xs i ys Qm)
    ⟨(Zf fun _=>by rfl),⟨(QY (by omega) (by omega)),⟨(by exact S6 (z:=1) (k:=Lb i) (fun _=>rfl) (by first|omega|(rw[LS];omega)|(rw[LF];omega)) rfl rfl),⟨⟨by omega,by omega⟩,⟨⟨trivial,Qb7 (Span.lo (xs.getD i.toNat La)) (Span.hi (xs.getD i.toNat La))⟩,⟨⟨by omega,by omega,(Qs (z:=2) (fun _=>rfl) (by omega))⟩,⟨(Xd q0),trivial⟩⟩⟩⟩⟩⟩⟩ (by kernel_rfl) (by kernel_rfl))).cast (by rfl)
  ·exact(GoE.endsT okF hJ Qf Xs (Fv B xs i ys Qm)
    ⟨(Xc (fun x=>List.all_eq_true.1 (by rfl))),⟨(X9 (Int.not_lt.1 q0)),trivial⟩⟩).cast (by exact fG (hy.trans (Tu (by omega))) (by simp))
set_option maxHeartbeats 4000000 in
theorem IS(xs:List Span)(hn:xs.length<=1000000){B:Lo}(hJ:∀w,B.has w->J0 w):EndsT YP B (Qp YP 97 26 (([YK xs,.func (.func 76) #[] #[]]).map (Q2 0 4))) (XH (xs.map av)):=by
 exact((Fx xs hn hJ _) (0) (Ln xs.length 0) rfl (by omega) (by exact ic)
  (GoE.start.landM okF hJ Qf (Fu B xs)
  ⟨(by exact(V2 (by exact⟨(.simple rfl),trivial⟩) _)),⟨(fg (bytes:=8) (by kernel_rfl) (by omega) (by omega) (by omega)),trivial⟩⟩ (by kernel_rfl) (by kernel_rfl))).cast (by rfl)
theorem Cp(xs:List Span)(hn:xs.length<=1000000):Qn YP J0 97 #[YK xs,.func (.func 76) #[] #[]] (XH (xs.map av)):=
 Xb (ts:=[YK xs,.func (.func 76) #[] #[]]) XZ (c0:=Qp YP 97 26 (([YK xs,.func (.func 76) #[] #[]]).map (Q2 0 4))) (by kernel_rfl) (by kernel_rfl) fun B hJ=>IS xs hn hJ
section
variable (B:Lo)(c0:CF)(xs:List Span)(i:Int)(ys:List Int)
def Ti(ys:List Int):List Value:=[Value.func (Fn.func 77) #[] #[],.slice (some {block:=2,off:=0}) xs.length 1,Qw 1 (QC xs.length (Qe Qj xs)),YI (↑xs.length:Int),YI i]
def Ye(xs:List Span)(i:Int)(ys:List Int):List Obj:=[.cells (Qe Q5 ys) 3 (0,0)]
def Tj:List Item:=([.code [1,1,0,1,0,0],.inLoop [1,1,0,1,0,0],.inBlock 0,.code [1,1,1]]).map (it (QG YP 97))
def F7:Prop:=∃dJ:Nat->Value,(∀t,Xi (dJ t))/\GoE YP B c0 XW 1 (QA 97 26 (([1,5,11,12,13]:List Nat).zip (Ti xs i ys)) dJ Tj) (Q9 (Ye xs i ys)) (2+(Ye xs i ys).length) []
def cU:=(Span.hi (xs.getD i.toNat La))
def F1:Array Value:=#[YI (Span.lo (xs.getD i.toNat La)),YI (cU xs i)]
def F0:Array Value:=(Qe Q5 (LM ys i.toNat (cU xs i)))
def rT:Array Value:=(Qe (Ue [YI 0]) (Ln xs.length ()))
theorem F5(B:Lo)(xs:List Span)(i:Int)(ys:List Int)(Qm:Nat->Value):let e:=F1 xs i;let c:=F0 xs i ys;let a:=Lb i;let d:=LM ys a (cU xs i);let b:=Span.hi (xs.getD a La);let f:=YI b;landM (Qo YP (Q1 YP) J0 B 13 1 (QA 97 26 (([1,5,11,12,13]:List Nat).zip (Ti xs i ys)) Qm Tj) (Q9 (Ye xs i ys)) (2+(Ye xs i ys).length)
 [(0,Z5),(2,Qh.tidx a e),(11,Qh.pure (YI (cU xs i)) []),(12,Qh.XD (Hint.idx a)),(13,Qh.XD (Hint.st c)),(14,Wy (i+1))] 0 [] []) [1,5,11,12,13] [(2,KS.cells [] c)] []=some ⟨97,26,Tj,[],.run,none,Ti xs (i+1) d,Ye xs (i+1) d,
 [Q0 1 [] c c,wq (i+1)=i+1,0+Lb i*1+TypeInfo.size Try.t3<=LG (Qe Q5 ys)/\splice (Qe Q5 ys) (0+Lb i*1) (Value.cells (Zc {len:=16000,tr:=Tri.set 14 (Tri.set 14 Tri.lf 22 f) 23 (.pointer (some {block:=2,off:=0+Lb i*1}))} 22))=Qe Q5 (LM ys a b),i=(↑a:Int)/\Lb i<Lc xs,Qr []/\Qn YP J0 77 #[.agg e] f,Kl i xs.length (Qe Qj xs) Try.t38.size e,XC i (↑xs.length:Int)=true]⟩:=by intro e c a d b f;kernel_rfl
theorem F3(B:Lo)(xs:List Span)(i:Int)(ys:List Int)(Qm:Nat->Value):let a:=Fz.cs {k:=2,rs:=[],cs:=Qe Q5 ys};QO (Qo YP (Q1 YP) J0 B 9 1 (QA 97 26 (([1,5,11,12,13]:List Nat).zip (Ti xs i ys)) Qm Tj) (Q9 (Ye xs i ys)) (2+(Ye xs i ys).length)
 [(0,ZW)] 0 [] []) [{k:=2,rs:=[],cs:=Qe Q5 ys}]=some (QC xs.length a,
 [X8 (Fz.rs {k:=2,rs:=[],cs:=Qe Q5 ys}) (Qe Q5 ys) a,XC i (↑xs.length:Int)=false]):=by intro a;kernel_rfl
theorem F2(B:Lo)(xs:List Span):let a:=Lc xs;let c:=Ln a 0;let b:=Zc {len:=16000,tr:=Tri.set 14 Tri.lf 9 (YI (↑a:Int))} 9;landM (Qo YP (Q1 YP) J0 B 9 1 (Qp YP 97 26 (([YK xs,.func (.func 77) #[] #[]]).map (Q2 0 4))) XW 1
 [(3,Qh.XD (Hint.mk a (rT xs)))] 0 [] []) [1,5,11,12,13] [(1,KS.rows [] [] [] (Qe Q5 c))] []=some ⟨97,26,Tj,[],.run,none,Ti xs (0) c,Ye xs (0) c,
 [Xj 1 [] [] [] (rT xs) (Qe Q5 c),Sg YP 25 b b=some (3,Qe (Ue [YI 0]) (Ln a ()),Lc xs,TypeInfo.size Try.t3)]⟩:=by intro a c b;kernel_rfl
end
set_option maxHeartbeats 4000000 in
theorem F6(xs:List Span)(hn:xs.length<=1000000){B:Lo}(hJ:∀w,B.has w->J0 w){c0:CF}:∀m:Nat,(∀(i:Int) (ys:List Int),(xs.length-i.toNat)=m->∀(h0:0<=i) (hy:ys=Sd a6 0 xs i),F7 B c0 xs i ys->EndsT YP B c0 (XH (xs.map a6))):=by
 intro m0;induction m0 using Lz with
 |_ m0 ih0=>
  intro i ys YA h0 hy ⟨Qm,ZF,Xs⟩;have hyl:ys.length=xs.length:=by rw[hy];exact Tt
  by_cases q0:(i:Int)<((↑xs.length:Int))
  ·exact((ih0 _ (by omega)) (i+1) (LM ys i.toNat (Span.hi (xs.getD i.toNat La))) rfl (by omega) (by(subst hy;exact Ts (f:=a6) h0 q0))
    (Xs.landM okF hJ Qf (F5 B xs i ys Qm)
    ⟨(Zf fun _=>by rfl),⟨(QY (by omega) (by omega)),⟨(by exact S6 (z:=1) (k:=Lb i) (fun _=>rfl) (by first|omega|(rw[LS];omega)|(rw[LF];omega)) rfl rfl),⟨⟨by omega,by omega⟩,⟨⟨trivial,Qbc (Span.lo (xs.getD i.toNat La)) (Span.hi (xs.getD i.toNat La))⟩,⟨⟨by omega,by omega,(Qs (z:=2) (fun _=>rfl) (by omega))⟩,⟨(Xd q0),trivial⟩⟩⟩⟩⟩⟩⟩ (by kernel_rfl) (by kernel_rfl))).cast (by rfl)
  ·exact(GoE.endsT okF hJ Qf Xs (F3 B xs i ys Qm)
    ⟨(Xc (fun x=>List.all_eq_true.1 (by rfl))),⟨(X9 (Int.not_lt.1 q0)),trivial⟩⟩).cast (by exact fG (hy.trans (Tu (by omega))) (by simp))
set_option maxHeartbeats 4000000 in
theorem IT(xs:List Span)(hn:xs.length<=1000000){B:Lo}(hJ:∀w,B.has w->J0 w):EndsT YP B (Qp YP 97 26 (([YK xs,.func (.func 77) #[] #[]]).map (Q2 0 4))) (XH (xs.map a6)):=by
 exact((F6 xs hn hJ _) (0) (Ln xs.length 0) rfl (by omega) (by exact ic)
  (GoE.start.landM okF hJ Qf (F2 B xs)
  ⟨(by exact(V2 (by exact⟨(.simple rfl),trivial⟩) _)),⟨(fg (bytes:=8) (by kernel_rfl) (by omega) (by omega) (by omega)),trivial⟩⟩ (by kernel_rfl) (by kernel_rfl))).cast (by rfl)
theorem Cq(xs:List Span)(hn:xs.length<=1000000):Qn YP J0 97 #[YK xs,.func (.func 77) #[] #[]] (XH (xs.map a6)):=
 Xb (ts:=[YK xs,.func (.func 77) #[] #[]]) XZ (c0:=Qp YP 97 26 (([YK xs,.func (.func 77) #[] #[]]).map (Q2 0 4))) (by kernel_rfl) (by kernel_rfl) fun B hJ=>IT xs hn hJ
def YW(rf:Ql):=(List.map (XB rf.Qc) rf.Qb)
def BT(rf:Ql):Array Value:=#[YI (Ld (List.map av (YW rf)) 0 La),YI (Ld (List.map av (YW rf)) 1 La),YI (Ld (List.map av (YW rf)) 2 La),YI (Ld (List.map av (YW rf)) 3 La)]
def BS(rf:Ql):Array Value:=(Qe Q5 (List.map av (YW rf)))
def nJ  :Array Value:=#[YI 0,YI 0,YI 0,YI 0]
theorem BU(B:Lo)(rf:Ql)(Qa:List Int):let g:=BT rf;let f:=YW rf;let e:=rf.Qb;let d:=BS rf;let a:=List.map (XB rf.Qc) e;let c:=Lc (List.map av a);let b:=Array.map (Wc 5) (Lh d 0 (LU c 4*TypeInfo.size Try.t3));QO (Qo YP (Q1 YP) J0 B 10 1 (Qp YP 75 13 (([.agg (QF rf Qa).toArray,.func (.func 76) #[] #[]]).map (Q2 0 4))) XW 1
 [(5,Qh.pure (QC f.length (Qe Qj f)) []),(7,Qh.pure (QC (Lc (List.map av f)) d) []),(8,Qh.tcpy g)] 0 [] []) []=some (.agg g,
 [0<Lc (List.map av a)/\0+LU c 4*TypeInfo.size Try.t3<=LG nJ/\LU c 4*TypeInfo.size Try.t3<=LG d/\(Array.all d fun v=>simple v || WU v)=true/\ones b=true/\splice nJ 0 b=g,Qr []/\Qn YP J0 97 #[QC a.length (Qe Qj a),Value.func (Fn.func 76) #[] #[]] (QC c d),Qr []/\Qn YP J0 82 #[.agg #[QC e.length (Qe Qi e),YI rf.Qc,YI rf.Qd,YI (Qa.getD 0 0),YI (Qa.getD 1 0),YI (Qa.getD 2 0),YI (Qa.getD 3 0)]] (QC a.length (Qe Qj a))]):=by intro g f e d a c b;kernel_rfl
set_option maxHeartbeats 4000000 in
theorem Ff(rf:Ql)(Qa:List Int)(hr:XM rf=true){B:Lo}(hJ:∀w,B.has w->J0 w):EndsT YP B (Qp YP 75 13 (([.agg (QF rf Qa).toArray,.func (.func 76) #[] #[]]).map (Q2 0 4))) (.agg #[YI ((Zr rf).getD 0 La),YI ((Zr rf).getD 1 La),YI ((Zr rf).getD 2 La),YI ((Zr rf).getD 3 La)]):=by
 have ZA:=Q4 (Q8 hr).1;have hle1:((rf.Qb.map (XB rf.Qc)).map av).length=rf.Qb.length:=by simp
 have hle2:((rf.Qb.map (XB rf.Qc)).map a6).length=rf.Qb.length:=by simp
 have hle3:(rf.Qb.map (XB rf.Qc)).length=rf.Qb.length:=by simp
 have hcc:∀k:Int,0<=k->k<rf.Qb.length->0<=(rf.Qb.getD k.toNat La).count/\(rf.Qb.getD k.toNat La).count<=1000000:=fun k h0 h1=>(Zx ((Q8 hr).2 k h0 h1).1).1
 exact(GoE.endsT okF hJ Qf GoE.start (BU B rf Qa)
  ⟨(ig (fun _=>rfl) rfl (by omega) (by omega) rfl (YL rfl) rfl),⟨⟨trivial,Cp (List.map (XB rf.Qc) rf.Qb) (by omega)⟩,⟨⟨trivial,sW (rf) (Qa) (by omega) (by omega) (by with_reducible assumption)⟩,trivial⟩⟩⟩).cast (by rfl)
theorem DI(rf:Ql)(Qa:List Int)(hr:XM rf=true):Qn YP J0 75 #[.agg (QF rf Qa).toArray,.func (.func 76) #[] #[]] (.agg #[YI ((Zr rf).getD 0 La),YI ((Zr rf).getD 1 La),YI ((Zr rf).getD 2 La),YI ((Zr rf).getD 3 La)]):=
 Xb (ts:=[.agg (QF rf Qa).toArray,.func (.func 76) #[] #[]]) XZ (c0:=Qp YP 75 13 (([.agg (QF rf Qa).toArray,.func (.func 76) #[] #[]]).map (Q2 0 4))) (by kernel_rfl) (by kernel_rfl) fun B hJ=>Ff rf Qa hr hJ
def YX(rf:Ql):=(List.map (XB rf.Qc) rf.Qb)
def BW(rf:Ql):Array Value:=#[YI (Ld (List.map a6 (YX rf)) 0 La),YI (Ld (List.map a6 (YX rf)) 1 La),YI (Ld (List.map a6 (YX rf)) 2 La),YI (Ld (List.map a6 (YX rf)) 3 La)]
def BV(rf:Ql):Array Value:=(Qe Q5 (List.map a6 (YX rf)))
def nK  :Array Value:=#[YI 0,YI 0,YI 0,YI 0]
theorem BX(B:Lo)(rf:Ql)(Qa:List Int):let g:=BW rf;let f:=YX rf;let e:=rf.Qb;let d:=BV rf;let a:=List.map (XB rf.Qc) e;let c:=Lc (List.map a6 a);let b:=Array.map (Wc 5) (Lh d 0 (LU c 4*TypeInfo.size Try.t3));QO (Qo YP (Q1 YP) J0 B 10 1 (Qp YP 75 13 (([.agg (QF rf Qa).toArray,.func (.func 77) #[] #[]]).map (Q2 0 4))) XW 1
 [(5,Qh.pure (QC f.length (Qe Qj f)) []),(7,Qh.pure (QC (Lc (List.map a6 f)) d) []),(8,Qh.tcpy g)] 0 [] []) []=some (.agg g,
 [0<Lc (List.map a6 a)/\0+LU c 4*TypeInfo.size Try.t3<=LG nK/\LU c 4*TypeInfo.size Try.t3<=LG d/\(Array.all d fun v=>simple v || WU v)=true/\ones b=true/\splice nK 0 b=g,Qr []/\Qn YP J0 97 #[QC a.length (Qe Qj a),Value.func (Fn.func 77) #[] #[]] (QC c d),Qr []/\Qn YP J0 82 #[.agg #[QC e.length (Qe Qi e),YI rf.Qc,YI rf.Qd,YI (Qa.getD 0 0),YI (Qa.getD 1 0),YI (Qa.getD 2 0),YI (Qa.getD 3 0)]] (QC a.length (Qe Qj a))]):=by intro g f e d a c b;kernel_rfl
set_option maxHeartbeats 4000000 in
theorem Fg(rf:Ql)(Qa:List Int)(hr:XM rf=true){B:Lo}(hJ:∀w,B.has w->J0 w):EndsT YP B (Qp YP 75 13 (([.agg (QF rf Qa).toArray,.func (.func 77) #[] #[]]).map (Q2 0 4))) (.agg #[YI ((Zs rf).getD 0 La),YI ((Zs rf).getD 1 La),YI ((Zs rf).getD 2 La),YI ((Zs rf).getD 3 La)]):=by
 have ZA:=Q4 (Q8 hr).1;have hle1:((rf.Qb.map (XB rf.Qc)).map av).length=rf.Qb.length:=by simp
 have hle2:((rf.Qb.map (XB rf.Qc)).map a6).length=rf.Qb.length:=by simp
 have hle3:(rf.Qb.map (XB rf.Qc)).length=rf.Qb.length:=by simp
 have hcc:∀k:Int,0<=k->k<rf.Qb.length->0<=(rf.Qb.getD k.toNat La).count/\(rf.Qb.getD k.toNat La).count<=1000000:=fun k h0 h1=>(Zx ((Q8 hr).2 k h0 h1).1).1
 exact(GoE.endsT okF hJ Qf GoE.start (BX B rf Qa)
  ⟨(ig (fun _=>rfl) rfl (by omega) (by omega) rfl (YL rfl) rfl),⟨⟨trivial,Cq (List.map (XB rf.Qc) rf.Qb) (by omega)⟩,⟨⟨trivial,sW (rf) (Qa) (by omega) (by omega) (by with_reducible assumption)⟩,trivial⟩⟩⟩).cast (by rfl)
theorem DJ(rf:Ql)(Qa:List Int)(hr:XM rf=true):Qn YP J0 75 #[.agg (QF rf Qa).toArray,.func (.func 77) #[] #[]] (.agg #[YI ((Zs rf).getD 0 La),YI ((Zs rf).getD 1 La),YI ((Zs rf).getD 2 La),YI ((Zs rf).getD 3 La)]):=
 Xb (ts:=[.agg (QF rf Qa).toArray,.func (.func 77) #[] #[]]) XZ (c0:=Qp YP 75 13 (([.agg (QF rf Qa).toArray,.func (.func 77) #[] #[]]).map (Q2 0 4))) (by kernel_rfl) (by kernel_rfl) fun B hJ=>Fg rf Qa hr hJ
section
variable (rf:Ql)(Qa:List Int)(fa fb fc fd k:Int)
def Ri(fa fb fc fd k:Int):Qq:=[(3,Obj.cells #[YI 0,YI 0,YI 0,YI 0] 111),(2,Obj.cells #[YI fa,YI fb,YI fc,YI fd] 111),(1,Obj.cells #[Qw 0 (QC rf.Qb.length (Qe Qi rf.Qb)),YI rf.Qc,YI rf.Qd,YI (Qa.getD 0 0),YI (Qa.getD 1 0),YI (Qa.getD 2 0),YI (Qa.getD 3 0)] 84),(0,Obj.coro none)]
def ag:CF:=⟨98,ofList 28 [.agg #[Qw 0 (QC rf.Qb.length (Qe Qi rf.Qb)),YI rf.Qc,YI rf.Qd,YI (Qa.getD 0 0),YI (Qa.getD 1 0),YI (Qa.getD 2 0),YI (Qa.getD 3 0)],.agg #[YI fa,YI fb,YI fc,YI fd],YI k,Value.func (Fn.func 76) #[] #[],Value.func (Fn.func 77) #[] #[]],[Item.code (QG YP 98)],[],.run,none⟩
def nP:=(List.map a6 (XE rf.Qb (Qa.getD k.toNat 0)))
def nO:=(List.map av (List.map XI rf.Qb))
def nQ:Array Value:=let e:=Q3 (nO rf) (nP rf Qa k) rf.Qb {a:=fa,b:=fb,c:=fc,d:=fd};#[YI e.a,YI e.b,YI e.c,YI e.d]
def nN:Array Value:=#[QC rf.Qb.length (Qe Qi rf.Qb),YI rf.Qc,YI rf.Qd,YI (Qa.getD 0 0),YI (Qa.getD 1 0),YI (Qa.getD 2 0),YI (Qa.getD 3 0)]
def nM:Value:=(QC (Lc (XE rf.Qb (Qa.getD k.toNat 0))) (Qe Qj (XE rf.Qb (Qa.getD k.toNat 0))))
def nL:Value:=(QC (Lc (List.map XI rf.Qb)) (Qe Qj (List.map XI rf.Qb)))
theorem BZ(B:Lo)(rf:Ql)(Qa:List Int)(fa fb fc fd k:Int):let h:=rf.Qc;let g:=rf.Qd;let f:=nO rf;let d:=nP rf Qa k;let c:=rf.Qb;let e:=List.map XI c;let i:=List.map av e;let b:=Value.slice none 0 0;let a:=XE c (Qa.getD k.toNat 0);let j:=List.map a6 a;CE.finK 4 (Qo YP (Q1 YP) J0 B 10 4 (ag rf Qa fa fb fc fd k) (Ri rf Qa fa fb fc fd k) 4
 [(10,Qh.pure (nL rf) []),(12,Qh.pure (QC f.length (Qe Q5 f)) []),(15,Qh.pure (nM rf Qa k) []),(17,Qh.pure (QC d.length (Qe Q5 d)) []),(18,Qh.wri [7] [9,11,0] [false] [] (cJ c h g fa fb fc fd b b f d 0 0 0 0 0) (cI c h g fa fb fc fd b b f d 0 0 0 0 0) (cK c h g fa fb fc fd b b f d 0 0 0 0 0))] 0 [] []) [] [] []=some (OO.ret (.agg (nQ rf Qa fa fb fc fd k)),[],[],
 [Qr []/\lz c h g (fa) (fb) (fc) (fd) b b i j (0) (0) (0) (0) (0),Qr []/\Qn YP J0 97 #[QC a.length (Qe Qj a),Value.func (Fn.func 77) #[] #[]] (QC j.length (Qe Q5 j)),Qr []/\Qn YP J0 84 #[.agg (nN rf Qa),YI k] (nM rf Qa k),Qr []/\Qn YP J0 97 #[QC e.length (Qe Qj e),Value.func (Fn.func 76) #[] #[]] (QC i.length (Qe Q5 i)),Qr []/\Qn YP J0 83 #[.agg (nN rf Qa)] (nL rf)]):=by intro h g f d c e i b a j;kernel_rfl
theorem BY(B:Lo)(rf:Ql)(Qa:List Int)(fa fb fc fd k:Int):let a:=nQ rf Qa fa fb fc fd k;QO (Qo YP (Q1 YP) J0 B 6 1 (Qp YP 78 11 (([.agg (QF rf Qa).toArray,.agg #[YI fa,YI fb,YI fc,YI fd],YI k]).map (Q2 0 4))) XW 1
 [(6,Qh.call (Lg 4) (OO.ret (.agg a)) ([]++(4,Xx)::Xa 5 []) 5 [])] 0 [] []) []=some (.agg a,
 [FJ YP B (ag rf Qa fa fb fc fd k) (Ri rf Qa fa fb fc fd k) 4 (OO.ret (.agg a)) (([]++((4,Xx)::Xa (4+1) []))++Ri rf Qa fa fb fc fd k) 5 (Lg 4) []]):=by intro a;kernel_rfl
end
set_option maxHeartbeats 4000000 in
theorem Fh(rf:Ql)(Qa:List Int)(fa fb fc fd k:Int)(hr:XM rf=true)(hl:Qa.length<=4)(hp:∀j:Nat,0<=Qa.getD j 0/\Qa.getD j 0<=1000000)(k0:0<=k)(k1:k<4)(hf:R5 ⟨fa,fb,fc,fd⟩)(hs:F4.sum ⟨fa,fb,fc,fd⟩<=10000000000){B:Lo}(hJ:∀w,B.has w->J0 w):EndsT YP B (Qp YP 78 11 (([.agg (QF rf Qa).toArray,.agg #[YI fa,YI fb,YI fc,YI fd],YI k]).map (Q2 0 4))) (.agg #[YI (Q3 (Pm rf) (Pg rf (Qa.getD k.toNat 0)) rf.Qb ⟨fa,fb,fc,fd⟩).a,YI (Q3 (Pm rf) (Pg rf (Qa.getD k.toNat 0)) rf.Qb ⟨fa,fb,fc,fd⟩).b,YI (Q3 (Pm rf) (Pg rf (Qa.getD k.toNat 0)) rf.Qb ⟨fa,fb,fc,fd⟩).c,YI (Q3 (Pm rf) (Pg rf (Qa.getD k.toNat 0)) rf.Qb ⟨fa,fb,fc,fd⟩).d]):=by
 have ZA:=Q4 (Q8 hr).1;have hpc:=sZ hr;have hg1:KD rf.Qb.length ((rf.Qb.map XI).map av) 2000:=(db hr).1;have ht1:KD rf.Qb.length ((XE rf.Qb (Qa.getD k.toNat 0)).map a6) 1000000:=(cm hr (Qa.getD k.toNat 0)).2;have hle1:(XE rf.Qb (Qa.getD k.toNat 0)).length=rf.Qb.length:=WS;have hle2:(rf.Qb.map XI).length=rf.Qb.length:=by simp
 have rj0:FJ YP B (ag rf Qa fa fb fc fd k) (Ri rf Qa fa fb fc fd k) 4 (OO.ret (.agg #[YI (F4.a (Q3 (List.map av (List.map XI rf.Qb)) (List.map a6 (XE rf.Qb (Qa.getD k.toNat 0))) rf.Qb {a:=fa,b:=fb,c:=fc,d:=fd})),YI (F4.b (Q3 (List.map av (List.map XI rf.Qb)) (List.map a6 (XE rf.Qb (Qa.getD k.toNat 0))) rf.Qb {a:=fa,b:=fb,c:=fc,d:=fd})),YI (F4.c (Q3 (List.map av (List.map XI rf.Qb)) (List.map a6 (XE rf.Qb (Qa.getD k.toNat 0))) rf.Qb {a:=fa,b:=fb,c:=fc,d:=fd})),YI (F4.d (Q3 (List.map av (List.map XI rf.Qb)) (List.map a6 (XE rf.Qb (Qa.getD k.toNat 0))) rf.Qb {a:=fa,b:=fb,c:=fc,d:=fd}))])) (([]++((4,Xx)::Xa (4+1) []))++Ri rf Qa fa fb fc fd k) 5 (Lg 4) []:=by
  exact FinK.fjB (GoE.finK okF hJ Qf (Q6 (by kernel_rfl)) (Qy (by kernel_rfl)) ((GoE.refl (P:=YP) (B:=B) (c0:=ag rf Qa fa fb fc fd k) (Q6 (by kernel_rfl))).widen (Wf:=((([]):List (Nat×KS)).map (·.1))) (by simp) (Qy (by kernel_rfl))) (BZ B rf Qa fa fb fc fd k)
   ⟨⟨trivial,DF rf.Qb rf.Qc rf.Qd (fa) (fb) (fc) (fd) (.slice none 0 0) (.slice none 0 0) (List.map av (List.map XI rf.Qb)) (List.map a6 (XE rf.Qb (Qa.getD k.toNat 0))) (0) (0) (0) (0) (0) (by with_reducible assumption) (by with_reducible assumption) (by with_reducible assumption) (by with_reducible assumption) (by with_reducible assumption) (by omega) (by omega) (by omega)⟩,⟨⟨trivial,Cq (XE rf.Qb (Qa.getD k.toNat 0)) (by omega)⟩,⟨⟨trivial,Bs (rf) (Qa) (k) (by omega) (by with_reducible assumption) (by with_reducible assumption) (by with_reducible assumption) (by with_reducible assumption)⟩,⟨⟨trivial,Cp (List.map XI rf.Qb) (by omega)⟩,⟨⟨trivial,BR (rf) (Qa) (by omega)⟩,trivial⟩⟩⟩⟩⟩) (ex:=[]) (by kernel_rfl) (Vr _)
 exact(GoE.endsT okF hJ Qf GoE.start (BY B rf Qa fa fb fc fd k)
  ⟨rj0,trivial⟩).cast (by rfl)
theorem DK(rf:Ql)(Qa:List Int)(fa fb fc fd k:Int)(hr:XM rf=true)(hl:Qa.length<=4)(hp:∀j:Nat,0<=Qa.getD j 0/\Qa.getD j 0<=1000000)(k0:0<=k)(k1:k<4)(hf:R5 ⟨fa,fb,fc,fd⟩)(hs:F4.sum ⟨fa,fb,fc,fd⟩<=10000000000):Qn YP J0 78 #[.agg (QF rf Qa).toArray,.agg #[YI fa,YI fb,YI fc,YI fd],YI k] (.agg #[YI (Q3 (Pm rf) (Pg rf (Qa.getD k.toNat 0)) rf.Qb ⟨fa,fb,fc,fd⟩).a,YI (Q3 (Pm rf) (Pg rf (Qa.getD k.toNat 0)) rf.Qb ⟨fa,fb,fc,fd⟩).b,YI (Q3 (Pm rf) (Pg rf (Qa.getD k.toNat 0)) rf.Qb ⟨fa,fb,fc,fd⟩).c,YI (Q3 (Pm rf) (Pg rf (Qa.getD k.toNat 0)) rf.Qb ⟨fa,fb,fc,fd⟩).d]):=
 Xb (ts:=[.agg (QF rf Qa).toArray,.agg #[YI fa,YI fb,YI fc,YI fd],YI k]) XZ (c0:=Qp YP 78 11 (([.agg (QF rf Qa).toArray,.agg #[YI fa,YI fb,YI fc,YI fd],YI k]).map (Q2 0 4))) (by kernel_rfl) (by kernel_rfl) fun B hJ=>Fh rf Qa fa fb fc fd k hr hl hp k0 k1 hf hs hJ
section
variable (rf:Ql)(Qa:List Int)(fa fb fc fd k:Int)
def bg(fa fb fc fd k:Int):Qq:=[(3,Obj.cells #[YI 0,YI 0,YI 0,YI 0] 111),(2,Obj.cells #[YI fa,YI fb,YI fc,YI fd] 111),(1,Obj.cells #[Qw 0 (QC rf.Qb.length (Qe Qi rf.Qb)),YI rf.Qc,YI rf.Qd,YI (Qa.getD 0 0),YI (Qa.getD 1 0),YI (Qa.getD 2 0),YI (Qa.getD 3 0)] 84),(0,Obj.coro none)]
def gx:CF:=⟨98,ofList 28 [.agg #[Qw 0 (QC rf.Qb.length (Qe Qi rf.Qb)),YI rf.Qc,YI rf.Qd,YI (Qa.getD 0 0),YI (Qa.getD 1 0),YI (Qa.getD 2 0),YI (Qa.getD 3 0)],.agg #[YI fa,YI fb,YI fc,YI fd],YI k,Value.func (Fn.func 77) #[] #[],Value.func (Fn.func 76) #[] #[]],[Item.code (QG YP 98)],[],.run,none⟩
def wO:=(List.map av (XE rf.Qb (Qa.getD k.toNat 0)))
def wN:=(List.map a6 (List.map XI rf.Qb))
def wP:Array Value:=let e:=Q3 (wN rf) (wO rf Qa k) rf.Qb {a:=fa,b:=fb,c:=fc,d:=fd};#[YI e.a,YI e.b,YI e.c,YI e.d]
def wM:Array Value:=#[QC rf.Qb.length (Qe Qi rf.Qb),YI rf.Qc,YI rf.Qd,YI (Qa.getD 0 0),YI (Qa.getD 1 0),YI (Qa.getD 2 0),YI (Qa.getD 3 0)]
def wL:Value:=(QC (Lc (XE rf.Qb (Qa.getD k.toNat 0))) (Qe Qj (XE rf.Qb (Qa.getD k.toNat 0))))
def wK:Value:=(QC (Lc (List.map XI rf.Qb)) (Qe Qj (List.map XI rf.Qb)))
theorem Iy(B:Lo)(rf:Ql)(Qa:List Int)(fa fb fc fd k:Int):let h:=rf.Qc;let g:=wN rf;let f:=rf.Qd;let d:=wO rf Qa k;let c:=rf.Qb;let e:=List.map XI c;let i:=List.map a6 e;let b:=Value.slice none 0 0;let a:=XE c (Qa.getD k.toNat 0);let j:=List.map av a;CE.finK 4 (Qo YP (Q1 YP) J0 B 10 4 (gx rf Qa fa fb fc fd k) (bg rf Qa fa fb fc fd k) 4
 [(10,Qh.pure (wK rf) []),(12,Qh.pure (QC g.length (Qe Q5 g)) []),(15,Qh.pure (wL rf Qa k) []),(17,Qh.pure (QC d.length (Qe Q5 d)) []),(18,Qh.wri [7] [9,11,0] [false] [] (cJ c h f fa fb fc fd b b g d 0 0 0 0 0) (cI c h f fa fb fc fd b b g d 0 0 0 0 0) (cK c h f fa fb fc fd b b g d 0 0 0 0 0))] 0 [] []) [] [] []=some (OO.ret (.agg (wP rf Qa fa fb fc fd k)),[],[],
 [Qr []/\lz c h f (fa) (fb) (fc) (fd) b b i j (0) (0) (0) (0) (0),Qr []/\Qn YP J0 97 #[QC a.length (Qe Qj a),Value.func (Fn.func 76) #[] #[]] (QC j.length (Qe Q5 j)),Qr []/\Qn YP J0 84 #[.agg (wM rf Qa),YI k] (wL rf Qa k),Qr []/\Qn YP J0 97 #[QC e.length (Qe Qj e),Value.func (Fn.func 77) #[] #[]] (QC i.length (Qe Q5 i)),Qr []/\Qn YP J0 83 #[.agg (wM rf Qa)] (wK rf)]):=by intro h g f d c e i b a j;kernel_rfl
theorem Ix(B:Lo)(rf:Ql)(Qa:List Int)(fa fb fc fd k:Int):let a:=wP rf Qa fa fb fc fd k;QO (Qo YP (Q1 YP) J0 B 6 1 (Qp YP 79 11 (([.agg (QF rf Qa).toArray,.agg #[YI fa,YI fb,YI fc,YI fd],YI k]).map (Q2 0 4))) XW 1
 [(6,Qh.call (Lg 4) (OO.ret (.agg a)) ([]++(4,Xx)::Xa 5 []) 5 [])] 0 [] []) []=some (.agg a,
 [FJ YP B (gx rf Qa fa fb fc fd k) (bg rf Qa fa fb fc fd k) 4 (OO.ret (.agg a)) (([]++((4,Xx)::Xa (4+1) []))++bg rf Qa fa fb fc fd k) 5 (Lg 4) []]):=by intro a;kernel_rfl
end
set_option maxHeartbeats 4000000 in
theorem NB(rf:Ql)(Qa:List Int)(fa fb fc fd k:Int)(hr:XM rf=true)(hl:Qa.length<=4)(hp:∀j:Nat,0<=Qa.getD j 0/\Qa.getD j 0<=1000000)(k0:0<=k)(k1:k<4)(hf:R5 ⟨fa,fb,fc,fd⟩)(hs:F4.sum ⟨fa,fb,fc,fd⟩<=10000000000){B:Lo}(hJ:∀w,B.has w->J0 w):EndsT YP B (Qp YP 79 11 (([.agg (QF rf Qa).toArray,.agg #[YI fa,YI fb,YI fc,YI fd],YI k]).map (Q2 0 4))) (.agg #[YI (Q3 (Pn rf) (Pf rf (Qa.getD k.toNat 0)) rf.Qb ⟨fa,fb,fc,fd⟩).a,YI (Q3 (Pn rf) (Pf rf (Qa.getD k.toNat 0)) rf.Qb ⟨fa,fb,fc,fd⟩).b,YI (Q3 (Pn rf) (Pf rf (Qa.getD k.toNat 0)) rf.Qb ⟨fa,fb,fc,fd⟩).c,YI (Q3 (Pn rf) (Pf rf (Qa.getD k.toNat 0)) rf.Qb ⟨fa,fb,fc,fd⟩).d]):=by
 have ZA:=Q4 (Q8 hr).1;have hpc:=sZ hr;have hg1:KD rf.Qb.length ((rf.Qb.map XI).map a6) 2000:=(db hr).2;have ht1:KD rf.Qb.length ((XE rf.Qb (Qa.getD k.toNat 0)).map av) 1000000:=(cm hr (Qa.getD k.toNat 0)).1;have hle1:(XE rf.Qb (Qa.getD k.toNat 0)).length=rf.Qb.length:=WS;have hle2:(rf.Qb.map XI).length=rf.Qb.length:=by simp
 have rj0:FJ YP B (gx rf Qa fa fb fc fd k) (bg rf Qa fa fb fc fd k) 4 (OO.ret (.agg #[YI (F4.a (Q3 (List.map a6 (List.map XI rf.Qb)) (List.map av (XE rf.Qb (Qa.getD k.toNat 0))) rf.Qb {a:=fa,b:=fb,c:=fc,d:=fd})),YI (F4.b (Q3 (List.map a6 (List.map XI rf.Qb)) (List.map av (XE rf.Qb (Qa.getD k.toNat 0))) rf.Qb {a:=fa,b:=fb,c:=fc,d:=fd})),YI (F4.c (Q3 (List.map a6 (List.map XI rf.Qb)) (List.map av (XE rf.Qb (Qa.getD k.toNat 0))) rf.Qb {a:=fa,b:=fb,c:=fc,d:=fd})),YI (F4.d (Q3 (List.map a6 (List.map XI rf.Qb)) (List.map av (XE rf.Qb (Qa.getD k.toNat 0))) rf.Qb {a:=fa,b:=fb,c:=fc,d:=fd}))])) (([]++((4,Xx)::Xa (4+1) []))++bg rf Qa fa fb fc fd k) 5 (Lg 4) []:=by
  exact FinK.fjB (GoE.finK okF hJ Qf (Q6 (by kernel_rfl)) (Qy (by kernel_rfl)) ((GoE.refl (P:=YP) (B:=B) (c0:=gx rf Qa fa fb fc fd k) (Q6 (by kernel_rfl))).widen (Wf:=((([]):List (Nat×KS)).map (·.1))) (by simp) (Qy (by kernel_rfl))) (Iy B rf Qa fa fb fc fd k)
   ⟨⟨trivial,DF rf.Qb rf.Qc rf.Qd (fa) (fb) (fc) (fd) (.slice none 0 0) (.slice none 0 0) (List.map a6 (List.map XI rf.Qb)) (List.map av (XE rf.Qb (Qa.getD k.toNat 0))) (0) (0) (0) (0) (0) (by with_reducible assumption) (by with_reducible assumption) (by with_reducible assumption) (by with_reducible assumption) (by with_reducible assumption) (by omega) (by omega) (by omega)⟩,⟨⟨trivial,Cp (XE rf.Qb (Qa.getD k.toNat 0)) (by omega)⟩,⟨⟨trivial,Bs (rf) (Qa) (k) (by omega) (by with_reducible assumption) (by with_reducible assumption) (by with_reducible assumption) (by with_reducible assumption)⟩,⟨⟨trivial,Cq (List.map XI rf.Qb) (by omega)⟩,⟨⟨trivial,BR (rf) (Qa) (by omega)⟩,trivial⟩⟩⟩⟩⟩) (ex:=[]) (by kernel_rfl) (Vr _)
 exact(GoE.endsT okF hJ Qf GoE.start (Ix B rf Qa fa fb fc fd k)
  ⟨rj0,trivial⟩).cast (by rfl)
theorem O6(rf:Ql)(Qa:List Int)(fa fb fc fd k:Int)(hr:XM rf=true)(hl:Qa.length<=4)(hp:∀j:Nat,0<=Qa.getD j 0/\Qa.getD j 0<=1000000)(k0:0<=k)(k1:k<4)(hf:R5 ⟨fa,fb,fc,fd⟩)(hs:F4.sum ⟨fa,fb,fc,fd⟩<=10000000000):Qn YP J0 79 #[.agg (QF rf Qa).toArray,.agg #[YI fa,YI fb,YI fc,YI fd],YI k] (.agg #[YI (Q3 (Pn rf) (Pf rf (Qa.getD k.toNat 0)) rf.Qb ⟨fa,fb,fc,fd⟩).a,YI (Q3 (Pn rf) (Pf rf (Qa.getD k.toNat 0)) rf.Qb ⟨fa,fb,fc,fd⟩).b,YI (Q3 (Pn rf) (Pf rf (Qa.getD k.toNat 0)) rf.Qb ⟨fa,fb,fc,fd⟩).c,YI (Q3 (Pn rf) (Pf rf (Qa.getD k.toNat 0)) rf.Qb ⟨fa,fb,fc,fd⟩).d]):=
 Xb (ts:=[.agg (QF rf Qa).toArray,.agg #[YI fa,YI fb,YI fc,YI fd],YI k]) XZ (c0:=Qp YP 79 11 (([.agg (QF rf Qa).toArray,.agg #[YI fa,YI fb,YI fc,YI fd],YI k]).map (Q2 0 4))) (by kernel_rfl) (by kernel_rfl) fun B hJ=>NB rf Qa fa fb fc fd k hr hl hp k0 k1 hf hs hJ
end
end Go.Proofs.Ytncjjangllkokaa

namespace Go.Proofs.Ytncjjangllkokaa
open Go Go.CE Go.RowKit
noncomputable section
set_option maxRecDepth 100000
abbrev ZL(l:List Span):List Value:=[YK l]
structure Ay where
 z:Bool
 n:Nat
 l:List Span
deriving Inhabited
def encRSp(r:Ay):List Value:=[bif r.z then .slice none 0 0 else QC r.n (Qe Qj r.l)]
def Z3(rf:Ql):List (List Int):=Ka rf.Qd fun _=>Pm rf
def Z4(rf:Ql):List (List Int):=Ka rf.Qd fun _=>Pn rf
def ZP(rf:Ql)(Qa:List Int):List (List Int):=Ka rf.Qd fun s=>Pf rf (Qa.getD s.toNat 0)
def ZQ(rf:Ql)(Qa:List Int):List (List Int):=Ka rf.Qd fun s=>Pg rf (Qa.getD s.toNat 0)
def Wx(rf:Ql)(Qa:List Int)(k:Nat):F4:=aH rf.Qb (Z3 rf) (ZQ rf Qa) (Qu (Zr rf)) k
section
variable (rf:Ql)(Qa:List Int)(i s k:Int)
def Zy(k:Nat):F4:=aH rf.Qb (Z4 rf) (ZP rf Qa) (Qu (Zs rf)) k
def YJ:Span:=⟨(Wx rf Qa (s.toNat+1)).at k,(Zy rf Qa (s.toNat+1)).at k⟩
def X4:List Span:=Ka rf.Qb.length fun k=>YJ rf Qa s k
def Pc:List Ay:=Ka rf.Qd fun k=>if k<i then⟨false,rf.Qb.length,X4 rf Qa k⟩else⟨true,0,[]⟩
def QH:List (List Span):=Ka rf.Qd fun k=>X4 rf Qa k
end
theorem qS{l:List Int}(h:∀k:Int,0<=k->k<4->0<=nth l k/\nth l k<=4000000):R5 (Qu l)/\(Qu l).sum<=16000000:=by
 have a0:=h 0 (by omega) (by omega);have a1:=h 1 (by omega) (by omega);have a2:=h 2 (by omega) (by omega);have a3:=h 3 (by omega) (by omega);have es:(Qu l).sum=nth l 0+nth l 1+nth l 2+nth l 3:=rfl;exact⟨⟨⟨a0.1,a1.1,a2.1,a3.1⟩,by omega⟩,by omega⟩
theorem O0{rf:Ql}(hr:XM rf=true){g:Span->Int}(hg:∀s:Span,g s=s.lo\/g s=s.hi):∀k:Int,0<=k->k<4->0<=nth ((rf.Qb.map (XB rf.Qc)).map g) k/\nth ((rf.Qb.map (XB rf.Qc)).map g) k<=4000000:=fun k k0 k1=>by
 have hs:=Q4 (Q8 hr).1;by_cases hk:k<rf.Qb.length
 ·have hp:=Zx ((Q8 hr).2 k k0 hk).1;have hm:=Sq (a:=(rf.Qb.getD k.toNat La).count) (r:=rf.Qc) (by omega) (by omega);have hm2:(rf.Qb.getD k.toNat La).count*rf.Qc<=1000000*2000:=Int.mul_le_mul hp.1.2 hs.2.1.2 hs.2.1.1 (by omega);have e2:((rf.Qb.getD k.toNat La).count*rf.Qc).tdiv 1000=((rf.Qb.getD k.toNat La).count*rf.Qc) / 1000:=LO hm.1;rw[ao k0 hk];rcases hg (XB rf.Qc (rf.Qb.getD k.toNat La))with e|e
  ·rw[e];simp only[XB];omega
  ·rw[e];simp only[XB,Zm];omega
 ·unfold nth;rw[Lq,LA (by simp;omega)];exact⟨LR _,by decide⟩
theorem M6{rf:Ql}(hr:XM rf=true){gs ts:List (List Int)}{l:List Int}(hg:gs.length=rf.Qd)(ht:ts.length=rf.Qd)(rg:∀k:Nat,k<rf.Qd->KD rf.Qb.length (gs.getD k La) 2000)(rt:∀k:Nat,k<rf.Qd->KD rf.Qb.length (ts.getD k La) 1000000)(hl:R5 (Qu l)/\(Qu l).sum<=16000000):OkT rf.Qb rf.Qd gs ts (Qu l):=by
 have hs:=Q4 (Q8 hr).1;exact⟨sZ hr,by omega,by omega,by omega,hg,ht,rg,rt,hl.1,by omega⟩
theorem FX{rf:Ql}(hr:XM rf=true):R5 (Qu (Zr rf))/\(Qu (Zr rf)).sum<=16000000:=qS (O0 hr fun _=>.inl rfl)
theorem CS{rf:Ql}(hr:XM rf=true):R5 (Qu (Zs rf))/\(Qu (Zs rf)).sum<=16000000:=qS (O0 hr fun _=>.inr rfl)
theorem aq{rf:Ql}(Qa:List Int)(hr:XM rf=true):OkT rf.Qb rf.Qd (Z3 rf) (ZQ rf Qa) (Qu (Zr rf)):=by
 have hs:=Q4 (Q8 hr).1;refine M6 hr (by rw[Z3,Xk];omega) (by rw[ZQ,Xk];omega) (fun k hk=> ?_) (fun k hk=> ?_) (FX hr)
 ·have e:(Z3 rf).getD k La=Pm rf:=XQ (k:=(k:Int)) (by omega) hk;rw[e];exact(db hr).1
 ·have e:(ZQ rf Qa).getD k La=Pg rf (Qa.getD ((k:Int)).toNat 0):=XQ (k:=(k:Int)) (by omega) hk;rw[e];exact(cm hr _).2
theorem Sa{rf:Ql}(Qa:List Int)(hr:XM rf=true):OkT rf.Qb rf.Qd (Z4 rf) (ZP rf Qa) (Qu (Zs rf)):=by
 have hs:=Q4 (Q8 hr).1;refine M6 hr (by rw[Z4,Xk];omega) (by rw[ZP,Xk];omega) (fun k hk=> ?_) (fun k hk=> ?_) (CS hr)
 ·have e:(Z4 rf).getD k La=Pn rf:=XQ (k:=(k:Int)) (by omega) hk;rw[e];exact(db hr).2
 ·have e:(ZP rf Qa).getD k La=Pf rf (Qa.getD ((k:Int)).toNat 0):=XQ (k:=(k:Int)) (by omega) hk;rw[e];exact(cm hr _).1
theorem Kj{rf:Ql}{Qa:List Int}{i:Int}(h0:0<=i)(h:i<rf.Qd):Wx rf Qa (i+1).toNat=Q3 (Pm rf) (Pg rf (Qa.getD i.toNat 0)) rf.Qb (Wx rf Qa i.toNat):=by
 rw[show(i+1).toNat=i.toNat+1 by omega];show Q3 _ _ _ _=_;have e1:(Z3 rf).getD i.toNat La=Pm rf:=XQ h0 h;have e2:(ZQ rf Qa).getD i.toNat La=Pg rf (Qa.getD i.toNat 0):=XQ h0 h;rw[e1,e2];rfl
theorem VS{rf:Ql}{Qa:List Int}{i:Int}(h0:0<=i)(h:i<rf.Qd):Zy rf Qa (i+1).toNat=Q3 (Pn rf) (Pf rf (Qa.getD i.toNat 0)) rf.Qb (Zy rf Qa i.toNat):=by
 rw[show(i+1).toNat=i.toNat+1 by omega];show Q3 _ _ _ _=_;have e1:(Z4 rf).getD i.toNat La=Pn rf:=XQ h0 h;have e2:(ZP rf Qa).getD i.toNat La=Pf rf (Qa.getD i.toNat 0):=XQ h0 h;rw[e1,e2];rfl
theorem qQ{rf:Ql}{Qa:List Int}{i:Int}:(Pc rf Qa i).length=rf.Qd.toNat:=Xk
theorem Nm{rf:Ql}{Qa:List Int}:Ln rf.Qd.toNat ⟨true,0,[]⟩=Pc rf Qa 0:=by
 unfold Pc;refine List.ext_getElem? fun k=> ?_
 by_cases hk:k<rf.Qd.toNat
 ·rw[Jr hk,if_neg (by omega),List.getElem?_replicate,if_pos hk]
 ·rw[LA (by simp;omega),LA (by rw[Xk];omega)]
theorem S4{rf:Ql}{Qa:List Int}{i:Int}(h0:0<=i)(h:i<rf.Qd):(Pc rf Qa i).set i.toNat ⟨false,rf.Qb.length,X4 rf Qa i⟩=Pc rf Qa (i+1):=by
 unfold Pc;rw[fw h0 h];refine W5 fun k g0 g1=> ?_
 by_cases e:k=i
 ·subst e;rw[if_pos rfl,if_pos (by omega)]
 ·rw[if_neg e];by_cases e2:k<i
  ·rw[if_pos e2,if_pos (by omega)]
  ·rw[if_neg e2,if_neg (by omega)]
theorem vE{rf:Ql}{Qa:List Int}{s:Int}:(X4 rf Qa s).length=rf.Qb.length:=by rw[X4,Xk];omega
theorem vB:∀(l:List Int) (g:Int->List Span) (n:Nat),(∀k∈l,(g k).length=n)->Qe encRSp (l.map fun k=>⟨false,n,g k⟩)=Qe ZL (l.map g)
 |[],_,_,_=>rfl
 |k::l,g,n,h=>by
  have ih:=vB l g n fun k hk=>h k (Lw _ hk)
  have e:encRSp ⟨false,n,g k⟩=ZL (g k):=by show [QC n (Qe Qj (g k))]=_;rw[<-h k (List.mem_cons_self ..)]
  unfold Qe at ih ⊢;rw[List.map_cons,List.map_cons,LW,LW,e];apply Array.ext';have ih':=congrArg Array.toList ih;simp only at ih' ⊢;rw[ih']
theorem Es{rf:Ql}{Qa:List Int}{i:Int}(h:rf.Qd<=i):Qe encRSp (Pc rf Qa i)=Qe ZL (QH rf Qa):=by
 have e:Pc rf Qa i=(Yq 0 rf.Qd).map fun k=>⟨false,rf.Qb.length,X4 rf Qa k⟩:=W5 fun k g0 g1=>by rw[if_pos (by omega)]
 rw[e];exact vB _ _ _ fun k _=>vE
theorem Nl{rf:Ql}{Qa:List Int}{ys:List Ay}{i:Int}(ey:ys=Pc rf Qa i)(h0:0<=i)(h:i<rf.Qd):(ys.getD i.toNat La).z=true:=by
 rw[ey];unfold Pc;rw[XQ h0 h,if_neg (by omega)]
section
variable (B:Lo)(c0:CF)(rf:Ql)(Qa:List Int)(la lb lc ld ha hb hc hd:Int)(ys:List Ay)(i j:Int)(zs:List Span)(zn:Nat)
def K8(Qa:List Int)(la lb lc ld ha hb hc hd:Int)(ys:List Ay)(i:Int):List Value:=[pA 2 0,pA 3 0,pA 4 0,.slice (some {block:=5,off:=0}) (Lb rf.Qd) 1,YI rf.Qd,YI i]
def Uh(i:Int):List Obj:=[Obj.cells #[Qw 1 (QC rf.Qb.length (Qe Qi rf.Qb)),YI rf.Qc,YI rf.Qd,YI (Qa.getD 0 0),YI (Qa.getD 1 0),YI (Qa.getD 2 0),YI (Qa.getD 3 0)] 84,.cells #[YI la,YI lb,YI lc,YI ld] 111 (0,0),.cells #[YI ha,YI hb,YI hc,YI hd] 111 (0,0),.cells (Qe (pushE 1 encRSp) ys) 36 (0,0)]
def K9:List Item:=([.code [1,1,1,0,1,0,0],.inLoop [1,1,1,0,1,0,0],.inBlock 0,.code [1,1,1,1]]).map (it (QG YP 53))
def B3:Prop:=∃dJ:Nat->Value,(∀t,Xi (dJ t))/\GoE YP B c0 XW 1 (QA 53 56 (([1,3,4,5,18,19]:List Nat).zip (K8 rf Qa la lb lc ld ha hb hc hd ys i)) dJ K9) (Q9 (Uh rf Qa la lb lc ld ha hb hc hd ys i)) (2+(Uh rf Qa la lb lc ld ha hb hc hd ys i).length) []
def Re(Qa:List Int)(la lb lc ld ha hb hc hd:Int)(ys:List Ay)(i j:Int)(zs:List Span)(zn:Nat):List Value:=[pA 2 0,pA 3 0,pA 4 0,.slice (some {block:=5,off:=0}) (Lb rf.Qd) 1,YI i,YI rf.Qd,YI i,YI (↑rf.Qb.length:Int),YI j]
def YS(i j:Int)(zs:List Span)(zn:Nat):List Obj:=[Obj.cells #[Qw 1 (QC rf.Qb.length (Qe Qi rf.Qb)),YI rf.Qc,YI rf.Qd,YI (Qa.getD 0 0),YI (Qa.getD 1 0),YI (Qa.getD 2 0),YI (Qa.getD 3 0)] 84,.cells #[YI la,YI lb,YI lc,YI ld] 111 (0,0),.cells #[YI ha,YI hb,YI hc,YI hd] 111 (0,0),.cells (splice (Qe (pushE 1 encRSp) ys) (0+i.toNat*1) #[.slice (some ⟨6,0,none⟩) zn 2]) 36 (0,0),.cells (Qe Qj zs) 38 (0,0)]
def Rf:List Item:=([.code [1,1,1,0,1,0,0,1,1,0,0,1,1,1,0,0],.inLoop [1,1,1,0,1,0,0,1,1,0,0,1,1,1,0,0],.inBlock 2,.inBlock 1,.code [1,1,1,0,1,0,0,1,1,1],.inLoop [1,1,1,0,1,0,0],.inBlock 0,.code [1,1,1,1]]).map (it (QG YP 53))
def B2:Prop:=∃dJ:Nat->Value,(∀t,Xi (dJ t))/\GoE YP B c0 XW 1 (QA 53 56 (([1,3,4,5,6,18,19,33,34]:List Nat).zip (Re rf Qa la lb lc ld ha hb hc hd ys i j zs zn)) dJ Rf) (Q9 (YS rf Qa la lb lc ld ha hb hc hd ys i j zs zn)) (2+(YS rf Qa la lb lc ld ha hb hc hd ys i j zs zn).length) []
def TO:Array Value:=#[QC rf.Qb.length (Qe Qi rf.Qb),YI rf.Qc,YI rf.Qd,YI (Qa.getD 0 0),YI (Qa.getD 1 0),YI (Qa.getD 2 0),YI (Qa.getD 3 0)]
def Bu:Array Value:=(Qe Qj (zs++[{lo:=Qk [la,lb,lc,ld] j.toNat,hi:=Qk [ha,hb,hc,hd] j.toNat}]))
def nk:Value:=(.agg #[YI (Ld (Zr rf) 0 La),YI (Ld (Zr rf) 1 La),YI (Ld (Zr rf) 2 La),YI (Ld (Zr rf) 3 La)])
def nj:Value:=(.agg #[YI (Ld (Zs rf) 0 La),YI (Ld (Zs rf) 1 La),YI (Ld (Zs rf) 2 La),YI (Ld (Zs rf) 3 La)])
def ni:Array Value:=#[.slice (some {block:=6,off:=0}) zn 2]
def eA  :Array Value:=#[.slice (some {block:=7,off:=0}) 1 2]
def Bt:Array Value:=#[.slice (some {block:=8,off:=0}) (zn+1) 2]
def nh:Array Value:=(Qe (pushE 1 encRSp) (Ln (Lb rf.Qd) {z:=true,n:=0,l:=[]}))
def ng:Array Value:=(Qe (Ue [.slice none 0 0]) (Ln (Lb rf.Qd) ()))
def nf:Array Value:=#[YI ha,YI hb,YI hc,YI hd]
def j6:Array Value:=#[YI la,YI lb,YI lc,YI ld]
def wJ  :Array Value:=#[.slice (some {block:=6,off:=0}) 1 2]
def eB(B:Lo)(rf:Ql)(Qa:List Int)(la lb lc ld ha hb hc hd:Int)(ys:List Ay)(i:Int)(Qm:Nat->Value):List Prop:=let g:=Qa.getD i.toNat 0;let f:=Q3 (Pm rf) (Pg rf g) rf.Qb {a:=la,b:=lb,c:=lc,d:=ld};let e:=Q3 (Pn rf) (Pf rf g) rf.Qb {a:=ha,b:=hb,c:=hc,d:=hd};[Qr []/\Qn YP J0 79 #[.agg (TO rf Qa),.agg (nf ha hb hc hd),YI i] (.agg #[YI e.a,YI e.b,YI e.c,YI e.d]),Qr []/\Qn YP J0 78 #[.agg (TO rf Qa),.agg (j6 la lb lc ld),YI i] (.agg #[YI f.a,YI f.b,YI f.c,YI f.d]),XC i rf.Qd=true]++([]:List Prop)
def nm(ys:List Ay)(i:Int)(Qm:Nat->Value):Q7:=let g:=Qa.getD i.toNat 0;let f:=Q3 (Pn rf) (Pf rf g) rf.Qb {a:=ha,b:=hb,c:=hc,d:=hd};let e:=Q3 (Pm rf) (Pg rf g) rf.Qb {a:=la,b:=lb,c:=lc,d:=ld};[(0,Z5),(6,Qh.pure (.agg #[YI e.a,YI e.b,YI e.c,YI e.d]) []),(10,Qh.pure (.agg #[YI f.a,YI f.b,YI f.c,YI f.d]) [])]
theorem B0(B:Lo)(rf:Ql)(Qa:List Int)(la lb lc ld ha hb hc hd:Int)(ys:List Ay)(i:Int)(Qm:Nat->Value):let n:=rf.Qb;let k:=Uh rf Qa la lb lc ld ha hb hc hd ys i;let j:=Lb i;let h:=0+Lb i*1;let g:=Qe (pushE 1 encRSp) ys;let o:=splice g h wJ;let f:=Q3 (Pn rf) (Pf rf (Qa.getD j 0)) n {a:=ha,b:=hb,c:=hc,d:=hd};let e:=Q3 (Pm rf) (Pg rf (Qa.getD j 0)) n {a:=la,b:=lb,c:=lc,d:=ld};let m:=[{lo:=e.a,hi:=f.a}];let l:=Qe Qj [{lo:=e.a,hi:=f.a}];landM (Qo YP (Q1 YP) J0 B 28 1 (QA 53 56 (([1,3,4,5,18,19]:List Nat).zip (K8 rf Qa la lb lc ld ha hb hc hd ys i)) Qm K9) (Q9 k) (2+k.length)
 (nm rf Qa la lb lc ld ha hb hc hd ys i Qm++[(18,Z5),(25,Qh.XD (Hint.idx j)),(26,Qh.XD (Hint.ld (.slice none 0 0))),(36,Qh.XD (Hint.idx j)),(37,Qh.XD (Hint.st (splice g h eA)))]) 0 [] []) [1,3,4,5,6,18,19,33,34] [(2,KS.auto),(3,KS.auto),(4,KS.auto),(5,KS.rows [(1,1)] [] [(7,6)] o),(7,KS.cells [] l)] []=some ⟨53,56,Rf,[],.run,none,Re rf Qa e.a e.b e.c e.d f.a f.b f.c f.d (ys) (i) (1) m (1),YS rf Qa e.a e.b e.c e.d f.a f.b f.c f.d (ys) (i) (1) m (1),
 [Xj 1 [(1,1)] [] [(7,6)] (splice g h eA) o,Q0 1 [] (#[YI e.a,YI f.a]) l,0+Lb i*1+TypeInfo.size Try.t36<=LG g/\splice g h (Value.cells (Zc {len:=16000,tr:=Tri.set 14 (Tri.set 14 Tri.lf 51 (.slice (some {block:=7,off:=0}) 1 2)) 52 (.pointer (some {block:=5,off:=0+Lb i*1}))} 51))=splice g h eA,i=(↑j:Int)/\Lb i<Lb rf.Qd,g[0+Lb i*1]? =some (.slice none 0 0),i=(↑j:Int)/\Lb i<Lb rf.Qd,XC 0 (↑n.length:Int)=true]++eB B rf Qa la lb lc ld ha hb hc hd ys i Qm⟩:=by intro n k j h g o f e m l;kernel_rfl
theorem Bz(B:Lo)(rf:Ql)(Qa:List Int)(la lb lc ld ha hb hc hd:Int)(ys:List Ay)(i:Int)(Qm:Nat->Value):let k:=Qa.getD i.toNat 0;let j:=rf.Qb;let h:=Uh rf Qa la lb lc ld ha hb hc hd ys i;let g:=Qe (pushE 1 encRSp) ys;let f:=Q3 (Pn rf) (Pf rf k) j {a:=ha,b:=hb,c:=hc,d:=hd};let e:=Q3 (Pm rf) (Pg rf k) j {a:=la,b:=lb,c:=lc,d:=ld};landM (Qo YP (Q1 YP) J0 B 23 1 (QA 53 56 (([1,3,4,5,18,19]:List Nat).zip (K8 rf Qa la lb lc ld ha hb hc hd ys i)) Qm K9) (Q9 h) (2+h.length)
 (nm rf Qa la lb lc ld ha hb hc hd ys i Qm++[(18,ZW),(19,Wy (i+1))]) 0 [] []) [1,3,4,5,18,19] [(2,KS.auto),(3,KS.auto),(4,KS.auto),(5,KS.rows [(1,1)] [] [] g)] []=some ⟨53,56,K9,[],.run,none,K8 rf Qa e.a e.b e.c e.d f.a f.b f.c f.d (ys) (i+1),Uh rf Qa e.a e.b e.c e.d f.a f.b f.c f.d (ys) (i+1),
 [Xj 1 [(1,1)] [] [] g g,wq (i+1)=i+1,XC 0 (↑j.length:Int)=false]++eB B rf Qa la lb lc ld ha hb hc hd ys i Qm⟩:=by intro k j h g f e;kernel_rfl
theorem By(B:Lo)(rf:Ql)(Qa:List Int)(la lb lc ld ha hb hc hd:Int)(ys:List Ay)(i:Int)(Qm:Nat->Value):let b:=Uh rf Qa la lb lc ld ha hb hc hd ys i;let a:=Fz.cs {k:=5,rs:=[1],cs:=Qe encRSp ys};QO (Qo YP (Q1 YP) J0 B 9 1 (QA 53 56 (([1,3,4,5,18,19]:List Nat).zip (K8 rf Qa la lb lc ld ha hb hc hd ys i)) Qm K9) (Q9 b) (2+b.length)
 [(0,ZW)] 0 [] []) [{k:=5,rs:=[1],cs:=Qe encRSp ys}]=some (QC (Lb rf.Qd) a,
 [X8 (Fz.rs {k:=5,rs:=[1],cs:=Qe encRSp ys}) (Qe (pushE 1 encRSp) ys) a,XC i rf.Qd=false]):=by intro b a;kernel_rfl
theorem Bx(B:Lo)(rf:Ql)(Qa:List Int)(la lb lc ld ha hb hc hd:Int)(ys:List Ay)(i j:Int)(zs:List Span)(zn:Nat)(Qm:Nat->Value):let o:=Bt zn;let n:=Lb i;let g:=YS rf Qa la lb lc ld ha hb hc hd ys i j zs zn;let e:=some {block:=6,off:=0};let d:=Lb j;let l:=Qk [ha,hb,hc,hd] d;let k:=Qk [la,lb,lc,ld] d;let p:=YI k;let f:=zs++[{lo:=Qk [la,lb,lc,ld] d,hi:=Qk [ha,hb,hc,hd] d}];let c:=0+Lb i*1;let b:=Bu la lb lc ld ha hb hc hd j zs;let a:=Qe (pushE 1 encRSp) ys;let m:=splice a c #[.slice e (zn+1) 2];let h:=splice a c (ni zn);landM (Qo YP (Q1 YP) J0 B 13 1 (QA 53 56 (([1,3,4,5,6,18,19,33,34]:List Nat).zip (Re rf Qa la lb lc ld ha hb hc hd ys i j zs zn)) Qm Rf) (Q9 g) (2+g.length)
 [(0,Z5),(7,Qh.XD (Hint.idx n)),(8,Qh.XD (Hint.ld (.slice e zn 2))),(10,Qh.XD (Hint.idx d)),(11,Qh.XD (Hint.ld p)),(13,Qh.XD (Hint.idx d)),(14,Qh.XD (Hint.ld (YI l))),(17,Qh.XD (Hint.app b)),(18,Qh.XD (Hint.idx n)),(19,Qh.XD (Hint.st (splice a c o))),(20,Wy (j+1))] 0 [] []) [1,3,4,5,6,18,19,33,34] [(2,KS.auto),(3,KS.auto),(4,KS.auto),(5,KS.rows [(1,1)] [] [(8,6)] m),(8,KS.cells [] b)] []=some ⟨53,56,Rf,[],.run,none,Re rf Qa (la) (lb) (lc) (ld) (ha) (hb) (hc) (hd) (ys) (i) (j+1) f (zn+1),YS rf Qa (la) (lb) (lc) (ld) (ha) (hb) (hc) (hd) (ys) (i) (j+1) f (zn+1),
 [Xj 1 [(1,1)] [] [(8,6)] (splice a c o) m,Q0 1 [] b b,wq (j+1)=j+1,0+Lb i*1+TypeInfo.size Try.t36<=LG h/\splice h c (Value.cells (Zc {len:=16000,tr:=Tri.set 14 (Tri.set 14 Tri.lf 51 (.slice (some {block:=8,off:=0}) (zn+1) 2)) 52 (.pointer (some {block:=5,off:=0+Lb i*1}))} 51))=splice a c o,i=(↑n:Int)/\Lb i<Lb rf.Qd,Rv (Qe Qj zs) #[YI k,YI l] b zn (1+1) 16,(nf ha hb hc hd)[0+Lb j*1]? =some (YI l),j=(↑d:Int)/\Lb j<4,(j6 la lb lc ld)[0+Lb j*1]? =some p,j=(↑d:Int)/\Lb j<4,h[0+Lb i*1]? =some (.slice e zn 2),i=(↑n:Int)/\Lb i<Lb rf.Qd,XC j (↑rf.Qb.length:Int)=true]⟩:=by intro o n g e d l k p f c b a m h;kernel_rfl
theorem Bw(B:Lo)(rf:Ql)(Qa:List Int)(la lb lc ld ha hb hc hd:Int)(ys:List Ay)(i j:Int)(zs:List Span)(zn:Nat)(Qm:Nat->Value):let c:=pushE 1 encRSp;let b:=YS rf Qa la lb lc ld ha hb hc hd ys i j zs zn;let a:=LM ys i.toNat {z:=false,n:=zn,l:=zs};landM (Qo YP (Q1 YP) J0 B 8 1 (QA 53 56 (([1,3,4,5,6,18,19,33,34]:List Nat).zip (Re rf Qa la lb lc ld ha hb hc hd ys i j zs zn)) Qm Rf) (Q9 b) (2+b.length)
 [(0,ZW),(1,Wy (i+1))] 0 [] []) [1,3,4,5,18,19] [(2,KS.auto),(3,KS.auto),(4,KS.auto),(5,KS.rows [(1,1)] [6] [] (Qe c a))] [{k:=6,rs:=[],cs:=Qe Qj zs}]=some ⟨53,56,K9,[],.run,none,K8 rf Qa (la) (lb) (lc) (ld) (ha) (hb) (hc) (hd) a (i+1),Uh rf Qa (la) (lb) (lc) (ld) (ha) (hb) (hc) (hd) a (i+1),
 [Xj 1 [(1,1)] [(6,Fz.cs {k:=6,rs:=[],cs:=Qe Qj zs})] [] (splice (Qe c ys) (0+Lb i*1) (ni zn)) (Qe c a),X8 (Fz.rs {k:=6,rs:=[],cs:=Qe Qj zs}) (Qe Qj zs) (Fz.cs {k:=6,rs:=[],cs:=Qe Qj zs}),wq (i+1)=i+1,XC j (↑rf.Qb.length:Int)=false]⟩:=by intro c b a;kernel_rfl
theorem Bv(B:Lo)(rf:Ql)(Qa:List Int):let k:=Ld (Zs rf) 3 La;let j:=Ld (Zs rf) 2 La;let i:=Ld (Zs rf) 1 La;let h:=Ld (Zs rf) 0 La;let g:=Ld (Zr rf) 3 La;let f:=Ld (Zr rf) 2 La;let e:=Ld (Zr rf) 1 La;let d:=Ld (Zr rf) 0 La;let a:=rf.Qd;let m:=Lb a;let c:=Ln m {z:=true,n:=0,l:=[]};let b:=Zc {len:=16000,tr:=Tri.set 14 Tri.lf 14 (YI a)} 14;landM (Qo YP (Q1 YP) J0 B 11 1 (Qp YP 53 56 (([.agg (QF rf Qa).toArray]).map (Q2 0 4))) XW 1
 [(3,Qh.pure (nk rf) []),(5,Qh.pure (nj rf) []),(13,Qh.XD (Hint.mk m (ng rf)))] 0 [] []) [1,3,4,5,18,19] [(1,KS.auto),(2,KS.auto),(3,KS.auto),(4,KS.rows [] [] [] (nh rf))] []=some ⟨53,56,K9,[],.run,none,K8 rf Qa d e f g h i j k c (0),Uh rf Qa d e f g h i j k c (0),
 [Xj 1 [] [] [] (ng rf) (nh rf),Sg YP 30 b b=some (36,Qe (Ue [.slice none 0 0]) (Ln m ()),Lb a,TypeInfo.size Try.t36),Qr []/\Qn YP J0 75 #[.agg (TO rf Qa),Value.func (Fn.func 77) #[] #[]] (nj rf),Qr []/\Qn YP J0 75 #[.agg (TO rf Qa),Value.func (Fn.func 76) #[] #[]] (nk rf)]⟩:=by intro k j i h g f e d a m c b;kernel_rfl
end
set_option maxHeartbeats 4000000 in
theorem B1(rf:Ql)(Qa:List Int)(hr:XM rf=true)(hl:Qa.length<=4)(hp:∀j:Nat,0<=Qa.getD j 0/\Qa.getD j 0<=1000000){B:Lo}(hJ:∀w,B.has w->J0 w){c0:CF}:∀m:Nat,(∀(la lb lc ld ha hb hc hd:Int) (ys:List Ay) (i:Int),100*(rf.Qd-i).toNat=m->∀(h0:0<=i) (h1:i<=rf.Qd) (el:(⟨la,lb,lc,ld⟩:F4)=Wx rf Qa i.toNat) (eh:(⟨ha,hb,hc,hd⟩:F4)=Zy rf Qa i.toNat) (ey:ys=Pc rf Qa i),B3 B c0 rf Qa la lb lc ld ha hb hc hd ys i->EndsT YP B c0 (QC (QH rf Qa).length (Qe ZL (QH rf Qa))))/\(∀(la lb lc ld ha hb hc hd:Int) (ys:List Ay) (i j:Int) (zs:List Span) (zn:Nat),100*(rf.Qd-i).toNat-99+(rf.Qb.length-j.toNat)=m->∀(h0:0<=i) (h1:i<rf.Qd) (j0:1<=j) (j1:j<=rf.Qb.length) (hz:zn=zs.length) (hzb:(zn:Int)=j) (ez:zs=(Yq 0 j).map (YJ rf Qa i)) (el:(⟨la,lb,lc,ld⟩:F4)=Wx rf Qa (i+1).toNat) (eh:(⟨ha,hb,hc,hd⟩:F4)=Zy rf Qa (i+1).toNat) (ey:ys=Pc rf Qa i),B2 B c0 rf Qa la lb lc ld ha hb hc hd ys i j zs zn->EndsT YP B c0 (QC (QH rf Qa).length (Qe ZL (QH rf Qa)))):=by
 intro m0;induction m0 using Lz with
 |_ m0 ih0=>
  refine⟨?_, ?_⟩
  ·intro la lb lc ld ha hb hc hd ys i YA h0 h1 el eh ey ⟨Qm,ZF,Xs⟩;have ZA:=Q4 (Q8 hr).1;have hok1:=aq Qa hr;have hok2:=Sa Qa hr;have ZA:=Q4 (Q8 hr).1;have hok1:=aq Qa hr;have hok2:=Sa Qa hr;have hyl:ys.length=rf.Qd.toNat:=by rw[ey];exact qQ
   have hst1:=hok1.st i.toNat (by omega);have hst2:=hok2.st i.toNat (by omega);have hf1:R5 ⟨la,lb,lc,ld⟩:=by rw[el];exact hst1.1
   have hf2:R5 ⟨ha,hb,hc,hd⟩:=by rw[eh];exact hst2.1
   have hss1:=hok1.hs;have hss2:=hok2.hs;have hs1:F4.sum ⟨la,lb,lc,ld⟩<=10000000000:=by rw[el];have:=hst1.2;unfold Wx;omega
   have hs2:F4.sum ⟨ha,hb,hc,hd⟩<=10000000000:=by rw[eh];have:=hst2.2;unfold Zy;omega
   have hti:(i+1).toNat=i.toNat+1:=by omega
   by_cases q0:(i:Int)<rf.Qd
   ·have Vw:Qr (eB B rf Qa la lb lc ld ha hb hc hd ys i Qm):=by
     have JZ:=Kj (Qa:=Qa) h0 q0;have hn2:=VS (Qa:=Qa) h0 q0;rw[<-el]at JZ;rw[<-eh]at hn2;have hse:=S4 (Qa:=Qa) h0 q0;exact⟨⟨trivial,O6 (rf) (Qa) (ha) (hb) (hc) (hd) (i) (by with_reducible assumption) (by with_reducible assumption) (by with_reducible assumption) (by with_reducible assumption) (by omega) (by with_reducible assumption) (by with_reducible assumption)⟩,⟨⟨trivial,DK (rf) (Qa) (la) (lb) (lc) (ld) (i) (by with_reducible assumption) (by with_reducible assumption) (by with_reducible assumption) (by with_reducible assumption) (by omega) (by with_reducible assumption) (by with_reducible assumption)⟩,⟨(Xd q0),trivial⟩⟩⟩
    by_cases q1:(0:Int)<((↑rf.Qb.length:Int))
    ·cases q2:Ay.z (ys.getD i.toNat La)with
     |true=>
      have JZ:=Kj (Qa:=Qa) h0 q0;have hn2:=VS (Qa:=Qa) h0 q0;rw[<-el]at JZ;rw[<-eh]at hn2;have hse:=S4 (Qa:=Qa) h0 q0;exact((ih0 _ (by omega)).2 (F4.a (Q3 (Pm rf) (Pg rf (Qa.getD i.toNat 0)) rf.Qb {a:=la,b:=lb,c:=lc,d:=ld})) (F4.b (Q3 (Pm rf) (Pg rf (Qa.getD i.toNat 0)) rf.Qb {a:=la,b:=lb,c:=lc,d:=ld})) (F4.c (Q3 (Pm rf) (Pg rf (Qa.getD i.toNat 0)) rf.Qb {a:=la,b:=lb,c:=lc,d:=ld})) (F4.d (Q3 (Pm rf) (Pg rf (Qa.getD i.toNat 0)) rf.Qb {a:=la,b:=lb,c:=lc,d:=ld})) (F4.a (Q3 (Pn rf) (Pf rf (Qa.getD i.toNat 0)) rf.Qb {a:=ha,b:=hb,c:=hc,d:=hd})) (F4.b (Q3 (Pn rf) (Pf rf (Qa.getD i.toNat 0)) rf.Qb {a:=ha,b:=hb,c:=hc,d:=hd})) (F4.c (Q3 (Pn rf) (Pf rf (Qa.getD i.toNat 0)) rf.Qb {a:=ha,b:=hb,c:=hc,d:=hd})) (F4.d (Q3 (Pn rf) (Pf rf (Qa.getD i.toNat 0)) rf.Qb {a:=ha,b:=hb,c:=hc,d:=hd})) (ys) (i) (1) ([{lo:=F4.a (Q3 (Pm rf) (Pg rf (Qa.getD i.toNat 0)) rf.Qb {a:=la,b:=lb,c:=lc,d:=ld}),hi:=F4.a (Q3 (Pn rf) (Pf rf (Qa.getD i.toNat 0)) rf.Qb {a:=ha,b:=hb,c:=hc,d:=hd})}]) (1) rfl (by with_reducible assumption) (by with_reducible assumption) (by omega) (by omega) (by rfl) (by omega) (by(show _=[YJ rf Qa i 0];unfold YJ;rw[<-hti,JZ,hn2];rfl)) (by exact JZ.symm) (by exact hn2.symm) (by with_reducible assumption)
       (Xs.landM okF hJ Qf (B0 B rf Qa la lb lc ld ha hb hc hd ys i Qm)
       (by exact⟨(by exact(kz (Xe (Xz (by(intro x_;rcases x_ with ⟨_|_,_,_⟩ <;> rfl))) (Lj _)) (by exact⟨.keep (Lj _),trivial⟩))),⟨(Xt (by kernel_rfl)),⟨⟨(by exact fH (z:=1) (k:=Lb i) (fun _=>rfl) (by first|omega|(rw[LS];omega)|(rw[LF];omega)) rfl),rfl⟩,⟨⟨by omega,by omega⟩,⟨(by exact GJ (z:=1) (j:=0) (k:=Lb i) (fun _=>rfl) (by omega) (by(simp only[Go.CE.pushE,Go.Proofs.Ytncjjangllkokaa.encRSp,q2];rfl))),⟨⟨by omega,by omega⟩,⟨(Xd q1),Vw⟩⟩⟩⟩⟩⟩⟩) (by kernel_rfl) (by kernel_rfl))).cast (by rfl)
     |false=>
      exfalso
      (exact Bool.noConfusion ((Nl ey h0 (by omega)).symm.trans ‹(ys.getD i.toNat La).z=false›))
    ·have JZ:=Kj (Qa:=Qa) h0 q0;have hn2:=VS (Qa:=Qa) h0 q0;rw[<-el]at JZ;rw[<-eh]at hn2;have hse:=S4 (Qa:=Qa) h0 q0;exact((ih0 _ (by omega)).1 (F4.a (Q3 (Pm rf) (Pg rf (Qa.getD i.toNat 0)) rf.Qb {a:=la,b:=lb,c:=lc,d:=ld})) (F4.b (Q3 (Pm rf) (Pg rf (Qa.getD i.toNat 0)) rf.Qb {a:=la,b:=lb,c:=lc,d:=ld})) (F4.c (Q3 (Pm rf) (Pg rf (Qa.getD i.toNat 0)) rf.Qb {a:=la,b:=lb,c:=lc,d:=ld})) (F4.d (Q3 (Pm rf) (Pg rf (Qa.getD i.toNat 0)) rf.Qb {a:=la,b:=lb,c:=lc,d:=ld})) (F4.a (Q3 (Pn rf) (Pf rf (Qa.getD i.toNat 0)) rf.Qb {a:=ha,b:=hb,c:=hc,d:=hd})) (F4.b (Q3 (Pn rf) (Pf rf (Qa.getD i.toNat 0)) rf.Qb {a:=ha,b:=hb,c:=hc,d:=hd})) (F4.c (Q3 (Pn rf) (Pf rf (Qa.getD i.toNat 0)) rf.Qb {a:=ha,b:=hb,c:=hc,d:=hd})) (F4.d (Q3 (Pn rf) (Pf rf (Qa.getD i.toNat 0)) rf.Qb {a:=ha,b:=hb,c:=hc,d:=hd})) (ys) (i+1) rfl (by omega) (by omega) (by omega) (by omega) (by omega)
      (Xs.landM okF hJ Qf (Bz B rf Qa la lb lc ld ha hb hc hd ys i Qm)
      (by exact⟨(by exact(Xe (Xz (by(intro x_;rcases x_ with ⟨_|_,_,_⟩ <;> rfl))) (Lj _))),⟨(QY (by omega) (by omega)),⟨(X9 (Int.not_lt.1 q1)),Vw⟩⟩⟩) (by kernel_rfl) (by kernel_rfl))).cast (by rfl)
   ·exact(GoE.endsT okF hJ Qf Xs (By B rf Qa la lb lc ld ha hb hc hd ys i Qm)
     ⟨(ZS (Xz (by(intro x_;rcases x_ with ⟨_|_,_,_⟩ <;> rfl))) (Lj _)),⟨(X9 (Int.not_lt.1 q0)),trivial⟩⟩).cast (by(show QC rf.Qd.toNat (Qe encRSp ys)=_;rw[show(QH rf Qa).length=rf.Qd.toNat from Xk,<-Es (i:=i) (by omega),<-ey]))
  ·intro la lb lc ld ha hb hc hd ys i j zs zn YA h0 h1 j0 j1 hz hzb ez el eh ey ⟨Qm,ZF,Xs⟩;have ZA:=Q4 (Q8 hr).1;have hok1:=aq Qa hr;have hok2:=Sa Qa hr;have ZA:=Q4 (Q8 hr).1;have hok1:=aq Qa hr;have hok2:=Sa Qa hr;have hyl:ys.length=rf.Qd.toNat:=by rw[ey];exact qQ
   have hsel1:Qk [la,lb,lc,ld] j.toNat=F4.at (Wx rf Qa (i+1).toNat) j:=by rw[<-el];rfl
   have hsel2:Qk [ha,hb,hc,hd] j.toNat=F4.at (Zy rf Qa (i+1).toNat) j:=by rw[<-eh];rfl
   have hti:(i+1).toNat=i.toNat+1:=by omega
   by_cases q0:(j:Int)<((↑rf.Qb.length:Int))
   ·have hse:=S4 (Qa:=Qa) h0 h1;exact((ih0 _ (by omega)).2 (la) (lb) (lc) (ld) (ha) (hb) (hc) (hd) (ys) (i) (j+1) (zs++[{lo:=Qk [la,lb,lc,ld] j.toNat,hi:=Qk [ha,hb,hc,hd] j.toNat}]) (zn+1) rfl (by with_reducible assumption) (by with_reducible assumption) (by omega) (by omega) (by(rw[Li];simp;omega)) (by omega) (by(rw[PM (by omega),List.map_append,<-ez,hsel1,hsel2,hti];rfl)) (by with_reducible assumption) (by with_reducible assumption) (by with_reducible assumption)
     (Xs.landM okF hJ Qf (Bx B rf Qa la lb lc ld ha hb hc hd ys i j zs zn Qm)
     (by exact⟨(by exact(kz (Xe (Xz (by(intro x_;rcases x_ with ⟨_|_,_,_⟩ <;> rfl))) (Lj _)) (by exact⟨.keep (Lj _),trivial⟩))),⟨(Zf fun _=>by rfl),⟨(QY (by omega) (by omega)),⟨(Et (by exact Nat.lt_of_succ_le (fH (z:=1) (z':=1) (fun _=>rfl) (by first|omega|(rw[LS];omega)|(rw[LF];omega)) rfl))),⟨⟨by omega,by omega⟩,⟨⟨(by(rw[QZ (z:=2) (fun _=>rfl)];first|omega|(simp;omega)|(simp_all;done))),(by unfold maxLen;omega),by omega,by first|exact X1|exact Xq rfl⟩,⟨(ZC rfl (Lu (m:=4) (by omega) rfl)),⟨⟨by omega,by omega⟩,⟨(ZC rfl (Lu (m:=4) (by omega) rfl)),⟨⟨by omega,by omega⟩,⟨(Eu (by exact Nat.lt_of_succ_le (fH (z:=1) (z':=1) (fun _=>rfl) (by first|omega|(rw[LS];omega)|(rw[LF];omega)) rfl))),⟨⟨by omega,by omega⟩,⟨(Xd q0),trivial⟩⟩⟩⟩⟩⟩⟩⟩⟩⟩⟩⟩⟩) (by kernel_rfl) (by kernel_rfl))).cast (by rfl)
   ·have hse:=S4 (Qa:=Qa) h0 h1;exact((ih0 _ (by omega)).1 (la) (lb) (lc) (ld) (ha) (hb) (hc) (hd) (LM ys i.toNat {z:=false,n:=zn,l:=zs}) (i+1) rfl (by omega) (by omega) (by with_reducible assumption) (by with_reducible assumption) (by(rw[ey,show zn=rf.Qb.length by omega,ez,show j=rf.Qb.length by omega];exact hse))
     (Xs.landM okF hJ Qf (Bw B rf Qa la lb lc ld ha hb hc hd ys i j zs zn Qm)
     (by exact⟨(by exact(cb (z:=1) (k:=Lb i) (fun _=>rfl) (Xe (Xz (by(intro x_;rcases x_ with ⟨_|_,_,_⟩ <;> rfl))) (Lj _)) (by omega) (by exact⟨(.own (Lj _)),trivial⟩))),⟨(Xc (fun x=>List.all_eq_true.1 (by rfl))),⟨(QY (by omega) (by omega)),⟨(X9 (Int.not_lt.1 q0)),trivial⟩⟩⟩⟩) (by kernel_rfl) (by kernel_rfl))).cast (by rfl)
set_option maxHeartbeats 4000000 in
theorem EP(rf:Ql)(Qa:List Int)(hr:XM rf=true)(hl:Qa.length<=4)(hp:∀j:Nat,0<=Qa.getD j 0/\Qa.getD j 0<=1000000){B:Lo}(hJ:∀w,B.has w->J0 w):EndsT YP B (Qp YP 53 56 (([.agg (QF rf Qa).toArray]).map (Q2 0 4))) (QC (QH rf Qa).length (Qe ZL (QH rf Qa))):=by
 have ZA:=Q4 (Q8 hr).1;have hok1:=aq Qa hr;have hok2:=Sa Qa hr;exact((B1 rf Qa hr hl hp hJ _).1 (Ld (Zr rf) 0 La) (Ld (Zr rf) 1 La) (Ld (Zr rf) 2 La) (Ld (Zr rf) 3 La) (Ld (Zs rf) 0 La) (Ld (Zs rf) 1 La) (Ld (Zs rf) 2 La) (Ld (Zs rf) 3 La) (Ln (Lb rf.Qd) {z:=true,n:=0,l:=[]}) (0) rfl (by omega) (by omega) (by rfl) (by rfl) (by exact Nm)
  (GoE.start.landM okF hJ Qf (Bv B rf Qa)
  (by exact⟨(by exact(V2 (by exact⟨(.simple rfl),trivial⟩) _)),⟨(fg (bytes:=24) (by kernel_rfl) (by omega) (by omega) (by omega)),⟨⟨trivial,DJ (rf) (Qa) (by with_reducible assumption)⟩,⟨⟨trivial,DI (rf) (Qa) (by with_reducible assumption)⟩,trivial⟩⟩⟩⟩) (by kernel_rfl) (by kernel_rfl))).cast (by rfl)
theorem N8(rf:Ql)(Qa:List Int)(hr:XM rf=true)(hl:Qa.length<=4)(hp:∀j:Nat,0<=Qa.getD j 0/\Qa.getD j 0<=1000000):Qn YP J0 53 #[.agg (QF rf Qa).toArray] (QC (QH rf Qa).length (Qe ZL (QH rf Qa))):=
 Xb (ts:=[.agg (QF rf Qa).toArray]) XZ (c0:=Qp YP 53 56 (([.agg (QF rf Qa).toArray]).map (Q2 0 4))) (by kernel_rfl) (by kernel_rfl) fun B hJ=>EP rf Qa hr hl hp hJ
end
end Go.Proofs.Ytncjjangllkokaa

namespace Go.Proofs.Ytncjjangllkokaa
open Go Go.CE Go.RowKit
noncomputable section
abbrev Kc(xs:List (List Span)):Value:=QC xs.length (Qe ZL xs)
def Cf(rf:Ql)(Qa:List Int):Array Value:=#[QC rf.Qb.length (Qe Qi rf.Qb),YI rf.Qc,YI rf.Qd,YI (Qa.getD 0 0),YI (Qa.getD 1 0),YI (Qa.getD 2 0),YI (Qa.getD 3 0)]
def eM(rf:Ql):Array Value:=#[QC rf.Qb.length (Qe Qi rf.Qb),YI rf.Qc,YI rf.Qd]
def eL(rf:Ql)(Qa:List Int):Array Value:=#[.agg (eM rf),QC Qa.length (Qe Q5 Qa)]
def eN(B:Lo)(rf:Ql)(Qa:List Int):List Prop:=[Qr []/\Qn YP J0 50 #[.agg (eM rf)] (.bool true)]++([]:List Prop)
def nZ(rf:Ql)(Qa:List Int):Q7:=[(4,Qh.pure (.bool true) [])]
set_option maxRecDepth 100000 in
theorem Ci(B:Lo)(rf:Ql)(Qa:List Int):let b:=Cf rf Qa;let a:=QH rf Qa;let c:=QC a.length (Qe ZL a);QO (Qo YP (Q1 YP) J0 B 11 1 (Qp YP 18 19 (([.agg (Qv rf).toArray,XH Qa]).map (Q2 0 4))) XW 1
 (nZ rf Qa++[(9,Qh.pure (.bool true) []),(14,Qh.pure (.agg b) []),(15,Qh.pure c [])]) 0 [] []) []=some (.tuple #[QC a.length (Qe ZL a),YI 0],
 [Qr []/\Qn YP J0 53 #[.agg b] c,Qr []/\Qn YP J0 52 (eL rf Qa) (.agg b),Qr []/\Qn YP J0 51 (eL rf Qa) (.bool true)]++eN B rf Qa):=by intro b a c;kernel_rfl
set_option maxRecDepth 100000 in
theorem Ch(B:Lo)(rf:Ql)(Qa:List Int):QO (Qo YP (Q1 YP) J0 B 10 1 (Qp YP 18 19 (([.agg (Qv rf).toArray,XH Qa]).map (Q2 0 4))) XW 1
 (nZ rf Qa++[(9,Qh.pure (.bool false) [])]) 0 [] []) []=some (.tuple #[QC 0 #[],YI 2],
 [Qr []/\Qn YP J0 51 (eL rf Qa) (.bool false)]++eN B rf Qa):=by kernel_rfl
set_option maxRecDepth 100000 in
theorem Cg(B:Lo)(rf:Ql)(Qa:List Int):QO (Qo YP (Q1 YP) J0 B 10 1 (Qp YP 18 19 (([.agg (Qv rf).toArray,XH Qa]).map (Q2 0 4))) XW 1
 [(4,Qh.pure (.bool false) [])] 0 [] []) []=some (.tuple #[QC 0 #[],YI 2],
 [Qr []/\Qn YP J0 50 #[.agg (eM rf)] (.bool false)]):=by kernel_rfl
set_option maxHeartbeats 4000000 in
theorem Fo(rf:Ql)(Qa:List Int)  {B:Lo}(hJ:∀w,B.has w->J0 w):EndsT YP B (Qp YP 18 19 (([.agg (Qv rf).toArray,XH Qa]).map (Q2 0 4))) (.tuple #[if QL rf && Xo rf Qa then Kc (QH rf Qa)else Kc [],YI (if QL rf && Xo rf Qa then 0 else 2)]):=by
 cases q0:QL rf with
 |true=>
  have Vw:Qr (eN B rf Qa):=by
   try have Ja:=ZV ‹QL rf=true›
   try have ZA:=Q4 (QR ‹QL rf=true›).1
   try have hpf:=(XU ‹Xo rf Qa=true›).1
   try have hpg:=(fun j=>(fun h=>⟨h.1,by omega⟩) (Zj Ja ‹Xo rf Qa=true› j):∀j:Nat,0<=Qa.getD j 0/\Qa.getD j 0<=1000000)
   exact⟨⟨trivial,(by have t_:=cL (rf);rw[q0]at t_;exact t_)⟩,trivial⟩
  cases q1:Xo rf Qa with
  |true=>
   try have Ja:=ZV ‹QL rf=true›
   try have ZA:=Q4 (QR ‹QL rf=true›).1
   try have hpf:=(XU ‹Xo rf Qa=true›).1
   try have hpg:=(fun j=>(fun h=>⟨h.1,by omega⟩) (Zj Ja ‹Xo rf Qa=true› j):∀j:Nat,0<=Qa.getD j 0/\Qa.getD j 0<=1000000)
   exact(GoE.endsT okF hJ Qf GoE.start (Ci B rf Qa)
    ⟨⟨trivial,N8 (rf) (Qa) (by first|with_reducible assumption|omega|simp_all) (by first|with_reducible assumption|omega|simp_all) (by first|with_reducible assumption|omega|simp_all)⟩,⟨⟨trivial,iG (rf) (Qa) (by first|with_reducible assumption|omega|simp_all) (by first|with_reducible assumption|omega|simp_all)⟩,⟨⟨trivial,(by have t_:=cM (rf) (Qa) (by first|with_reducible assumption|omega|simp_all);rw[q1]at t_;exact t_)⟩,Vw⟩⟩⟩).cast (by first|rfl|(simp[*];done)|(simp_all;done))
  |false=>
   try have Ja:=ZV ‹QL rf=true›
   try have ZA:=Q4 (QR ‹QL rf=true›).1
   try have hpf:=(XU ‹Xo rf Qa=true›).1
   try have hpg:=(fun j=>(fun h=>⟨h.1,by omega⟩) (Zj Ja ‹Xo rf Qa=true› j):∀j:Nat,0<=Qa.getD j 0/\Qa.getD j 0<=1000000)
   exact(GoE.endsT okF hJ Qf GoE.start (Ch B rf Qa)
    ⟨⟨trivial,(by have t_:=cM (rf) (Qa) (by first|with_reducible assumption|omega|simp_all);rw[q1]at t_;exact t_)⟩,Vw⟩).cast (by first|rfl|(simp[*];done)|(simp_all;done))
 |false=>
  try have Ja:=ZV ‹QL rf=true›
  try have ZA:=Q4 (QR ‹QL rf=true›).1
  try have hpf:=(XU ‹Xo rf Qa=true›).1
  try have hpg:=(fun j=>(fun h=>⟨h.1,by omega⟩) (Zj Ja ‹Xo rf Qa=true› j):∀j:Nat,0<=Qa.getD j 0/\Qa.getD j 0<=1000000)
  exact(GoE.endsT okF hJ Qf GoE.start (Cg B rf Qa)
   ⟨⟨trivial,(by have t_:=cL (rf);rw[q0]at t_;exact t_)⟩,trivial⟩).cast (by first|rfl|(simp[*];done)|(simp_all;done))
theorem l5(rf:Ql)(Qa:List Int)  :Qn YP J0 18 #[.agg (Qv rf).toArray,XH Qa] (.tuple #[if QL rf && Xo rf Qa then Kc (QH rf Qa)else Kc [],YI (if QL rf && Xo rf Qa then 0 else 2)]):=
 Xb (ts:=[.agg (Qv rf).toArray,XH Qa]) XZ (c0:=Qp YP 18 19 (([.agg (Qv rf).toArray,XH Qa]).map (Q2 0 4))) (by kernel_rfl) (by kernel_rfl) fun B hJ=>Fo rf Qa  hJ
end
end Go.Proofs.Ytncjjangllkokaa

namespace Go.Proofs.Ytncjjangllkokaa
open Go Go.CE Go.RowKit
noncomputable section
set_option maxRecDepth 100000
theorem sg{r a b:Int}(hr:0<=r)(h0:0<=a)(h:a<=b):Zm r a<=Zm r b:=by
 unfold Zm;have h1:a*r<=b*r:=Int.mul_le_mul_of_nonneg_right h hr;have h2:0<=a*r:=Int.mul_nonneg h0 hr;rw[LO h2,LO (by omega)];omega
theorem pV{r n:Int}(hr:0<=r/\r<=2000)(h0:0<=n):0<=XP r n/\XP r n<=n/\(∀c,0<=c->c<XP r n->ZK r n c=false)/\∀c,XP r n<=c->ZK r n c=true:=by
 have mono:∀c c':Int,0<=c->c<=c'->ZK r n c=true->ZK r n c'=true:=fun c c' g0 g1 h=>by
  simp only[ZK,decide_eq_true_iff]at h ⊢;have:=sg hr.1 g0 g1;omega
 have hn:ZK r n n=true:=by
  have h2:0<=n*r:=Int.mul_nonneg h0 hr.1;have h3:(n*r).tdiv 1000=n*r / 1000:=LO h2;exact decide_eq_true (by show n<=n+(n*r).tdiv 1000;omega)
 obtain⟨a1,a2,a3,a4⟩:=sf (p:=ZK r n) (q:=fun _=>0) _ 0 n 0 rfl (LR _) h0 (fun c c' g0 g1 _ h=>mono c c' g0 g1 h);refine⟨a1,a2,a3,fun c hc=> ?_⟩;by_cases e:c<n
 ·exact a4 c hc e
 ·exact mono n c h0 (by omega) hn
theorem Ga{r n u:Int}(hr:0<=r/\r<=2000)(h0:0<=n):(Ry (ZK r n) (fun _=>0) 0 (n+1) u).1=XP r n:=by
 obtain⟨b1,b2,b3,b4⟩:=pV hr h0;obtain⟨a1,a2,a3,a4⟩:=sf (p:=ZK r n) (q:=fun _=>0) _ 0 (n+1) u rfl (LR _) (by omega) (fun c c' g0 g1 _ h=>by
  simp only[ZK,decide_eq_true_iff]at h ⊢;have:=sg hr.1 g0 g1;omega)
 generalize (Ry (ZK r n) (fun _=>0) 0 (n+1) u).1=m at *;by_cases e:m<XP r n
 ·have x:=a4 m (LR _) (by omega);have y:=b3 m a1 e;rw[x]at y;cases y
 ·by_cases e2:XP r n<m
  ·have x:=a3 _ b1 e2;have y:=b4 _ (LR _);rw[x]at y;cases y
  ·omega
def Vg(QX Qc:Int):Qq:=[(2,Obj.cells #[YI Qc] 3),(1,Obj.cells #[YI QX] 3),(0,Obj.coro none)]
def PE(QX Qc:Int):CF:=⟨92,ofList 26 [YI QX,Value.func (Fn.func 99) #[] #[pA 2 0,pA 1 0]],[Item.code (QG YP 92)],[],.run,none⟩
def V9(QX Qc:Int)(a b:Int):List Value:=[Value.func (Fn.func 99) #[] #[pA 2 0,pA 1 0],YI a,YI b]
def V8(QX Qc:Int)(a b:Int):List Obj:=[]
def WL(QX Qc:Int)(a b:Int):List Obj:=[]
def VA:List Item:=([.code [1,0,1,1,0,0,0],.inLoop [1,0,1,1,0,0,0],.inBlock 0,.code [1,0,1,1,1],.inScope [1,0]]).map (it (QG YP 92))
def iK(B:Lo)(QX Qc:Int)(a b:Int)(Qm:Nat->Value):List Prop:=[IntKind.wrap .i64 (Le (a+b) 2)=Le (a+b) 2,wq (a+b)=a+b]++([]:List Prop)
def rH(QX Qc:Int)(a b:Int)(Qm:Nat->Value):Q7:=[(2,Wy (a+b)),(3,Wy (Le (a+b) 2))]
theorem EZ(B:Lo)(QX Qc:Int)(a b:Int)(Qm:Nat->Value):let c:=WL QX Qc a b;CE.finK 3 (Qo YP (Q1 YP) J0 B 12 3 (XV (none) 92 26 (([1,5,6]:List Nat).zip (V9 QX Qc a b)) Qm VA) (XF (Vg QX Qc) 3 (([]:List Nat).zip (V8 QX Qc a b)) c) (3+1+c.length)
 (rH QX Qc a b Qm++[(7,Z5)]) 0 [] []) [] [] []=some (OO.ret (YI a),[],[],
 [Yo a b=true]++iK B QX Qc a b Qm):=by intro c;kernel_rfl
def iJ(B:Lo)(QX Qc:Int)(a b:Int)(Qm:Nat->Value):List Prop:=[Yo a b=false]++iK B QX Qc a b Qm
def rG(QX Qc:Int)(a b:Int)(Qm:Nat->Value):Q7:=rH QX Qc a b Qm++[(7,ZW)]
def VO(QX Qc:Int)(a b:Int)(Qm:Nat->Value):Qq:=[(3,Obj.coro none),(2,Obj.cells #[YI Qc] 3),(1,Obj.cells #[YI QX] 3),(0,Obj.coro none)]
def KL(QX Qc:Int)(a b:Int)(Qm:Nat->Value):CF:=⟨99,ofList 10 [YI (Le (a+b) 2),pA 2 0,pA 1 0],[Item.code (QG YP 99)],[],.run,none⟩
theorem EY(B:Lo)(QX Qc:Int)(a b:Int)(Qm:Nat->Value):let c:=Le (a+b) 2+Le (Le (a+b) 2*Qc) 1000;let d:=YI c;CE.finK 4 (Qo YP (Q1 YP) J0 B 6 4 (KL QX Qc a b Qm) (VO QX Qc a b Qm) 4
 [(3,Qh.pure d []),(5,Z5)] 0 [] []) [] [] []=some (OO.ret (.bool true),[],[],
 [(!XC c QX)=true,Qr []/\Qn YP J0 100 #[YI (Le (a+b) 2),YI Qc] d]):=by intro c d;kernel_rfl
theorem EX(B:Lo)(QX Qc:Int)(a b:Int)(Qm:Nat->Value):let e:=OO.ret (.bool true);let d:=WL QX Qc a b;let c:=Le (a+b) 2;CE.landA 3 (Qo YP (Q1 YP) J0 B 14 3 (XV (none) 92 26 (([1,5,6]:List Nat).zip (V9 QX Qc a b)) Qm VA) (XF (Vg QX Qc) 3 (([]:List Nat).zip (V8 QX Qc a b)) d) (3+1+d.length)
 (rG QX Qc a b Qm++[(11,Qh.call (Lg 4) e ([]++(4,Xx)::Xa 5 []) 5 [])]) 0 [] []) [1,5,6] [] [] []=some ⟨92,26,VA,[],.run,none,V9 QX Qc (a) c,([]:List Nat).zip (V8 QX Qc (a) c),WL QX Qc (a) c,
 [FJ YP B (KL QX Qc a b Qm) (VO QX Qc a b Qm) 4 e (([]++((4,Xx)::Xa (4+1) []))++VO QX Qc a b Qm) 5 (Lg 4) []]++iJ B QX Qc a b Qm⟩:=by intro e d c;kernel_rfl
theorem EW(B:Lo)(QX Qc:Int)(a b:Int)(Qm:Nat->Value):let c:=Le (a+b) 2+Le (Le (a+b) 2*Qc) 1000;let d:=YI c;CE.finK 4 (Qo YP (Q1 YP) J0 B 6 4 (KL QX Qc a b Qm) (VO QX Qc a b Qm) 4
 [(3,Qh.pure d []),(5,ZW)] 0 [] []) [] [] []=some (OO.ret (.bool false),[],[],
 [(!XC c QX)=false,Qr []/\Qn YP J0 100 #[YI (Le (a+b) 2),YI Qc] d]):=by intro c d;kernel_rfl
theorem EV(B:Lo)(QX Qc:Int)(a b:Int)(Qm:Nat->Value):let e:=OO.ret (.bool false);let d:=WL QX Qc a b;let c:=Le (a+b) 2+1;CE.landA 3 (Qo YP (Q1 YP) J0 B 14 3 (XV (none) 92 26 (([1,5,6]:List Nat).zip (V9 QX Qc a b)) Qm VA) (XF (Vg QX Qc) 3 (([]:List Nat).zip (V8 QX Qc a b)) d) (3+1+d.length)
 (rG QX Qc a b Qm++[(11,Qh.call (Lg 4) e ([]++(4,Xx)::Xa 5 []) 5 []),(14,Wy c)]) 0 [] []) [1,5,6] [] [] []=some ⟨92,26,VA,[],.run,none,V9 QX Qc c (b),([]:List Nat).zip (V8 QX Qc c (b)),WL QX Qc c (b),
 [wq c=Le (a+b) 2+1,FJ YP B (KL QX Qc a b Qm) (VO QX Qc a b Qm) 4 e (([]++((4,Xx)::Xa (4+1) []))++VO QX Qc a b Qm) 5 (Lg 4) []]++iJ B QX Qc a b Qm⟩:=by intro e d c;kernel_rfl
set_option maxHeartbeats 4000000 in
theorem sY(QX Qc:Int)(hf:0<=QX/\QX<=1000000000000)(hm:0<=Qc/\Qc<=2000){B:Lo}(hJ:∀w,B.has w->J0 w):∀m:Nat,(∀(a b:Int),(b-a).toNat=m->∀(a0:0<=a) (ab:a<=b) (b1:b<=QX+1),(∃Qm:Nat->Value,(∀t,Xi (Qm t))/\GoE YP B (PE QX Qc) (Vg QX Qc) 3 (XV (none) 92 26 (([1,5,6]:List Nat).zip (V9 QX Qc a b)) Qm VA) (XF (Vg QX Qc) 3 (([]:List Nat).zip (V8 QX Qc a b)) (WL QX Qc a b)) (3+1+(WL QX Qc a b).length) ([]:List Nat))->FinK YP B (PE QX Qc) (Vg QX Qc) 3 (.ret (YI (Ry (ZK Qc QX) (fun _=>0) a b 0).1)) (([]:List Nat).zip ([])) ([]) ([]:List Nat)):=by
 intro m0;induction m0 using Lz with
 |_ m0 ih0=>
  intro a b YA a0 ab b1 ⟨Qm,ZF,Xs⟩;have hl:=Qas a0 ab;have Vw:Qr (iK B QX Qc a b Qm):=by
   exact⟨(cg (by omega) (by omega)),⟨(QY (by omega) (by omega)),trivial⟩⟩
  by_cases q0:(a:Int)=(b)
  ·have s2:=yK (p:=ZK Qc QX) (q:=fun _=>0) (u:=0) (show a=b by omega);exact(GoE.finK okF hJ Qf (Q6 (by kernel_rfl)) (Qy (by kernel_rfl)) Xs (EZ B QX Qc a b Qm)
    ⟨(bY q0),Vw⟩).cast (by(rw[s2];done)) (by rfl) (by rfl)
  ·have UP:Qr (iJ B QX Qc a b Qm):=by
    exact⟨(bZ q0),Vw⟩
   by_cases q1:(QX:Int)<=(Le (a+b) 2+Le (Le (a+b) 2*Qc) 1000)
   ·have rj1:FJ YP B (KL QX Qc a b Qm) (VO QX Qc a b Qm) 4 (OO.ret (.bool true)) (([]++((4,Xx)::Xa (4+1) []))++VO QX Qc a b Qm) 5 (Lg 4) []:=by
     have hm1:=o5 a0 (show a<b by omega);have s2:=oy (p:=ZK Qc QX) (q:=fun _=>0) (u:=0) a0 (show a<b by omega) (by exact decide_eq_true (by show QX<=Zm Qc _;unfold Zm;omega));exact FinK.fjB (GoE.finK okF hJ Qf (Q6 (by kernel_rfl)) (Qy (by kernel_rfl)) ((GoE.refl (P:=YP) (B:=B) (c0:=KL QX Qc a b Qm) (Q6 (by kernel_rfl))).widen (Wf:=((([]):List (Nat×KS)).map (·.1))) (by simp) (Qy (by kernel_rfl))) (EY B QX Qc a b Qm)
      ⟨(UX q1),⟨⟨trivial,eC (Le (a+b) 2) (Qc) (by omega) (by omega)⟩,trivial⟩⟩) (ex:=[]) (by kernel_rfl) (Vr _)
    have hm1:=o5 a0 (show a<b by omega);have s2:=oy (p:=ZK Qc QX) (q:=fun _=>0) (u:=0) a0 (show a<b by omega) (by exact decide_eq_true (by show QX<=Zm Qc _;unfold Zm;omega));exact((ih0 _ (by omega)) (a) (Le (a+b) 2) rfl (by with_reducible assumption) (by omega) (by omega)
     (GoE.landA okF hJ Qf (Q6 (by kernel_rfl)) (Qy (by kernel_rfl)) Xs (EX B QX Qc a b Qm)
     ⟨rj1,UP⟩ (by kernel_rfl) (by kernel_rfl) (fun l hl=>by cases hl <;> decide))).cast (by(rw[s2];done)) (by rfl) (by rfl)
   ·have rj1:FJ YP B (KL QX Qc a b Qm) (VO QX Qc a b Qm) 4 (OO.ret (.bool false)) (([]++((4,Xx)::Xa (4+1) []))++VO QX Qc a b Qm) 5 (Lg 4) []:=by
     have hm1:=o5 a0 (show a<b by omega);have s2:=tM (p:=ZK Qc QX) (q:=fun _=>0) (u:=0) a0 (show a<b by omega) (by exact decide_eq_false (by show ¬QX<=Zm Qc _;unfold Zm;omega));exact FinK.fjB (GoE.finK okF hJ Qf (Q6 (by kernel_rfl)) (Qy (by kernel_rfl)) ((GoE.refl (P:=YP) (B:=B) (c0:=KL QX Qc a b Qm) (Q6 (by kernel_rfl))).widen (Wf:=((([]):List (Nat×KS)).map (·.1))) (by simp) (Qy (by kernel_rfl))) (EW B QX Qc a b Qm)
      ⟨(UY (Int.not_le.1 q1)),⟨⟨trivial,eC (Le (a+b) 2) (Qc) (by omega) (by omega)⟩,trivial⟩⟩) (ex:=[]) (by kernel_rfl) (Vr _)
    have hm1:=o5 a0 (show a<b by omega);have s2:=tM (p:=ZK Qc QX) (q:=fun _=>0) (u:=0) a0 (show a<b by omega) (by exact decide_eq_false (by show ¬QX<=Zm Qc _;unfold Zm;omega));exact((ih0 _ (by omega)) (Le (a+b) 2+1) (b) rfl (by omega) (by omega) (by with_reducible assumption)
     (GoE.landA okF hJ Qf (Q6 (by kernel_rfl)) (Qy (by kernel_rfl)) Xs (EV B QX Qc a b Qm)
     ⟨(QY (by omega) (by omega)),⟨rj1,UP⟩⟩ (by kernel_rfl) (by kernel_rfl) (fun l hl=>by cases hl <;> decide))).cast (by(rw[s2];done)) (by rfl) (by rfl)

theorem Fa(B:Lo)(QX Qc:Int):CE.landA 3 (Qo YP (Q1 YP) J0 B 10 3 (PE QX Qc) (Vg QX Qc) 3
 [(2,Wy (QX+1))] 0 [] []) [1,5,6] [] [] []=some ⟨92,26,VA,[],.run,none,V9 QX Qc (0) (QX+1),([]:List Nat).zip (V8 QX Qc (0) (QX+1)),WL QX Qc (0) (QX+1),
 [wq (QX+1)=QX+1]⟩:=by kernel_rfl
theorem EU(B:Lo)(QX Qc:Int):let a:=ZK Qc QX;QO (Qo YP (Q1 YP) J0 B 6 1 (Qp YP 80 8 (([YI QX,YI Qc]).map (Q2 0 4))) XW 1
 [(5,Qh.call (Lg 3) (OO.ret (YI (Prod.fst (Ry a (fun x=>0) 0 (QX+1) 0)))) ([]++(3,Xx)::Xa 4 []) 4 [])] 0 [] []) []=some (YI (Prod.fst (Ry a (fun x=>0) 0 (QX+1) 0)),
 [FJ YP B (PE QX Qc) (Vg QX Qc) 3 (OO.ret (YI (Prod.fst (Ry a (fun x=>0) 0 (QX+1) 0)))) (([]++((3,Xx)::Xa (3+1) []))++Vg QX Qc) 4 (Lg 3) []]):=by intro a;kernel_rfl
set_option maxHeartbeats 4000000 in
theorem Iz(QX Qc:Int)(hf:0<=QX/\QX<=1000000000000)(hm:0<=Qc/\Qc<=2000){B:Lo}(hJ:∀w,B.has w->J0 w):EndsT YP B (Qp YP 80 8 (([YI QX,YI Qc]).map (Q2 0 4))) (YI (XP Qc QX)):=by
 have rj0:FJ YP B (PE QX Qc) (Vg QX Qc) 3 (OO.ret (YI (Prod.fst (Ry (ZK Qc QX) (fun x=>0) 0 (QX+1) 0)))) (([]++((3,Xx)::Xa (3+1) []))++Vg QX Qc) 4 (Lg 3) []:=by
  exact FinK.fjB ((sY QX Qc hf hm hJ _) (0) (QX+1) rfl (by omega) (by omega) (by omega)
   (GoE.landA okF hJ Qf (Q6 (by kernel_rfl)) (Qy (by kernel_rfl)) ((GoE.refl (P:=YP) (B:=B) (c0:=PE QX Qc) (Q6 (by kernel_rfl))).widen (Wf:=((([]):List (Nat×KS)).map (·.1))) (by simp) (Qy (by kernel_rfl))) (Fa B QX Qc)
   ⟨(QY (by omega) (by omega)),trivial⟩ (by kernel_rfl) (by kernel_rfl) (fun l hl=>by cases hl <;> decide))) (ex:=[]) (by kernel_rfl) (Vr _)
 exact(GoE.endsT okF hJ Qf GoE.start (EU B QX Qc)
  ⟨rj0,trivial⟩).cast (by(rw[<-Ga (u:=0) hm hf.1]))
theorem So(QX Qc:Int)(hf:0<=QX/\QX<=1000000000000)(hm:0<=Qc/\Qc<=2000):Qn YP J0 80 #[YI QX,YI Qc] (YI (XP Qc QX)):=
 Xb (ts:=[YI QX,YI Qc]) XZ (c0:=Qp YP 80 8 (([YI QX,YI Qc]).map (Q2 0 4))) (by kernel_rfl) (by kernel_rfl) fun B hJ=>Iz QX Qc hf hm hJ
end
end Go.Proofs.Ytncjjangllkokaa

