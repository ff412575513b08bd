import Derived.Test.YtncjjangllkokaaZRM15
import Derived.Test.YtncjjangllkokaaZRM14
import Derived.Test.YtncjjangllkokaaZRM16
set_option linter.all false
open Nat renaming strongRecOn->LK
open List renaming set->Lw,length_set->Lf,length_replicate->Lh,length->Lc,getD->Ld
open Int renaming toNat->Lb
open Inhabited renaming default->La
namespace Go.Proofs.Ytncjjangllkokaa
open Go Go.CE Go.RowKit
noncomputable section
set_option maxHeartbeats 4000000 in
theorem o6(rf:Qk)(Qa:List Int)(Qc place low high Qd:Int)  (Zb:Qa.length<=9223372036854775807){B:Lo}(hJ:∀w,B.has w->J0 w){c0:CF}:∀m:Nat,(∀(i:Int) (ms:List Int) (mn:Nat) (xs ys:List Qe),100000+(rf.Qb.length-i.toNat)=m->∀(hr:Ql rf=true) (XE:Qm rf Qa=true) (hl8:rf.Qb.length<=8) (XK:0<=Qc/\Qc<rf.seasons) (XN:0<=place/\place<rf.Qb.length) (XC:0<=low/\low<=high/\high<=100) (XY:0<=Qd/\Qd<=2000) (h0:0<=i) (h1:i<=rf.Qb.length) (hm:ms=Ks Qa Qc place) (hmn:mn=ms.length) (hx:xs=Pe (Xj low high) rf.Qb i) (hy:ys=Pe (QP Qd) rf.Qb i),zO B c0 rf Qa Qc place low high Qd i ms mn xs ys->EndsT YP B c0 (.bool true))/\(∀(bit i:Int),200000+(place-i).toNat=m->∀(hr:Ql rf=true) (XE:Qm rf Qa=true) (hl8:rf.Qb.length<=8) (XK:0<=Qc/\Qc<rf.seasons) (XN:0<=place/\place<rf.Qb.length) (XC:0<=low/\low<=high/\high<=100) (XY:0<=Qd/\Qd<=2000) (h0:0<=i) (h1:i<=place) (hb:bit=((Zv i.toNat:Nat):Int)) (hh:hasB (nth Qa Qc) place=false),zN B c0 rf Qa Qc place low high Qd bit i->EndsT YP B c0 (.bool true))/\(∀(ms:List Int) (xs ys:List Qe) (s:Int),100*(rf.seasons-s).toNat=m->∀(hr:Ql rf=true) (XE:Qm rf Qa=true) (hl8:rf.Qb.length<=8) (XK:0<=Qc/\Qc<rf.seasons) (XN:0<=place/\place<rf.Qb.length) (XC:0<=low/\low<=high/\high<=100) (XY:0<=Qd/\Qd<=2000) (hm:ms=Ks Qa Qc place) (hx:xs=Pe (Xj low high) rf.Qb rf.Qb.length) (hy:ys=Pe (QP Qd) rf.Qb rf.Qb.length) (s0:0<=s) (s1:s<=rf.seasons),zM B c0 rf Qa Qc place low high Qd ms xs ys s->EndsT YP B c0 (.bool true))/\(∀(ms:List Int) (xs ys:List Qe) (s i:Int),100*(rf.seasons-s).toNat-99+(rf.Qb.length-i.toNat)=m->∀(hr:Ql rf=true) (XE:Qm rf Qa=true) (hl8:rf.Qb.length<=8) (XK:0<=Qc/\Qc<rf.seasons) (XN:0<=place/\place<rf.Qb.length) (XC:0<=low/\low<=high/\high<=100) (XY:0<=Qd/\Qd<=2000) (hm:ms=Ks Qa Qc place) (hx:xs=Pe (Xj low high) rf.Qb rf.Qb.length) (hy:ys=Pe (QP Qd) rf.Qb rf.Qb.length) (s0:0<=s) (s1:s<rf.seasons) (h0:0<=i) (h1:i<=rf.Qb.length),zL B c0 rf Qa Qc place low high Qd ms xs ys s i->EndsT YP B c0 (.bool true)):=by
 intro m0;induction m0 using LK with
 |_ m0 ih0=>
  refine⟨?_, ?_, ?_, ?_⟩
  ·intro i ms mn xs ys hm0 hr XE hl8 XK XN XC XY h0 h1 hm hmn hx hy ⟨Qr,Jn,X7⟩;have Xy:=Qn (Qg hr).1;have hxl:xs.length=rf.Qb.length:=by rw[hx,Pe,XR];omega
   have hyl:ys.length=rf.Qb.length:=by rw[hy,Pe,XR];omega
   have hl0:=ZR (rf:=rf) (Qa:=Qa);have hl1:=ZR (rf:=rf) (Qa:=ms);have hl2:(Qt ⟨xs,rf.miss,rf.seasons⟩ Qa).length=rf.seasons.toNat:=ZR;have hl3:(Qt ⟨ys,rf.miss,rf.seasons⟩ Qa).length=rf.seasons.toNat:=ZR;by_cases q0:(i:Int)<((↑rf.Qb.length:Int))
   ·try have Xy:=Qn (Qg ‹Ql rf=true›).1
    try have XF:=(Qo ‹Qm rf Qa=true›).1
    try have XG:=Qh (Qp ‹Ql rf=true›) ‹Qm rf Qa=true›
    try have XL:=Qh (Qp ‹Ql rf=true›) ‹Qm rf Qa=true› Qc.toNat
    try have Xg:=Q7 hr XE XK XN XC XY hm hx hy h1 q0
    try have XQ:=Qx (g:=Xj low high) (ps:=rf.Qb) h0 q0
    try have XP:=Qx (g:=QP Qd) (ps:=rf.Qb) h0 q0
    try have Xp:=Qq ((Qg hr).2 i h0 q0).1
    exact((ih0 _ (by omega)).1 (i+1) (ms) (mn) (Lw xs i.toNat {count:=Qe.count (xs.getD i.toNat La),room:=Qe.room (xs.getD i.toNat La),glo:=VG (Qe.glo (rf.Qb.getD i.toNat La)) (Qe.ghi (rf.Qb.getD i.toNat La)) low,ghi:=VG (Qe.glo (rf.Qb.getD i.toNat La)) (Qe.ghi (rf.Qb.getD i.toNat La)) high,drift:=Qe.drift (xs.getD i.toNat La),into:=Qe.into (xs.getD i.toNat La),olo:=Qe.olo (xs.getD i.toNat La),ohi:=Qe.ohi (xs.getD i.toNat La),slo:=Qe.slo (xs.getD i.toNat La),shi:=Qe.shi (xs.getD i.toNat La),goal:=Qe.goal (xs.getD i.toNat La),worth:=Qe.worth (xs.getD i.toNat La)}) (Lw ys i.toNat {count:=Qe.count (ys.getD i.toNat La),room:=Qe.room (ys.getD i.toNat La),glo:=if Qe.glo (rf.Qb.getD i.toNat La)+Qd<2000 then Qe.glo (rf.Qb.getD i.toNat La)+Qd else 2000,ghi:=if Qe.ghi (rf.Qb.getD i.toNat La)+Qd<2000 then Qe.ghi (rf.Qb.getD i.toNat La)+Qd else 2000,drift:=Qe.drift (ys.getD i.toNat La),into:=Qe.into (ys.getD i.toNat La),olo:=Qe.olo (ys.getD i.toNat La),ohi:=Qe.ohi (ys.getD i.toNat La),slo:=Qe.slo (ys.getD i.toNat La),shi:=Qe.shi (ys.getD i.toNat La),goal:=Qe.goal (ys.getD i.toNat La),worth:=Qe.worth (ys.getD i.toNat La)}) rfl (by first|with_reducible assumption|omega|exact Xg.1|exact Xg.2.1|rfl|exact(Xi ‹_›)|(rw[Lf])|(rw[Lf];rfl)|(exact XA)|(rw[hx,XQ];exact QO h0 q0)|(rw[hy,XP];exact QO h0 q0)|(simp_all;done)) (by first|with_reducible assumption|omega|exact Xg.1|exact Xg.2.1|rfl|exact(Xi ‹_›)|(rw[Lf])|(rw[Lf];rfl)|(exact XA)|(rw[hx,XQ];exact QO h0 q0)|(rw[hy,XP];exact QO h0 q0)|(simp_all;done)) (by first|with_reducible assumption|omega|exact Xg.1|exact Xg.2.1|rfl|exact(Xi ‹_›)|(rw[Lf])|(rw[Lf];rfl)|(exact XA)|(rw[hx,XQ];exact QO h0 q0)|(rw[hy,XP];exact QO h0 q0)|(simp_all;done)) (by first|with_reducible assumption|omega|exact Xg.1|exact Xg.2.1|rfl|exact(Xi ‹_›)|(rw[Lf])|(rw[Lf];rfl)|(exact XA)|(rw[hx,XQ];exact QO h0 q0)|(rw[hy,XP];exact QO h0 q0)|(simp_all;done)) (by first|with_reducible assumption|omega|exact Xg.1|exact Xg.2.1|rfl|exact(Xi ‹_›)|(rw[Lf])|(rw[Lf];rfl)|(exact XA)|(rw[hx,XQ];exact QO h0 q0)|(rw[hy,XP];exact QO h0 q0)|(simp_all;done)) (by first|with_reducible assumption|omega|exact Xg.1|exact Xg.2.1|rfl|exact(Xi ‹_›)|(rw[Lf])|(rw[Lf];rfl)|(exact XA)|(rw[hx,XQ];exact QO h0 q0)|(rw[hy,XP];exact QO h0 q0)|(simp_all;done)) (by first|with_reducible assumption|omega|exact Xg.1|exact Xg.2.1|rfl|exact(Xi ‹_›)|(rw[Lf])|(rw[Lf];rfl)|(exact XA)|(rw[hx,XQ];exact QO h0 q0)|(rw[hy,XP];exact QO h0 q0)|(simp_all;done)) (by first|with_reducible assumption|omega|exact Xg.1|exact Xg.2.1|rfl|exact(Xi ‹_›)|(rw[Lf])|(rw[Lf];rfl)|(exact XA)|(rw[hx,XQ];exact QO h0 q0)|(rw[hy,XP];exact QO h0 q0)|(simp_all;done)) (by first|with_reducible assumption|omega|exact Xg.1|exact Xg.2.1|rfl|exact(Xi ‹_›)|(rw[Lf])|(rw[Lf];rfl)|(exact XA)|(rw[hx,XQ];exact QO h0 q0)|(rw[hy,XP];exact QO h0 q0)|(simp_all;done)) (by first|with_reducible assumption|omega|exact Xg.1|exact Xg.2.1|rfl|exact(Xi ‹_›)|(rw[Lf])|(rw[Lf];rfl)|(exact XA)|(rw[hx,XQ];exact QO h0 q0)|(rw[hy,XP];exact QO h0 q0)|(simp_all;done)) (by first|with_reducible assumption|omega|exact Xg.1|exact Xg.2.1|rfl|exact(Xi ‹_›)|(rw[Lf])|(rw[Lf];rfl)|(exact XA)|(rw[hx,XQ];exact QO h0 q0)|(rw[hy,XP];exact QO h0 q0)|(simp_all;done)) (by first|with_reducible assumption|omega|exact Xg.1|exact Xg.2.1|rfl|exact(Xi ‹_›)|(rw[Lf])|(rw[Lf];rfl)|(exact XA)|(rw[hx,XQ];exact QO h0 q0)|(rw[hy,XP];exact QO h0 q0)|(simp_all;done)) (by first|with_reducible assumption|omega|exact Xg.1|exact Xg.2.1|rfl|exact(Xi ‹_›)|(rw[Lf])|(rw[Lf];rfl)|(exact XA)|(rw[hx,XQ];exact QO h0 q0)|(rw[hy,XP];exact QO h0 q0)|(simp_all;done))
     (X7.landM okF hJ Qi (zK B rf Qa Qc place low high Qd i ms mn xs ys Qr)
     (by exact⟨(Xk (Xr (fun x=>List.all_eq_true.1 (by first|rfl|(cases x <;> rfl))))),⟨(Xk (Xr (fun x=>List.all_eq_true.1 (by first|rfl|(cases x <;> rfl))))),⟨(Xk (Xr (fun x=>List.all_eq_true.1 (by first|rfl|(cases x <;> rfl))))),⟨(XX (by omega) (by omega)),⟨(by exact oP (z:=12) (k:=Lb i) (j:=2) (fun _=>rfl) (by first|omega|(rw[Lf];omega)|(rw[Lh];omega)) rfl rfl (by decide)),⟨⟨by omega,by omega⟩,⟨⟨trivial,DL (if Qe.glo (rf.Qb.getD i.toNat La)+Qd<2000 then Qe.glo (rf.Qb.getD i.toNat La)+Qd else 2000) (if Qe.ghi (rf.Qb.getD i.toNat La)+Qd<2000 then Qe.ghi (rf.Qb.getD i.toNat La)+Qd else 2000)⟩,⟨(XX (by omega) (by omega)),⟨(XX (by omega) (by omega)),⟨(by exact oP (z:=12) (k:=Lb i) (j:=2) (fun _=>rfl) (by first|omega|(rw[Lf];omega)|(rw[Lh];omega)) rfl rfl (by decide)),⟨⟨by omega,by omega⟩,⟨⟨trivial,Dg (Qe.glo (rf.Qb.getD i.toNat La)) (Qe.ghi (rf.Qb.getD i.toNat La)) (low) (high) (by first|with_reducible assumption|omega|simp_all) (by first|with_reducible assumption|omega|simp_all) (by first|with_reducible assumption|omega|simp_all) (by first|with_reducible assumption|omega|simp_all) (by first|with_reducible assumption|omega|simp_all) (by first|with_reducible assumption|omega|simp_all) (by first|with_reducible assumption|omega|simp_all)⟩,⟨⟨by omega,by omega,(QW (z:=12) (fun _=>rfl) (by first|omega|(rw[Lf];omega)|(rw[Lh];omega)))⟩,⟨(Z3 q0),trivial⟩⟩⟩⟩⟩⟩⟩⟩⟩⟩⟩⟩⟩⟩) (by kernel_rfl) (by kernel_rfl))).cast (by first|rfl|(exfalso;omega)|(exfalso;obtain⟨e1,e2,e3,e4,e5,e6,e7⟩:=Xg;simp_all;done)|(simp_all;done))
   ·have UX:Q3 (Tn B rf Qa Qc place low high Qd i ms mn xs ys Qr):=by
     exact⟨(Z4 (Int.not_lt.1 q0)),trivial⟩
    cases q1:Ql rf with
    |true=>
     cases q2:Qm rf Qa with
     |true=>
      have hp1:Q3 (Tl B rf Qa Qc place low high Qd i ms mn xs ys Qr):=by
       try have Xy:=Qn (Qg ‹Ql rf=true›).1
       try have XF:=(Qo ‹Qm rf Qa=true›).1
       try have XG:=Qh (Qp ‹Ql rf=true›) ‹Qm rf Qa=true›
       try have XL:=Qh (Qp ‹Ql rf=true›) ‹Qm rf Qa=true› Qc.toNat
       try have Xg:=Q7 hr XE XK XN XC XY hm hx hy h1 q0
       try have XQ:=Qx (g:=Xj low high) (ps:=rf.Qb) h0 q0
       try have XP:=Qx (g:=QP Qd) (ps:=rf.Qb) h0 q0
       try have Xp:=Qq ((Qg hr).2 i h0 q0).1
       exact⟨⟨trivial,(by have t_:=eJ (rf) (Qa);rw[q1,q2]at t_;exact t_)⟩,UX⟩
      cases q3:Ql {Qb:=rf.Qb,miss:=rf.miss,seasons:=rf.seasons}with
      |true=>
       cases q4:Qm {Qb:=rf.Qb,miss:=rf.miss,seasons:=rf.seasons} ms with
       |true=>
        have hp2:Q3 (Tk B rf Qa Qc place low high Qd i ms mn xs ys Qr):=by
         try have Xy:=Qn (Qg ‹Ql rf=true›).1
         try have XF:=(Qo ‹Qm rf Qa=true›).1
         try have XG:=Qh (Qp ‹Ql rf=true›) ‹Qm rf Qa=true›
         try have XL:=Qh (Qp ‹Ql rf=true›) ‹Qm rf Qa=true› Qc.toNat
         try have Xg:=Q7 hr XE XK XN XC XY hm hx hy h1 q0
         try have XQ:=Qx (g:=Xj low high) (ps:=rf.Qb) h0 q0
         try have XP:=Qx (g:=QP Qd) (ps:=rf.Qb) h0 q0
         try have Xp:=Qq ((Qg hr).2 i h0 q0).1
         exact⟨⟨⟨(Qv (fun x=>List.all_eq_true.1 (by first|rfl|(cases x <;> rfl)))),trivial⟩,(by have t_:=Q8 rf.Qb rf.miss rf.seasons (ms) rf.Qb.length (mn) (by first|with_reducible assumption|omega|simp_all) (by first|with_reducible assumption|omega|simp_all);rw[q3,q4]at t_;exact t_)⟩,hp1⟩
        cases q5:Ql {Qb:=xs,miss:=rf.miss,seasons:=rf.seasons}with
        |true=>
         cases q6:Qm {Qb:=xs,miss:=rf.miss,seasons:=rf.seasons} Qa with
         |true=>
          have hp3:Q3 (Tj B rf Qa Qc place low high Qd i ms mn xs ys Qr):=by
           try have Xy:=Qn (Qg ‹Ql rf=true›).1
           try have XF:=(Qo ‹Qm rf Qa=true›).1
           try have XG:=Qh (Qp ‹Ql rf=true›) ‹Qm rf Qa=true›
           try have XL:=Qh (Qp ‹Ql rf=true›) ‹Qm rf Qa=true› Qc.toNat
           try have Xg:=Q7 hr XE XK XN XC XY hm hx hy h1 q0
           try have XQ:=Qx (g:=Xj low high) (ps:=rf.Qb) h0 q0
           try have XP:=Qx (g:=QP Qd) (ps:=rf.Qb) h0 q0
           try have Xp:=Qq ((Qg hr).2 i h0 q0).1
           exact⟨⟨⟨(Qv (fun x=>List.all_eq_true.1 (by first|rfl|(cases x <;> rfl)))),trivial⟩,(by have t_:=Q8 (xs) rf.miss rf.seasons (Qa) rf.Qb.length Qa.length (by first|with_reducible assumption|omega|simp_all) (by first|with_reducible assumption|omega|simp_all);rw[q5,q6]at t_;exact t_)⟩,hp2⟩
          cases q7:Ql {Qb:=ys,miss:=rf.miss,seasons:=rf.seasons}with
          |true=>
           cases q8:Qm {Qb:=ys,miss:=rf.miss,seasons:=rf.seasons} Qa with
           |true=>
            have hp4:Q3 (fE B rf Qa Qc place low high Qd i ms mn xs ys Qr):=by
             try have Xy:=Qn (Qg ‹Ql rf=true›).1
             try have XF:=(Qo ‹Qm rf Qa=true›).1
             try have XG:=Qh (Qp ‹Ql rf=true›) ‹Qm rf Qa=true›
             try have XL:=Qh (Qp ‹Ql rf=true›) ‹Qm rf Qa=true› Qc.toNat
             try have Xg:=Q7 hr XE XK XN XC XY hm hx hy h1 q0
             try have XQ:=Qx (g:=Xj low high) (ps:=rf.Qb) h0 q0
             try have XP:=Qx (g:=QP Qd) (ps:=rf.Qb) h0 q0
             try have Xp:=Qq ((Qg hr).2 i h0 q0).1
             exact⟨⟨⟨(Qv (fun x=>List.all_eq_true.1 (by first|rfl|(cases x <;> rfl)))),trivial⟩,(by have t_:=Q8 (ys) rf.miss rf.seasons (Qa) rf.Qb.length Qa.length (by first|with_reducible assumption|omega|simp_all) (by first|with_reducible assumption|omega|simp_all);rw[q7,q8]at t_;exact t_)⟩,hp3⟩
            by_cases q9:((↑(Lc (Qt rf Qa)):Int):Int)≠rf.seasons
            ·try have Xy:=Qn (Qg ‹Ql rf=true›).1
             try have XF:=(Qo ‹Qm rf Qa=true›).1
             try have XG:=Qh (Qp ‹Ql rf=true›) ‹Qm rf Qa=true›
             try have XL:=Qh (Qp ‹Ql rf=true›) ‹Qm rf Qa=true› Qc.toNat
             try have Xg:=Q7 hr XE XK XN XC XY hm hx hy h1 q0
             try have XQ:=Qx (g:=Xj low high) (ps:=rf.Qb) h0 q0
             try have XP:=Qx (g:=QP Qd) (ps:=rf.Qb) h0 q0
             try have Xp:=Qq ((Qg hr).2 i h0 q0).1
             exact(GoE.endsT okF hJ Qi X7 (zJ B rf Qa Qc place low high Qd i ms mn xs ys Qr)
              ⟨(JT q9),hp4⟩).cast (by first|rfl|(exfalso;omega)|(exfalso;obtain⟨e1,e2,e3,e4,e5,e6,e7⟩:=Xg;simp_all;done)|(simp_all;done))
            ·have hp5:Q3 (fD B rf Qa Qc place low high Qd i ms mn xs ys Qr):=by
              exact⟨(JU (Decidable.of_not_not q9)),hp4⟩
             by_cases q10:((↑(Lc (Qt {Qb:=rf.Qb,miss:=rf.miss,seasons:=rf.seasons} ms)):Int):Int)≠((↑(Lc (Qt rf Qa)):Int))
             ·try have Xy:=Qn (Qg ‹Ql rf=true›).1
              try have XF:=(Qo ‹Qm rf Qa=true›).1
              try have XG:=Qh (Qp ‹Ql rf=true›) ‹Qm rf Qa=true›
              try have XL:=Qh (Qp ‹Ql rf=true›) ‹Qm rf Qa=true› Qc.toNat
              try have Xg:=Q7 hr XE XK XN XC XY hm hx hy h1 q0
              try have XQ:=Qx (g:=Xj low high) (ps:=rf.Qb) h0 q0
              try have XP:=Qx (g:=QP Qd) (ps:=rf.Qb) h0 q0
              try have Xp:=Qq ((Qg hr).2 i h0 q0).1
              exact(GoE.endsT okF hJ Qi X7 (zI B rf Qa Qc place low high Qd i ms mn xs ys Qr)
               ⟨(JT q10),hp5⟩).cast (by first|rfl|(exfalso;omega)|(exfalso;obtain⟨e1,e2,e3,e4,e5,e6,e7⟩:=Xg;simp_all;done)|(simp_all;done))
             ·have hp6:Q3 (fC B rf Qa Qc place low high Qd i ms mn xs ys Qr):=by
               exact⟨(JU (Decidable.of_not_not q10)),hp5⟩
              by_cases q11:((↑(Lc (Qt {Qb:=xs,miss:=rf.miss,seasons:=rf.seasons} Qa)):Int):Int)≠((↑(Lc (Qt rf Qa)):Int))
              ·try have Xy:=Qn (Qg ‹Ql rf=true›).1
               try have XF:=(Qo ‹Qm rf Qa=true›).1
               try have XG:=Qh (Qp ‹Ql rf=true›) ‹Qm rf Qa=true›
               try have XL:=Qh (Qp ‹Ql rf=true›) ‹Qm rf Qa=true› Qc.toNat
               try have Xg:=Q7 hr XE XK XN XC XY hm hx hy h1 q0
               try have XQ:=Qx (g:=Xj low high) (ps:=rf.Qb) h0 q0
               try have XP:=Qx (g:=QP Qd) (ps:=rf.Qb) h0 q0
               try have Xp:=Qq ((Qg hr).2 i h0 q0).1
               exact(GoE.endsT okF hJ Qi X7 (zH B rf Qa Qc place low high Qd i ms mn xs ys Qr)
                ⟨(JT q11),hp6⟩).cast (by first|rfl|(exfalso;omega)|(exfalso;obtain⟨e1,e2,e3,e4,e5,e6,e7⟩:=Xg;simp_all;done)|(simp_all;done))
              ·have hp7:Q3 (fB B rf Qa Qc place low high Qd i ms mn xs ys Qr):=by
                exact⟨(JU (Decidable.of_not_not q11)),hp6⟩
               by_cases q12:((↑(Lc (Qt {Qb:=ys,miss:=rf.miss,seasons:=rf.seasons} Qa)):Int):Int)≠((↑(Lc (Qt rf Qa)):Int))
               ·try have Xy:=Qn (Qg ‹Ql rf=true›).1
                try have XF:=(Qo ‹Qm rf Qa=true›).1
                try have XG:=Qh (Qp ‹Ql rf=true›) ‹Qm rf Qa=true›
                try have XL:=Qh (Qp ‹Ql rf=true›) ‹Qm rf Qa=true› Qc.toNat
                try have Xg:=Q7 hr XE XK XN XC XY hm hx hy h1 q0
                try have XQ:=Qx (g:=Xj low high) (ps:=rf.Qb) h0 q0
                try have XP:=Qx (g:=QP Qd) (ps:=rf.Qb) h0 q0
                try have Xp:=Qq ((Qg hr).2 i h0 q0).1
                exact(GoE.endsT okF hJ Qi X7 (zG B rf Qa Qc place low high Qd i ms mn xs ys Qr)
                 ⟨(JT q12),hp7⟩).cast (by first|rfl|(exfalso;omega)|(exfalso;obtain⟨e1,e2,e3,e4,e5,e6,e7⟩:=Xg;simp_all;done)|(simp_all;done))
               ·try have Xy:=Qn (Qg ‹Ql rf=true›).1
                try have XF:=(Qo ‹Qm rf Qa=true›).1
                try have XG:=Qh (Qp ‹Ql rf=true›) ‹Qm rf Qa=true›
                try have XL:=Qh (Qp ‹Ql rf=true›) ‹Qm rf Qa=true› Qc.toNat
                try have Xg:=Q7 hr XE XK XN XC XY hm hx hy h1 q0
                try have XQ:=Qx (g:=Xj low high) (ps:=rf.Qb) h0 q0
                try have XP:=Qx (g:=QP Qd) (ps:=rf.Qb) h0 q0
                try have Xp:=Qq ((Qg hr).2 i h0 q0).1
                exact((ih0 _ (by omega)).2.2.1 (ms) (xs) (ys) (0) rfl (by first|with_reducible assumption|omega|rfl|(simp_all;done)) (by first|with_reducible assumption|omega|rfl|(simp_all;done)) (by first|with_reducible assumption|omega|rfl|(simp_all;done)) (by first|with_reducible assumption|omega|rfl|(simp_all;done)) (by first|with_reducible assumption|omega|rfl|(simp_all;done)) (by first|with_reducible assumption|omega|rfl|(simp_all;done)) (by first|with_reducible assumption|omega|rfl|(simp_all;done)) (by first|with_reducible assumption|omega|rfl|(simp_all;done)) (by first|with_reducible assumption|omega|rfl|(simp_all;done)) (by first|with_reducible assumption|omega|rfl|(simp_all;done)) (by first|with_reducible assumption|omega|rfl|(simp_all;done)) (by first|with_reducible assumption|omega|rfl|(simp_all;done))
                 (X7.landM okF hJ Qi (zF B rf Qa Qc place low high Qd i ms mn xs ys Qr)
                 ⟨(JU (Decidable.of_not_not q12)),hp7⟩ (by kernel_rfl) (by kernel_rfl))).cast (by first|rfl|(exfalso;omega)|(exfalso;obtain⟨e1,e2,e3,e4,e5,e6,e7⟩:=Xg;simp_all;done)|(simp_all;done))
           |false=>
            try have Xy:=Qn (Qg ‹Ql rf=true›).1
            try have XF:=(Qo ‹Qm rf Qa=true›).1
            try have XG:=Qh (Qp ‹Ql rf=true›) ‹Qm rf Qa=true›
            try have XL:=Qh (Qp ‹Ql rf=true›) ‹Qm rf Qa=true› Qc.toNat
            try have Xg:=Q7 hr XE XK XN XC XY hm hx hy h1 q0
            try have XQ:=Qx (g:=Xj low high) (ps:=rf.Qb) h0 q0
            try have XP:=Qx (g:=QP Qd) (ps:=rf.Qb) h0 q0
            try have Xp:=Qq ((Qg hr).2 i h0 q0).1
            exact(GoE.endsT okF hJ Qi X7 (zE B rf Qa Qc place low high Qd i ms mn xs ys Qr)
             ⟨⟨⟨(Qv (fun x=>List.all_eq_true.1 (by first|rfl|(cases x <;> rfl)))),trivial⟩,(by have t_:=Q8 (ys) rf.miss rf.seasons (Qa) rf.Qb.length Qa.length (by first|with_reducible assumption|omega|simp_all) (by first|with_reducible assumption|omega|simp_all);rw[q7,q8]at t_;exact t_)⟩,hp3⟩).cast (by first|rfl|(exfalso;omega)|(exfalso;obtain⟨e1,e2,e3,e4,e5,e6,e7⟩:=Xg;simp_all;done)|(simp_all;done))
          |false=>
           try have Xy:=Qn (Qg ‹Ql rf=true›).1
           try have XF:=(Qo ‹Qm rf Qa=true›).1
           try have XG:=Qh (Qp ‹Ql rf=true›) ‹Qm rf Qa=true›
           try have XL:=Qh (Qp ‹Ql rf=true›) ‹Qm rf Qa=true› Qc.toNat
           try have Xg:=Q7 hr XE XK XN XC XY hm hx hy h1 q0
           try have XQ:=Qx (g:=Xj low high) (ps:=rf.Qb) h0 q0
           try have XP:=Qx (g:=QP Qd) (ps:=rf.Qb) h0 q0
           try have Xp:=Qq ((Qg hr).2 i h0 q0).1
           exact(GoE.endsT okF hJ Qi X7 (zD B rf Qa Qc place low high Qd i ms mn xs ys Qr)
            ⟨⟨⟨(Qv (fun x=>List.all_eq_true.1 (by first|rfl|(cases x <;> rfl)))),trivial⟩,(by have t_:=Q8 (ys) rf.miss rf.seasons (Qa) rf.Qb.length Qa.length (by first|with_reducible assumption|omega|simp_all) (by first|with_reducible assumption|omega|simp_all);rw[q7]at t_;exact t_)⟩,hp3⟩).cast (by first|rfl|(exfalso;omega)|(exfalso;obtain⟨e1,e2,e3,e4,e5,e6,e7⟩:=Xg;simp_all;done)|(simp_all;done))
         |false=>
          have hp8:Q3 (Ti B rf Qa Qc place low high Qd i ms mn xs ys Qr):=by
           try have Xy:=Qn (Qg ‹Ql rf=true›).1
           try have XF:=(Qo ‹Qm rf Qa=true›).1
           try have XG:=Qh (Qp ‹Ql rf=true›) ‹Qm rf Qa=true›
           try have XL:=Qh (Qp ‹Ql rf=true›) ‹Qm rf Qa=true› Qc.toNat
           try have Xg:=Q7 hr XE XK XN XC XY hm hx hy h1 q0
           try have XQ:=Qx (g:=Xj low high) (ps:=rf.Qb) h0 q0
           try have XP:=Qx (g:=QP Qd) (ps:=rf.Qb) h0 q0
           try have Xp:=Qq ((Qg hr).2 i h0 q0).1
           exact⟨⟨⟨(Qv (fun x=>List.all_eq_true.1 (by first|rfl|(cases x <;> rfl)))),trivial⟩,(by have t_:=Q8 (xs) rf.miss rf.seasons (Qa) rf.Qb.length Qa.length (by first|with_reducible assumption|omega|simp_all) (by first|with_reducible assumption|omega|simp_all);rw[q5,q6]at t_;exact t_)⟩,hp2⟩
          cases q7:Ql {Qb:=ys,miss:=rf.miss,seasons:=rf.seasons}with
          |true=>
           cases q8:Qm {Qb:=ys,miss:=rf.miss,seasons:=rf.seasons} Qa with
           |true=>
            try have Xy:=Qn (Qg ‹Ql rf=true›).1
            try have XF:=(Qo ‹Qm rf Qa=true›).1
            try have XG:=Qh (Qp ‹Ql rf=true›) ‹Qm rf Qa=true›
            try have XL:=Qh (Qp ‹Ql rf=true›) ‹Qm rf Qa=true› Qc.toNat
            try have Xg:=Q7 hr XE XK XN XC XY hm hx hy h1 q0
            try have XQ:=Qx (g:=Xj low high) (ps:=rf.Qb) h0 q0
            try have XP:=Qx (g:=QP Qd) (ps:=rf.Qb) h0 q0
            try have Xp:=Qq ((Qg hr).2 i h0 q0).1
            exact(GoE.endsT okF hJ Qi X7 (zC B rf Qa Qc place low high Qd i ms mn xs ys Qr)
             ⟨⟨⟨(Qv (fun x=>List.all_eq_true.1 (by first|rfl|(cases x <;> rfl)))),trivial⟩,(by have t_:=Q8 (ys) rf.miss rf.seasons (Qa) rf.Qb.length Qa.length (by first|with_reducible assumption|omega|simp_all) (by first|with_reducible assumption|omega|simp_all);rw[q7,q8]at t_;exact t_)⟩,hp8⟩).cast (by first|rfl|(exfalso;omega)|(exfalso;obtain⟨e1,e2,e3,e4,e5,e6,e7⟩:=Xg;simp_all;done)|(simp_all;done))
           |false=>
            try have Xy:=Qn (Qg ‹Ql rf=true›).1
            try have XF:=(Qo ‹Qm rf Qa=true›).1
            try have XG:=Qh (Qp ‹Ql rf=true›) ‹Qm rf Qa=true›
            try have XL:=Qh (Qp ‹Ql rf=true›) ‹Qm rf Qa=true› Qc.toNat
            try have Xg:=Q7 hr XE XK XN XC XY hm hx hy h1 q0
            try have XQ:=Qx (g:=Xj low high) (ps:=rf.Qb) h0 q0
            try have XP:=Qx (g:=QP Qd) (ps:=rf.Qb) h0 q0
            try have Xp:=Qq ((Qg hr).2 i h0 q0).1
            exact(GoE.endsT okF hJ Qi X7 (zB B rf Qa Qc place low high Qd i ms mn xs ys Qr)
             ⟨⟨⟨(Qv (fun x=>List.all_eq_true.1 (by first|rfl|(cases x <;> rfl)))),trivial⟩,(by have t_:=Q8 (ys) rf.miss rf.seasons (Qa) rf.Qb.length Qa.length (by first|with_reducible assumption|omega|simp_all) (by first|with_reducible assumption|omega|simp_all);rw[q7,q8]at t_;exact t_)⟩,hp8⟩).cast (by first|rfl|(exfalso;omega)|(exfalso;obtain⟨e1,e2,e3,e4,e5,e6,e7⟩:=Xg;simp_all;done)|(simp_all;done))
          |false=>
           try have Xy:=Qn (Qg ‹Ql rf=true›).1
           try have XF:=(Qo ‹Qm rf Qa=true›).1
           try have XG:=Qh (Qp ‹Ql rf=true›) ‹Qm rf Qa=true›
           try have XL:=Qh (Qp ‹Ql rf=true›) ‹Qm rf Qa=true› Qc.toNat
           try have Xg:=Q7 hr XE XK XN XC XY hm hx hy h1 q0
           try have XQ:=Qx (g:=Xj low high) (ps:=rf.Qb) h0 q0
           try have XP:=Qx (g:=QP Qd) (ps:=rf.Qb) h0 q0
           try have Xp:=Qq ((Qg hr).2 i h0 q0).1
           exact(GoE.endsT okF hJ Qi X7 (xM B rf Qa Qc place low high Qd i ms mn xs ys Qr)
            ⟨⟨⟨(Qv (fun x=>List.all_eq_true.1 (by first|rfl|(cases x <;> rfl)))),trivial⟩,(by have t_:=Q8 (ys) rf.miss rf.seasons (Qa) rf.Qb.length Qa.length (by first|with_reducible assumption|omega|simp_all) (by first|with_reducible assumption|omega|simp_all);rw[q7]at t_;exact t_)⟩,hp8⟩).cast (by first|rfl|(exfalso;omega)|(exfalso;obtain⟨e1,e2,e3,e4,e5,e6,e7⟩:=Xg;simp_all;done)|(simp_all;done))
        |false=>
         have hp9:Q3 (Th B rf Qa Qc place low high Qd i ms mn xs ys Qr):=by
          try have Xy:=Qn (Qg ‹Ql rf=true›).1
          try have XF:=(Qo ‹Qm rf Qa=true›).1
          try have XG:=Qh (Qp ‹Ql rf=true›) ‹Qm rf Qa=true›
          try have XL:=Qh (Qp ‹Ql rf=true›) ‹Qm rf Qa=true› Qc.toNat
          try have Xg:=Q7 hr XE XK XN XC XY hm hx hy h1 q0
          try have XQ:=Qx (g:=Xj low high) (ps:=rf.Qb) h0 q0
          try have XP:=Qx (g:=QP Qd) (ps:=rf.Qb) h0 q0
          try have Xp:=Qq ((Qg hr).2 i h0 q0).1
          exact⟨⟨⟨(Qv (fun x=>List.all_eq_true.1 (by first|rfl|(cases x <;> rfl)))),trivial⟩,(by have t_:=Q8 (xs) rf.miss rf.seasons (Qa) rf.Qb.length Qa.length (by first|with_reducible assumption|omega|simp_all) (by first|with_reducible assumption|omega|simp_all);rw[q5]at t_;exact t_)⟩,hp2⟩
         cases q6:Ql {Qb:=ys,miss:=rf.miss,seasons:=rf.seasons}with
         |true=>
          cases q7:Qm {Qb:=ys,miss:=rf.miss,seasons:=rf.seasons} Qa with
          |true=>
           try have Xy:=Qn (Qg ‹Ql rf=true›).1
           try have XF:=(Qo ‹Qm rf Qa=true›).1
           try have XG:=Qh (Qp ‹Ql rf=true›) ‹Qm rf Qa=true›
           try have XL:=Qh (Qp ‹Ql rf=true›) ‹Qm rf Qa=true› Qc.toNat
           try have Xg:=Q7 hr XE XK XN XC XY hm hx hy h1 q0
           try have XQ:=Qx (g:=Xj low high) (ps:=rf.Qb) h0 q0
           try have XP:=Qx (g:=QP Qd) (ps:=rf.Qb) h0 q0
           try have Xp:=Qq ((Qg hr).2 i h0 q0).1
           exact(GoE.endsT okF hJ Qi X7 (xL B rf Qa Qc place low high Qd i ms mn xs ys Qr)
            ⟨⟨⟨(Qv (fun x=>List.all_eq_true.1 (by first|rfl|(cases x <;> rfl)))),trivial⟩,(by have t_:=Q8 (ys) rf.miss rf.seasons (Qa) rf.Qb.length Qa.length (by first|with_reducible assumption|omega|simp_all) (by first|with_reducible assumption|omega|simp_all);rw[q6,q7]at t_;exact t_)⟩,hp9⟩).cast (by first|rfl|(exfalso;omega)|(exfalso;obtain⟨e1,e2,e3,e4,e5,e6,e7⟩:=Xg;simp_all;done)|(simp_all;done))
          |false=>
           try have Xy:=Qn (Qg ‹Ql rf=true›).1
           try have XF:=(Qo ‹Qm rf Qa=true›).1
           try have XG:=Qh (Qp ‹Ql rf=true›) ‹Qm rf Qa=true›
           try have XL:=Qh (Qp ‹Ql rf=true›) ‹Qm rf Qa=true› Qc.toNat
           try have Xg:=Q7 hr XE XK XN XC XY hm hx hy h1 q0
           try have XQ:=Qx (g:=Xj low high) (ps:=rf.Qb) h0 q0
           try have XP:=Qx (g:=QP Qd) (ps:=rf.Qb) h0 q0
           try have Xp:=Qq ((Qg hr).2 i h0 q0).1
           exact(GoE.endsT okF hJ Qi X7 (xK B rf Qa Qc place low high Qd i ms mn xs ys Qr)
            ⟨⟨⟨(Qv (fun x=>List.all_eq_true.1 (by first|rfl|(cases x <;> rfl)))),trivial⟩,(by have t_:=Q8 (ys) rf.miss rf.seasons (Qa) rf.Qb.length Qa.length (by first|with_reducible assumption|omega|simp_all) (by first|with_reducible assumption|omega|simp_all);rw[q6,q7]at t_;exact t_)⟩,hp9⟩).cast (by first|rfl|(exfalso;omega)|(exfalso;obtain⟨e1,e2,e3,e4,e5,e6,e7⟩:=Xg;simp_all;done)|(simp_all;done))
         |false=>
          try have Xy:=Qn (Qg ‹Ql rf=true›).1
          try have XF:=(Qo ‹Qm rf Qa=true›).1
          try have XG:=Qh (Qp ‹Ql rf=true›) ‹Qm rf Qa=true›
          try have XL:=Qh (Qp ‹Ql rf=true›) ‹Qm rf Qa=true› Qc.toNat
          try have Xg:=Q7 hr XE XK XN XC XY hm hx hy h1 q0
          try have XQ:=Qx (g:=Xj low high) (ps:=rf.Qb) h0 q0
          try have XP:=Qx (g:=QP Qd) (ps:=rf.Qb) h0 q0
          try have Xp:=Qq ((Qg hr).2 i h0 q0).1
          exact(GoE.endsT okF hJ Qi X7 (xJ B rf Qa Qc place low high Qd i ms mn xs ys Qr)
           ⟨⟨⟨(Qv (fun x=>List.all_eq_true.1 (by first|rfl|(cases x <;> rfl)))),trivial⟩,(by have t_:=Q8 (ys) rf.miss rf.seasons (Qa) rf.Qb.length Qa.length (by first|with_reducible assumption|omega|simp_all) (by first|with_reducible assumption|omega|simp_all);rw[q6]at t_;exact t_)⟩,hp9⟩).cast (by first|rfl|(exfalso;omega)|(exfalso;obtain⟨e1,e2,e3,e4,e5,e6,e7⟩:=Xg;simp_all;done)|(simp_all;done))
       |false=>
        have hp10:Q3 (RC B rf Qa Qc place low high Qd i ms mn xs ys Qr):=by
         try have Xy:=Qn (Qg ‹Ql rf=true›).1
         try have XF:=(Qo ‹Qm rf Qa=true›).1
         try have XG:=Qh (Qp ‹Ql rf=true›) ‹Qm rf Qa=true›
         try have XL:=Qh (Qp ‹Ql rf=true›) ‹Qm rf Qa=true› Qc.toNat
         try have Xg:=Q7 hr XE XK XN XC XY hm hx hy h1 q0
         try have XQ:=Qx (g:=Xj low high) (ps:=rf.Qb) h0 q0
         try have XP:=Qx (g:=QP Qd) (ps:=rf.Qb) h0 q0
         try have Xp:=Qq ((Qg hr).2 i h0 q0).1
         exact⟨⟨⟨(Qv (fun x=>List.all_eq_true.1 (by first|rfl|(cases x <;> rfl)))),trivial⟩,(by have t_:=Q8 rf.Qb rf.miss rf.seasons (ms) rf.Qb.length (mn) (by first|with_reducible assumption|omega|simp_all) (by first|with_reducible assumption|omega|simp_all);rw[q3,q4]at t_;exact t_)⟩,hp1⟩
        cases q5:Ql {Qb:=xs,miss:=rf.miss,seasons:=rf.seasons}with
        |true=>
         cases q6:Qm {Qb:=xs,miss:=rf.miss,seasons:=rf.seasons} Qa with
         |true=>
          have hp11:Q3 (RB B rf Qa Qc place low high Qd i ms mn xs ys Qr):=by
           try have Xy:=Qn (Qg ‹Ql rf=true›).1
           try have XF:=(Qo ‹Qm rf Qa=true›).1
           try have XG:=Qh (Qp ‹Ql rf=true›) ‹Qm rf Qa=true›
           try have XL:=Qh (Qp ‹Ql rf=true›) ‹Qm rf Qa=true› Qc.toNat
           try have Xg:=Q7 hr XE XK XN XC XY hm hx hy h1 q0
           try have XQ:=Qx (g:=Xj low high) (ps:=rf.Qb) h0 q0
           try have XP:=Qx (g:=QP Qd) (ps:=rf.Qb) h0 q0
           try have Xp:=Qq ((Qg hr).2 i h0 q0).1
           exact⟨⟨⟨(Qv (fun x=>List.all_eq_true.1 (by first|rfl|(cases x <;> rfl)))),trivial⟩,(by have t_:=Q8 (xs) rf.miss rf.seasons (Qa) rf.Qb.length Qa.length (by first|with_reducible assumption|omega|simp_all) (by first|with_reducible assumption|omega|simp_all);rw[q5,q6]at t_;exact t_)⟩,hp10⟩
          cases q7:Ql {Qb:=ys,miss:=rf.miss,seasons:=rf.seasons}with
          |true=>
           cases q8:Qm {Qb:=ys,miss:=rf.miss,seasons:=rf.seasons} Qa with
           |true=>
            try have Xy:=Qn (Qg ‹Ql rf=true›).1
            try have XF:=(Qo ‹Qm rf Qa=true›).1
            try have XG:=Qh (Qp ‹Ql rf=true›) ‹Qm rf Qa=true›
            try have XL:=Qh (Qp ‹Ql rf=true›) ‹Qm rf Qa=true› Qc.toNat
            try have Xg:=Q7 hr XE XK XN XC XY hm hx hy h1 q0
            try have XQ:=Qx (g:=Xj low high) (ps:=rf.Qb) h0 q0
            try have XP:=Qx (g:=QP Qd) (ps:=rf.Qb) h0 q0
            try have Xp:=Qq ((Qg hr).2 i h0 q0).1
            exact(GoE.endsT okF hJ Qi X7 (xI B rf Qa Qc place low high Qd i ms mn xs ys Qr)
             ⟨⟨⟨(Qv (fun x=>List.all_eq_true.1 (by first|rfl|(cases x <;> rfl)))),trivial⟩,(by have t_:=Q8 (ys) rf.miss rf.seasons (Qa) rf.Qb.length Qa.length (by first|with_reducible assumption|omega|simp_all) (by first|with_reducible assumption|omega|simp_all);rw[q7,q8]at t_;exact t_)⟩,hp11⟩).cast (by first|rfl|(exfalso;omega)|(exfalso;obtain⟨e1,e2,e3,e4,e5,e6,e7⟩:=Xg;simp_all;done)|(simp_all;done))
           |false=>
            try have Xy:=Qn (Qg ‹Ql rf=true›).1
            try have XF:=(Qo ‹Qm rf Qa=true›).1
            try have XG:=Qh (Qp ‹Ql rf=true›) ‹Qm rf Qa=true›
            try have XL:=Qh (Qp ‹Ql rf=true›) ‹Qm rf Qa=true› Qc.toNat
            try have Xg:=Q7 hr XE XK XN XC XY hm hx hy h1 q0
            try have XQ:=Qx (g:=Xj low high) (ps:=rf.Qb) h0 q0
            try have XP:=Qx (g:=QP Qd) (ps:=rf.Qb) h0 q0
            try have Xp:=Qq ((Qg hr).2 i h0 q0).1
            exact(GoE.endsT okF hJ Qi X7 (xH B rf Qa Qc place low high Qd i ms mn xs ys Qr)
             ⟨⟨⟨(Qv (fun x=>List.all_eq_true.1 (by first|rfl|(cases x <;> rfl)))),trivial⟩,(by have t_:=Q8 (ys) rf.miss rf.seasons (Qa) rf.Qb.length Qa.length (by first|with_reducible assumption|omega|simp_all) (by first|with_reducible assumption|omega|simp_all);rw[q7,q8]at t_;exact t_)⟩,hp11⟩).cast (by first|rfl|(exfalso;omega)|(exfalso;obtain⟨e1,e2,e3,e4,e5,e6,e7⟩:=Xg;simp_all;done)|(simp_all;done))
          |false=>
           try have Xy:=Qn (Qg ‹Ql rf=true›).1
           try have XF:=(Qo ‹Qm rf Qa=true›).1
           try have XG:=Qh (Qp ‹Ql rf=true›) ‹Qm rf Qa=true›
           try have XL:=Qh (Qp ‹Ql rf=true›) ‹Qm rf Qa=true› Qc.toNat
           try have Xg:=Q7 hr XE XK XN XC XY hm hx hy h1 q0
           try have XQ:=Qx (g:=Xj low high) (ps:=rf.Qb) h0 q0
           try have XP:=Qx (g:=QP Qd) (ps:=rf.Qb) h0 q0
           try have Xp:=Qq ((Qg hr).2 i h0 q0).1
           exact(GoE.endsT okF hJ Qi X7 (xG B rf Qa Qc place low high Qd i ms mn xs ys Qr)
            ⟨⟨⟨(Qv (fun x=>List.all_eq_true.1 (by first|rfl|(cases x <;> rfl)))),trivial⟩,(by have t_:=Q8 (ys) rf.miss rf.seasons (Qa) rf.Qb.length Qa.length (by first|with_reducible assumption|omega|simp_all) (by first|with_reducible assumption|omega|simp_all);rw[q7]at t_;exact t_)⟩,hp11⟩).cast (by first|rfl|(exfalso;omega)|(exfalso;obtain⟨e1,e2,e3,e4,e5,e6,e7⟩:=Xg;simp_all;done)|(simp_all;done))
         |false=>
          have hp12:Q3 (RA B rf Qa Qc place low high Qd i ms mn xs ys Qr):=by
           try have Xy:=Qn (Qg ‹Ql rf=true›).1
           try have XF:=(Qo ‹Qm rf Qa=true›).1
           try have XG:=Qh (Qp ‹Ql rf=true›) ‹Qm rf Qa=true›
           try have XL:=Qh (Qp ‹Ql rf=true›) ‹Qm rf Qa=true› Qc.toNat
           try have Xg:=Q7 hr XE XK XN XC XY hm hx hy h1 q0
           try have XQ:=Qx (g:=Xj low high) (ps:=rf.Qb) h0 q0
           try have XP:=Qx (g:=QP Qd) (ps:=rf.Qb) h0 q0
           try have Xp:=Qq ((Qg hr).2 i h0 q0).1
           exact⟨⟨⟨(Qv (fun x=>List.all_eq_true.1 (by first|rfl|(cases x <;> rfl)))),trivial⟩,(by have t_:=Q8 (xs) rf.miss rf.seasons (Qa) rf.Qb.length Qa.length (by first|with_reducible assumption|omega|simp_all) (by first|with_reducible assumption|omega|simp_all);rw[q5,q6]at t_;exact t_)⟩,hp10⟩
          cases q7:Ql {Qb:=ys,miss:=rf.miss,seasons:=rf.seasons}with
          |true=>
           cases q8:Qm {Qb:=ys,miss:=rf.miss,seasons:=rf.seasons} Qa with
           |true=>
            try have Xy:=Qn (Qg ‹Ql rf=true›).1
            try have XF:=(Qo ‹Qm rf Qa=true›).1
            try have XG:=Qh (Qp ‹Ql rf=true›) ‹Qm rf Qa=true›
            try have XL:=Qh (Qp ‹Ql rf=true›) ‹Qm rf Qa=true› Qc.toNat
            try have Xg:=Q7 hr XE XK XN XC XY hm hx hy h1 q0
            try have XQ:=Qx (g:=Xj low high) (ps:=rf.Qb) h0 q0
            try have XP:=Qx (g:=QP Qd) (ps:=rf.Qb) h0 q0
            try have Xp:=Qq ((Qg hr).2 i h0 q0).1
            exact(GoE.endsT okF hJ Qi X7 (xF B rf Qa Qc place low high Qd i ms mn xs ys Qr)
             ⟨⟨⟨(Qv (fun x=>List.all_eq_true.1 (by first|rfl|(cases x <;> rfl)))),trivial⟩,(by have t_:=Q8 (ys) rf.miss rf.seasons (Qa) rf.Qb.length Qa.length (by first|with_reducible assumption|omega|simp_all) (by first|with_reducible assumption|omega|simp_all);rw[q7,q8]at t_;exact t_)⟩,hp12⟩).cast (by first|rfl|(exfalso;omega)|(exfalso;obtain⟨e1,e2,e3,e4,e5,e6,e7⟩:=Xg;simp_all;done)|(simp_all;done))
           |false=>
            try have Xy:=Qn (Qg ‹Ql rf=true›).1
            try have XF:=(Qo ‹Qm rf Qa=true›).1
            try have XG:=Qh (Qp ‹Ql rf=true›) ‹Qm rf Qa=true›
            try have XL:=Qh (Qp ‹Ql rf=true›) ‹Qm rf Qa=true› Qc.toNat
            try have Xg:=Q7 hr XE XK XN XC XY hm hx hy h1 q0
            try have XQ:=Qx (g:=Xj low high) (ps:=rf.Qb) h0 q0
            try have XP:=Qx (g:=QP Qd) (ps:=rf.Qb) h0 q0
            try have Xp:=Qq ((Qg hr).2 i h0 q0).1
            exact(GoE.endsT okF hJ Qi X7 (xE B rf Qa Qc place low high Qd i ms mn xs ys Qr)
             ⟨⟨⟨(Qv (fun x=>List.all_eq_true.1 (by first|rfl|(cases x <;> rfl)))),trivial⟩,(by have t_:=Q8 (ys) rf.miss rf.seasons (Qa) rf.Qb.length Qa.length (by first|with_reducible assumption|omega|simp_all) (by first|with_reducible assumption|omega|simp_all);rw[q7,q8]at t_;exact t_)⟩,hp12⟩).cast (by first|rfl|(exfalso;omega)|(exfalso;obtain⟨e1,e2,e3,e4,e5,e6,e7⟩:=Xg;simp_all;done)|(simp_all;done))
          |false=>
           try have Xy:=Qn (Qg ‹Ql rf=true›).1
           try have XF:=(Qo ‹Qm rf Qa=true›).1
           try have XG:=Qh (Qp ‹Ql rf=true›) ‹Qm rf Qa=true›
           try have XL:=Qh (Qp ‹Ql rf=true›) ‹Qm rf Qa=true› Qc.toNat
           try have Xg:=Q7 hr XE XK XN XC XY hm hx hy h1 q0
           try have XQ:=Qx (g:=Xj low high) (ps:=rf.Qb) h0 q0
           try have XP:=Qx (g:=QP Qd) (ps:=rf.Qb) h0 q0
           try have Xp:=Qq ((Qg hr).2 i h0 q0).1
           exact(GoE.endsT okF hJ Qi X7 (xD B rf Qa Qc place low high Qd i ms mn xs ys Qr)
            ⟨⟨⟨(Qv (fun x=>List.all_eq_true.1 (by first|rfl|(cases x <;> rfl)))),trivial⟩,(by have t_:=Q8 (ys) rf.miss rf.seasons (Qa) rf.Qb.length Qa.length (by first|with_reducible assumption|omega|simp_all) (by first|with_reducible assumption|omega|simp_all);rw[q7]at t_;exact t_)⟩,hp12⟩).cast (by first|rfl|(exfalso;omega)|(exfalso;obtain⟨e1,e2,e3,e4,e5,e6,e7⟩:=Xg;simp_all;done)|(simp_all;done))
        |false=>
         have hp13:Q3 (R9 B rf Qa Qc place low high Qd i ms mn xs ys Qr):=by
          try have Xy:=Qn (Qg ‹Ql rf=true›).1
          try have XF:=(Qo ‹Qm rf Qa=true›).1
          try have XG:=Qh (Qp ‹Ql rf=true›) ‹Qm rf Qa=true›
          try have XL:=Qh (Qp ‹Ql rf=true›) ‹Qm rf Qa=true› Qc.toNat
          try have Xg:=Q7 hr XE XK XN XC XY hm hx hy h1 q0
          try have XQ:=Qx (g:=Xj low high) (ps:=rf.Qb) h0 q0
          try have XP:=Qx (g:=QP Qd) (ps:=rf.Qb) h0 q0
          try have Xp:=Qq ((Qg hr).2 i h0 q0).1
          exact⟨⟨⟨(Qv (fun x=>List.all_eq_true.1 (by first|rfl|(cases x <;> rfl)))),trivial⟩,(by have t_:=Q8 (xs) rf.miss rf.seasons (Qa) rf.Qb.length Qa.length (by first|with_reducible assumption|omega|simp_all) (by first|with_reducible assumption|omega|simp_all);rw[q5]at t_;exact t_)⟩,hp10⟩
         cases q6:Ql {Qb:=ys,miss:=rf.miss,seasons:=rf.seasons}with
         |true=>
          cases q7:Qm {Qb:=ys,miss:=rf.miss,seasons:=rf.seasons} Qa with
          |true=>
           try have Xy:=Qn (Qg ‹Ql rf=true›).1
           try have XF:=(Qo ‹Qm rf Qa=true›).1
           try have XG:=Qh (Qp ‹Ql rf=true›) ‹Qm rf Qa=true›
           try have XL:=Qh (Qp ‹Ql rf=true›) ‹Qm rf Qa=true› Qc.toNat
           try have Xg:=Q7 hr XE XK XN XC XY hm hx hy h1 q0
           try have XQ:=Qx (g:=Xj low high) (ps:=rf.Qb) h0 q0
           try have XP:=Qx (g:=QP Qd) (ps:=rf.Qb) h0 q0
           try have Xp:=Qq ((Qg hr).2 i h0 q0).1
           exact(GoE.endsT okF hJ Qi X7 (xC B rf Qa Qc place low high Qd i ms mn xs ys Qr)
            ⟨⟨⟨(Qv (fun x=>List.all_eq_true.1 (by first|rfl|(cases x <;> rfl)))),trivial⟩,(by have t_:=Q8 (ys) rf.miss rf.seasons (Qa) rf.Qb.length Qa.length (by first|with_reducible assumption|omega|simp_all) (by first|with_reducible assumption|omega|simp_all);rw[q6,q7]at t_;exact t_)⟩,hp13⟩).cast (by first|rfl|(exfalso;omega)|(exfalso;obtain⟨e1,e2,e3,e4,e5,e6,e7⟩:=Xg;simp_all;done)|(simp_all;done))
          |false=>
           try have Xy:=Qn (Qg ‹Ql rf=true›).1
           try have XF:=(Qo ‹Qm rf Qa=true›).1
           try have XG:=Qh (Qp ‹Ql rf=true›) ‹Qm rf Qa=true›
           try have XL:=Qh (Qp ‹Ql rf=true›) ‹Qm rf Qa=true› Qc.toNat
           try have Xg:=Q7 hr XE XK XN XC XY hm hx hy h1 q0
           try have XQ:=Qx (g:=Xj low high) (ps:=rf.Qb) h0 q0
           try have XP:=Qx (g:=QP Qd) (ps:=rf.Qb) h0 q0
           try have Xp:=Qq ((Qg hr).2 i h0 q0).1
           exact(GoE.endsT okF hJ Qi X7 (xB B rf Qa Qc place low high Qd i ms mn xs ys Qr)
            ⟨⟨⟨(Qv (fun x=>List.all_eq_true.1 (by first|rfl|(cases x <;> rfl)))),trivial⟩,(by have t_:=Q8 (ys) rf.miss rf.seasons (Qa) rf.Qb.length Qa.length (by first|with_reducible assumption|omega|simp_all) (by first|with_reducible assumption|omega|simp_all);rw[q6,q7]at t_;exact t_)⟩,hp13⟩).cast (by first|rfl|(exfalso;omega)|(exfalso;obtain⟨e1,e2,e3,e4,e5,e6,e7⟩:=Xg;simp_all;done)|(simp_all;done))
         |false=>
          try have Xy:=Qn (Qg ‹Ql rf=true›).1
          try have XF:=(Qo ‹Qm rf Qa=true›).1
          try have XG:=Qh (Qp ‹Ql rf=true›) ‹Qm rf Qa=true›
          try have XL:=Qh (Qp ‹Ql rf=true›) ‹Qm rf Qa=true› Qc.toNat
          try have Xg:=Q7 hr XE XK XN XC XY hm hx hy h1 q0
          try have XQ:=Qx (g:=Xj low high) (ps:=rf.Qb) h0 q0
          try have XP:=Qx (g:=QP Qd) (ps:=rf.Qb) h0 q0
          try have Xp:=Qq ((Qg hr).2 i h0 q0).1
          exact(GoE.endsT okF hJ Qi X7 (xA B rf Qa Qc place low high Qd i ms mn xs ys Qr)
           ⟨⟨⟨(Qv (fun x=>List.all_eq_true.1 (by first|rfl|(cases x <;> rfl)))),trivial⟩,(by have t_:=Q8 (ys) rf.miss rf.seasons (Qa) rf.Qb.length Qa.length (by first|with_reducible assumption|omega|simp_all) (by first|with_reducible assumption|omega|simp_all);rw[q6]at t_;exact t_)⟩,hp13⟩).cast (by first|rfl|(exfalso;omega)|(exfalso;obtain⟨e1,e2,e3,e4,e5,e6,e7⟩:=Xg;simp_all;done)|(simp_all;done))
      |false=>
       have hp14:Q3 (R8 B rf Qa Qc place low high Qd i ms mn xs ys Qr):=by
        try have Xy:=Qn (Qg ‹Ql rf=true›).1
        try have XF:=(Qo ‹Qm rf Qa=true›).1
        try have XG:=Qh (Qp ‹Ql rf=true›) ‹Qm rf Qa=true›
        try have XL:=Qh (Qp ‹Ql rf=true›) ‹Qm rf Qa=true› Qc.toNat
        try have Xg:=Q7 hr XE XK XN XC XY hm hx hy h1 q0
        try have XQ:=Qx (g:=Xj low high) (ps:=rf.Qb) h0 q0
        try have XP:=Qx (g:=QP Qd) (ps:=rf.Qb) h0 q0
        try have Xp:=Qq ((Qg hr).2 i h0 q0).1
        exact⟨⟨⟨(Qv (fun x=>List.all_eq_true.1 (by first|rfl|(cases x <;> rfl)))),trivial⟩,(by have t_:=Q8 rf.Qb rf.miss rf.seasons (ms) rf.Qb.length (mn) (by first|with_reducible assumption|omega|simp_all) (by first|with_reducible assumption|omega|simp_all);rw[q3]at t_;exact t_)⟩,hp1⟩
       cases q4:Ql {Qb:=xs,miss:=rf.miss,seasons:=rf.seasons}with
       |true=>
        cases q5:Qm {Qb:=xs,miss:=rf.miss,seasons:=rf.seasons} Qa with
        |true=>
         have hp15:Q3 (R6 B rf Qa Qc place low high Qd i ms mn xs ys Qr):=by
          try have Xy:=Qn (Qg ‹Ql rf=true›).1
          try have XF:=(Qo ‹Qm rf Qa=true›).1
          try have XG:=Qh (Qp ‹Ql rf=true›) ‹Qm rf Qa=true›
          try have XL:=Qh (Qp ‹Ql rf=true›) ‹Qm rf Qa=true› Qc.toNat
          try have Xg:=Q7 hr XE XK XN XC XY hm hx hy h1 q0
          try have XQ:=Qx (g:=Xj low high) (ps:=rf.Qb) h0 q0
          try have XP:=Qx (g:=QP Qd) (ps:=rf.Qb) h0 q0
          try have Xp:=Qq ((Qg hr).2 i h0 q0).1
          exact⟨⟨⟨(Qv (fun x=>List.all_eq_true.1 (by first|rfl|(cases x <;> rfl)))),trivial⟩,(by have t_:=Q8 (xs) rf.miss rf.seasons (Qa) rf.Qb.length Qa.length (by first|with_reducible assumption|omega|simp_all) (by first|with_reducible assumption|omega|simp_all);rw[q4,q5]at t_;exact t_)⟩,hp14⟩
         cases q6:Ql {Qb:=ys,miss:=rf.miss,seasons:=rf.seasons}with
         |true=>
          cases q7:Qm {Qb:=ys,miss:=rf.miss,seasons:=rf.seasons} Qa with
          |true=>
           try have Xy:=Qn (Qg ‹Ql rf=true›).1
           try have XF:=(Qo ‹Qm rf Qa=true›).1
           try have XG:=Qh (Qp ‹Ql rf=true›) ‹Qm rf Qa=true›
           try have XL:=Qh (Qp ‹Ql rf=true›) ‹Qm rf Qa=true› Qc.toNat
           try have Xg:=Q7 hr XE XK XN XC XY hm hx hy h1 q0
           try have XQ:=Qx (g:=Xj low high) (ps:=rf.Qb) h0 q0
           try have XP:=Qx (g:=QP Qd) (ps:=rf.Qb) h0 q0
           try have Xp:=Qq ((Qg hr).2 i h0 q0).1
           exact(GoE.endsT okF hJ Qi X7 (x9 B rf Qa Qc place low high Qd i ms mn xs ys Qr)
            ⟨⟨⟨(Qv (fun x=>List.all_eq_true.1 (by first|rfl|(cases x <;> rfl)))),trivial⟩,(by have t_:=Q8 (ys) rf.miss rf.seasons (Qa) rf.Qb.length Qa.length (by first|with_reducible assumption|omega|simp_all) (by first|with_reducible assumption|omega|simp_all);rw[q6,q7]at t_;exact t_)⟩,hp15⟩).cast (by first|rfl|(exfalso;omega)|(exfalso;obtain⟨e1,e2,e3,e4,e5,e6,e7⟩:=Xg;simp_all;done)|(simp_all;done))
          |false=>
           try have Xy:=Qn (Qg ‹Ql rf=true›).1
           try have XF:=(Qo ‹Qm rf Qa=true›).1
           try have XG:=Qh (Qp ‹Ql rf=true›) ‹Qm rf Qa=true›
           try have XL:=Qh (Qp ‹Ql rf=true›) ‹Qm rf Qa=true› Qc.toNat
           try have Xg:=Q7 hr XE XK XN XC XY hm hx hy h1 q0
           try have XQ:=Qx (g:=Xj low high) (ps:=rf.Qb) h0 q0
           try have XP:=Qx (g:=QP Qd) (ps:=rf.Qb) h0 q0
           try have Xp:=Qq ((Qg hr).2 i h0 q0).1
           exact(GoE.endsT okF hJ Qi X7 (x6 B rf Qa Qc place low high Qd i ms mn xs ys Qr)
            ⟨⟨⟨(Qv (fun x=>List.all_eq_true.1 (by first|rfl|(cases x <;> rfl)))),trivial⟩,(by have t_:=Q8 (ys) rf.miss rf.seasons (Qa) rf.Qb.length Qa.length (by first|with_reducible assumption|omega|simp_all) (by first|with_reducible assumption|omega|simp_all);rw[q6,q7]at t_;exact t_)⟩,hp15⟩).cast (by first|rfl|(exfalso;omega)|(exfalso;obtain⟨e1,e2,e3,e4,e5,e6,e7⟩:=Xg;simp_all;done)|(simp_all;done))
         |false=>
          try have Xy:=Qn (Qg ‹Ql rf=true›).1
          try have XF:=(Qo ‹Qm rf Qa=true›).1
          try have XG:=Qh (Qp ‹Ql rf=true›) ‹Qm rf Qa=true›
          try have XL:=Qh (Qp ‹Ql rf=true›) ‹Qm rf Qa=true› Qc.toNat
          try have Xg:=Q7 hr XE XK XN XC XY hm hx hy h1 q0
          try have XQ:=Qx (g:=Xj low high) (ps:=rf.Qb) h0 q0
          try have XP:=Qx (g:=QP Qd) (ps:=rf.Qb) h0 q0
          try have Xp:=Qq ((Qg hr).2 i h0 q0).1
          exact(GoE.endsT okF hJ Qi X7 (xz B rf Qa Qc place low high Qd i ms mn xs ys Qr)
           ⟨⟨⟨(Qv (fun x=>List.all_eq_true.1 (by first|rfl|(cases x <;> rfl)))),trivial⟩,(by have t_:=Q8 (ys) rf.miss rf.seasons (Qa) rf.Qb.length Qa.length (by first|with_reducible assumption|omega|simp_all) (by first|with_reducible assumption|omega|simp_all);rw[q6]at t_;exact t_)⟩,hp15⟩).cast (by first|rfl|(exfalso;omega)|(exfalso;obtain⟨e1,e2,e3,e4,e5,e6,e7⟩:=Xg;simp_all;done)|(simp_all;done))
        |false=>
         have hp16:Q3 (R5 B rf Qa Qc place low high Qd i ms mn xs ys Qr):=by
          try have Xy:=Qn (Qg ‹Ql rf=true›).1
          try have XF:=(Qo ‹Qm rf Qa=true›).1
          try have XG:=Qh (Qp ‹Ql rf=true›) ‹Qm rf Qa=true›
          try have XL:=Qh (Qp ‹Ql rf=true›) ‹Qm rf Qa=true› Qc.toNat
          try have Xg:=Q7 hr XE XK XN XC XY hm hx hy h1 q0
          try have XQ:=Qx (g:=Xj low high) (ps:=rf.Qb) h0 q0
          try have XP:=Qx (g:=QP Qd) (ps:=rf.Qb) h0 q0
          try have Xp:=Qq ((Qg hr).2 i h0 q0).1
          exact⟨⟨⟨(Qv (fun x=>List.all_eq_true.1 (by first|rfl|(cases x <;> rfl)))),trivial⟩,(by have t_:=Q8 (xs) rf.miss rf.seasons (Qa) rf.Qb.length Qa.length (by first|with_reducible assumption|omega|simp_all) (by first|with_reducible assumption|omega|simp_all);rw[q4,q5]at t_;exact t_)⟩,hp14⟩
         cases q6:Ql {Qb:=ys,miss:=rf.miss,seasons:=rf.seasons}with
         |true=>
          cases q7:Qm {Qb:=ys,miss:=rf.miss,seasons:=rf.seasons} Qa with
          |true=>
           try have Xy:=Qn (Qg ‹Ql rf=true›).1
           try have XF:=(Qo ‹Qm rf Qa=true›).1
           try have XG:=Qh (Qp ‹Ql rf=true›) ‹Qm rf Qa=true›
           try have XL:=Qh (Qp ‹Ql rf=true›) ‹Qm rf Qa=true› Qc.toNat
           try have Xg:=Q7 hr XE XK XN XC XY hm hx hy h1 q0
           try have XQ:=Qx (g:=Xj low high) (ps:=rf.Qb) h0 q0
           try have XP:=Qx (g:=QP Qd) (ps:=rf.Qb) h0 q0
           try have Xp:=Qq ((Qg hr).2 i h0 q0).1
           exact(GoE.endsT okF hJ Qi X7 (xx B rf Qa Qc place low high Qd i ms mn xs ys Qr)
            ⟨⟨⟨(Qv (fun x=>List.all_eq_true.1 (by first|rfl|(cases x <;> rfl)))),trivial⟩,(by have t_:=Q8 (ys) rf.miss rf.seasons (Qa) rf.Qb.length Qa.length (by first|with_reducible assumption|omega|simp_all) (by first|with_reducible assumption|omega|simp_all);rw[q6,q7]at t_;exact t_)⟩,hp16⟩).cast (by first|rfl|(exfalso;omega)|(exfalso;obtain⟨e1,e2,e3,e4,e5,e6,e7⟩:=Xg;simp_all;done)|(simp_all;done))
          |false=>
           try have Xy:=Qn (Qg ‹Ql rf=true›).1
           try have XF:=(Qo ‹Qm rf Qa=true›).1
           try have XG:=Qh (Qp ‹Ql rf=true›) ‹Qm rf Qa=true›
           try have XL:=Qh (Qp ‹Ql rf=true›) ‹Qm rf Qa=true› Qc.toNat
           try have Xg:=Q7 hr XE XK XN XC XY hm hx hy h1 q0
           try have XQ:=Qx (g:=Xj low high) (ps:=rf.Qb) h0 q0
           try have XP:=Qx (g:=QP Qd) (ps:=rf.Qb) h0 q0
           try have Xp:=Qq ((Qg hr).2 i h0 q0).1
           exact(GoE.endsT okF hJ Qi X7 (xw B rf Qa Qc place low high Qd i ms mn xs ys Qr)
            ⟨⟨⟨(Qv (fun x=>List.all_eq_true.1 (by first|rfl|(cases x <;> rfl)))),trivial⟩,(by have t_:=Q8 (ys) rf.miss rf.seasons (Qa) rf.Qb.length Qa.length (by first|with_reducible assumption|omega|simp_all) (by first|with_reducible assumption|omega|simp_all);rw[q6,q7]at t_;exact t_)⟩,hp16⟩).cast (by first|rfl|(exfalso;omega)|(exfalso;obtain⟨e1,e2,e3,e4,e5,e6,e7⟩:=Xg;simp_all;done)|(simp_all;done))
         |false=>
          try have Xy:=Qn (Qg ‹Ql rf=true›).1
          try have XF:=(Qo ‹Qm rf Qa=true›).1
          try have XG:=Qh (Qp ‹Ql rf=true›) ‹Qm rf Qa=true›
          try have XL:=Qh (Qp ‹Ql rf=true›) ‹Qm rf Qa=true› Qc.toNat
          try have Xg:=Q7 hr XE XK XN XC XY hm hx hy h1 q0
          try have XQ:=Qx (g:=Xj low high) (ps:=rf.Qb) h0 q0
          try have XP:=Qx (g:=QP Qd) (ps:=rf.Qb) h0 q0
          try have Xp:=Qq ((Qg hr).2 i h0 q0).1
          exact(GoE.endsT okF hJ Qi X7 (xu B rf Qa Qc place low high Qd i ms mn xs ys Qr)
           ⟨⟨⟨(Qv (fun x=>List.all_eq_true.1 (by first|rfl|(cases x <;> rfl)))),trivial⟩,(by have t_:=Q8 (ys) rf.miss rf.seasons (Qa) rf.Qb.length Qa.length (by first|with_reducible assumption|omega|simp_all) (by first|with_reducible assumption|omega|simp_all);rw[q6]at t_;exact t_)⟩,hp16⟩).cast (by first|rfl|(exfalso;omega)|(exfalso;obtain⟨e1,e2,e3,e4,e5,e6,e7⟩:=Xg;simp_all;done)|(simp_all;done))
       |false=>
        have hp17:Q3 (Rz B rf Qa Qc place low high Qd i ms mn xs ys Qr):=by
         try have Xy:=Qn (Qg ‹Ql rf=true›).1
         try have XF:=(Qo ‹Qm rf Qa=true›).1
         try have XG:=Qh (Qp ‹Ql rf=true›) ‹Qm rf Qa=true›
         try have XL:=Qh (Qp ‹Ql rf=true›) ‹Qm rf Qa=true› Qc.toNat
         try have Xg:=Q7 hr XE XK XN XC XY hm hx hy h1 q0
         try have XQ:=Qx (g:=Xj low high) (ps:=rf.Qb) h0 q0
         try have XP:=Qx (g:=QP Qd) (ps:=rf.Qb) h0 q0
         try have Xp:=Qq ((Qg hr).2 i h0 q0).1
         exact⟨⟨⟨(Qv (fun x=>List.all_eq_true.1 (by first|rfl|(cases x <;> rfl)))),trivial⟩,(by have t_:=Q8 (xs) rf.miss rf.seasons (Qa) rf.Qb.length Qa.length (by first|with_reducible assumption|omega|simp_all) (by first|with_reducible assumption|omega|simp_all);rw[q4]at t_;exact t_)⟩,hp14⟩
        cases q5:Ql {Qb:=ys,miss:=rf.miss,seasons:=rf.seasons}with
        |true=>
         cases q6:Qm {Qb:=ys,miss:=rf.miss,seasons:=rf.seasons} Qa with
         |true=>
          try have Xy:=Qn (Qg ‹Ql rf=true›).1
          try have XF:=(Qo ‹Qm rf Qa=true›).1
          try have XG:=Qh (Qp ‹Ql rf=true›) ‹Qm rf Qa=true›
          try have XL:=Qh (Qp ‹Ql rf=true›) ‹Qm rf Qa=true› Qc.toNat
          try have Xg:=Q7 hr XE XK XN XC XY hm hx hy h1 q0
          try have XQ:=Qx (g:=Xj low high) (ps:=rf.Qb) h0 q0
          try have XP:=Qx (g:=QP Qd) (ps:=rf.Qb) h0 q0
          try have Xp:=Qq ((Qg hr).2 i h0 q0).1
          exact(GoE.endsT okF hJ Qi X7 (xt B rf Qa Qc place low high Qd i ms mn xs ys Qr)
           ⟨⟨⟨(Qv (fun x=>List.all_eq_true.1 (by first|rfl|(cases x <;> rfl)))),trivial⟩,(by have t_:=Q8 (ys) rf.miss rf.seasons (Qa) rf.Qb.length Qa.length (by first|with_reducible assumption|omega|simp_all) (by first|with_reducible assumption|omega|simp_all);rw[q5,q6]at t_;exact t_)⟩,hp17⟩).cast (by first|rfl|(exfalso;omega)|(exfalso;obtain⟨e1,e2,e3,e4,e5,e6,e7⟩:=Xg;simp_all;done)|(simp_all;done))
         |false=>
          try have Xy:=Qn (Qg ‹Ql rf=true›).1
          try have XF:=(Qo ‹Qm rf Qa=true›).1
          try have XG:=Qh (Qp ‹Ql rf=true›) ‹Qm rf Qa=true›
          try have XL:=Qh (Qp ‹Ql rf=true›) ‹Qm rf Qa=true› Qc.toNat
          try have Xg:=Q7 hr XE XK XN XC XY hm hx hy h1 q0
          try have XQ:=Qx (g:=Xj low high) (ps:=rf.Qb) h0 q0
          try have XP:=Qx (g:=QP Qd) (ps:=rf.Qb) h0 q0
          try have Xp:=Qq ((Qg hr).2 i h0 q0).1
          exact(GoE.endsT okF hJ Qi X7 (xq B rf Qa Qc place low high Qd i ms mn xs ys Qr)
           ⟨⟨⟨(Qv (fun x=>List.all_eq_true.1 (by first|rfl|(cases x <;> rfl)))),trivial⟩,(by have t_:=Q8 (ys) rf.miss rf.seasons (Qa) rf.Qb.length Qa.length (by first|with_reducible assumption|omega|simp_all) (by first|with_reducible assumption|omega|simp_all);rw[q5,q6]at t_;exact t_)⟩,hp17⟩).cast (by first|rfl|(exfalso;omega)|(exfalso;obtain⟨e1,e2,e3,e4,e5,e6,e7⟩:=Xg;simp_all;done)|(simp_all;done))
        |false=>
         try have Xy:=Qn (Qg ‹Ql rf=true›).1
         try have XF:=(Qo ‹Qm rf Qa=true›).1
         try have XG:=Qh (Qp ‹Ql rf=true›) ‹Qm rf Qa=true›
         try have XL:=Qh (Qp ‹Ql rf=true›) ‹Qm rf Qa=true› Qc.toNat
         try have Xg:=Q7 hr XE XK XN XC XY hm hx hy h1 q0
         try have XQ:=Qx (g:=Xj low high) (ps:=rf.Qb) h0 q0
         try have XP:=Qx (g:=QP Qd) (ps:=rf.Qb) h0 q0
         try have Xp:=Qq ((Qg hr).2 i h0 q0).1
         exact(GoE.endsT okF hJ Qi X7 (xp B rf Qa Qc place low high Qd i ms mn xs ys Qr)
          ⟨⟨⟨(Qv (fun x=>List.all_eq_true.1 (by first|rfl|(cases x <;> rfl)))),trivial⟩,(by have t_:=Q8 (ys) rf.miss rf.seasons (Qa) rf.Qb.length Qa.length (by first|with_reducible assumption|omega|simp_all) (by first|with_reducible assumption|omega|simp_all);rw[q5]at t_;exact t_)⟩,hp17⟩).cast (by first|rfl|(exfalso;omega)|(exfalso;obtain⟨e1,e2,e3,e4,e5,e6,e7⟩:=Xg;simp_all;done)|(simp_all;done))
     |false=>
      have hp18:Q3 (Ry B rf Qa Qc place low high Qd i ms mn xs ys Qr):=by
       try have Xy:=Qn (Qg ‹Ql rf=true›).1
       try have XF:=(Qo ‹Qm rf Qa=true›).1
       try have XG:=Qh (Qp ‹Ql rf=true›) ‹Qm rf Qa=true›
       try have XL:=Qh (Qp ‹Ql rf=true›) ‹Qm rf Qa=true› Qc.toNat
       try have Xg:=Q7 hr XE XK XN XC XY hm hx hy h1 q0
       try have XQ:=Qx (g:=Xj low high) (ps:=rf.Qb) h0 q0
       try have XP:=Qx (g:=QP Qd) (ps:=rf.Qb) h0 q0
       try have Xp:=Qq ((Qg hr).2 i h0 q0).1
       exact⟨⟨trivial,(by have t_:=eJ (rf) (Qa);rw[q1,q2]at t_;exact t_)⟩,UX⟩
      cases q3:Ql {Qb:=rf.Qb,miss:=rf.miss,seasons:=rf.seasons}with
      |true=>
       cases q4:Qm {Qb:=rf.Qb,miss:=rf.miss,seasons:=rf.seasons} ms with
       |true=>
        have hp19:Q3 (Rx B rf Qa Qc place low high Qd i ms mn xs ys Qr):=by
         try have Xy:=Qn (Qg ‹Ql rf=true›).1
         try have XF:=(Qo ‹Qm rf Qa=true›).1
         try have XG:=Qh (Qp ‹Ql rf=true›) ‹Qm rf Qa=true›
         try have XL:=Qh (Qp ‹Ql rf=true›) ‹Qm rf Qa=true› Qc.toNat
         try have Xg:=Q7 hr XE XK XN XC XY hm hx hy h1 q0
         try have XQ:=Qx (g:=Xj low high) (ps:=rf.Qb) h0 q0
         try have XP:=Qx (g:=QP Qd) (ps:=rf.Qb) h0 q0
         try have Xp:=Qq ((Qg hr).2 i h0 q0).1
         exact⟨⟨⟨(Qv (fun x=>List.all_eq_true.1 (by first|rfl|(cases x <;> rfl)))),trivial⟩,(by have t_:=Q8 rf.Qb rf.miss rf.seasons (ms) rf.Qb.length (mn) (by first|with_reducible assumption|omega|simp_all) (by first|with_reducible assumption|omega|simp_all);rw[q3,q4]at t_;exact t_)⟩,hp18⟩
        cases q5:Ql {Qb:=xs,miss:=rf.miss,seasons:=rf.seasons}with
        |true=>
         cases q6:Qm {Qb:=xs,miss:=rf.miss,seasons:=rf.seasons} Qa with
         |true=>
          have hp20:Q3 (Rw B rf Qa Qc place low high Qd i ms mn xs ys Qr):=by
           try have Xy:=Qn (Qg ‹Ql rf=true›).1
           try have XF:=(Qo ‹Qm rf Qa=true›).1
           try have XG:=Qh (Qp ‹Ql rf=true›) ‹Qm rf Qa=true›
           try have XL:=Qh (Qp ‹Ql rf=true›) ‹Qm rf Qa=true› Qc.toNat
           try have Xg:=Q7 hr XE XK XN XC XY hm hx hy h1 q0
           try have XQ:=Qx (g:=Xj low high) (ps:=rf.Qb) h0 q0
           try have XP:=Qx (g:=QP Qd) (ps:=rf.Qb) h0 q0
           try have Xp:=Qq ((Qg hr).2 i h0 q0).1
           exact⟨⟨⟨(Qv (fun x=>List.all_eq_true.1 (by first|rfl|(cases x <;> rfl)))),trivial⟩,(by have t_:=Q8 (xs) rf.miss rf.seasons (Qa) rf.Qb.length Qa.length (by first|with_reducible assumption|omega|simp_all) (by first|with_reducible assumption|omega|simp_all);rw[q5,q6]at t_;exact t_)⟩,hp19⟩
          cases q7:Ql {Qb:=ys,miss:=rf.miss,seasons:=rf.seasons}with
          |true=>
           cases q8:Qm {Qb:=ys,miss:=rf.miss,seasons:=rf.seasons} Qa with
           |true=>
            try have Xy:=Qn (Qg ‹Ql rf=true›).1
            try have XF:=(Qo ‹Qm rf Qa=true›).1
            try have XG:=Qh (Qp ‹Ql rf=true›) ‹Qm rf Qa=true›
            try have XL:=Qh (Qp ‹Ql rf=true›) ‹Qm rf Qa=true› Qc.toNat
            try have Xg:=Q7 hr XE XK XN XC XY hm hx hy h1 q0
            try have XQ:=Qx (g:=Xj low high) (ps:=rf.Qb) h0 q0
            try have XP:=Qx (g:=QP Qd) (ps:=rf.Qb) h0 q0
            try have Xp:=Qq ((Qg hr).2 i h0 q0).1
            exact(GoE.endsT okF hJ Qi X7 (xo B rf Qa Qc place low high Qd i ms mn xs ys Qr)
             ⟨⟨⟨(Qv (fun x=>List.all_eq_true.1 (by first|rfl|(cases x <;> rfl)))),trivial⟩,(by have t_:=Q8 (ys) rf.miss rf.seasons (Qa) rf.Qb.length Qa.length (by first|with_reducible assumption|omega|simp_all) (by first|with_reducible assumption|omega|simp_all);rw[q7,q8]at t_;exact t_)⟩,hp20⟩).cast (by first|rfl|(exfalso;omega)|(exfalso;obtain⟨e1,e2,e3,e4,e5,e6,e7⟩:=Xg;simp_all;done)|(simp_all;done))
           |false=>
            try have Xy:=Qn (Qg ‹Ql rf=true›).1
            try have XF:=(Qo ‹Qm rf Qa=true›).1
            try have XG:=Qh (Qp ‹Ql rf=true›) ‹Qm rf Qa=true›
            try have XL:=Qh (Qp ‹Ql rf=true›) ‹Qm rf Qa=true› Qc.toNat
            try have Xg:=Q7 hr XE XK XN XC XY hm hx hy h1 q0
            try have XQ:=Qx (g:=Xj low high) (ps:=rf.Qb) h0 q0
            try have XP:=Qx (g:=QP Qd) (ps:=rf.Qb) h0 q0
            try have Xp:=Qq ((Qg hr).2 i h0 q0).1
            exact(GoE.endsT okF hJ Qi X7 (xn B rf Qa Qc place low high Qd i ms mn xs ys Qr)
             ⟨⟨⟨(Qv (fun x=>List.all_eq_true.1 (by first|rfl|(cases x <;> rfl)))),trivial⟩,(by have t_:=Q8 (ys) rf.miss rf.seasons (Qa) rf.Qb.length Qa.length (by first|with_reducible assumption|omega|simp_all) (by first|with_reducible assumption|omega|simp_all);rw[q7,q8]at t_;exact t_)⟩,hp20⟩).cast (by first|rfl|(exfalso;omega)|(exfalso;obtain⟨e1,e2,e3,e4,e5,e6,e7⟩:=Xg;simp_all;done)|(simp_all;done))
          |false=>
           try have Xy:=Qn (Qg ‹Ql rf=true›).1
           try have XF:=(Qo ‹Qm rf Qa=true›).1
           try have XG:=Qh (Qp ‹Ql rf=true›) ‹Qm rf Qa=true›
           try have XL:=Qh (Qp ‹Ql rf=true›) ‹Qm rf Qa=true› Qc.toNat
           try have Xg:=Q7 hr XE XK XN XC XY hm hx hy h1 q0
           try have XQ:=Qx (g:=Xj low high) (ps:=rf.Qb) h0 q0
           try have XP:=Qx (g:=QP Qd) (ps:=rf.Qb) h0 q0
           try have Xp:=Qq ((Qg hr).2 i h0 q0).1
           exact(GoE.endsT okF hJ Qi X7 (xm B rf Qa Qc place low high Qd i ms mn xs ys Qr)
            ⟨⟨⟨(Qv (fun x=>List.all_eq_true.1 (by first|rfl|(cases x <;> rfl)))),trivial⟩,(by have t_:=Q8 (ys) rf.miss rf.seasons (Qa) rf.Qb.length Qa.length (by first|with_reducible assumption|omega|simp_all) (by first|with_reducible assumption|omega|simp_all);rw[q7]at t_;exact t_)⟩,hp20⟩).cast (by first|rfl|(exfalso;omega)|(exfalso;obtain⟨e1,e2,e3,e4,e5,e6,e7⟩:=Xg;simp_all;done)|(simp_all;done))
         |false=>
          have hp21:Q3 (Rv B rf Qa Qc place low high Qd i ms mn xs ys Qr):=by
           try have Xy:=Qn (Qg ‹Ql rf=true›).1
           try have XF:=(Qo ‹Qm rf Qa=true›).1
           try have XG:=Qh (Qp ‹Ql rf=true›) ‹Qm rf Qa=true›
           try have XL:=Qh (Qp ‹Ql rf=true›) ‹Qm rf Qa=true› Qc.toNat
           try have Xg:=Q7 hr XE XK XN XC XY hm hx hy h1 q0
           try have XQ:=Qx (g:=Xj low high) (ps:=rf.Qb) h0 q0
           try have XP:=Qx (g:=QP Qd) (ps:=rf.Qb) h0 q0
           try have Xp:=Qq ((Qg hr).2 i h0 q0).1
           exact⟨⟨⟨(Qv (fun x=>List.all_eq_true.1 (by first|rfl|(cases x <;> rfl)))),trivial⟩,(by have t_:=Q8 (xs) rf.miss rf.seasons (Qa) rf.Qb.length Qa.length (by first|with_reducible assumption|omega|simp_all) (by first|with_reducible assumption|omega|simp_all);rw[q5,q6]at t_;exact t_)⟩,hp19⟩
          cases q7:Ql {Qb:=ys,miss:=rf.miss,seasons:=rf.seasons}with
          |true=>
           cases q8:Qm {Qb:=ys,miss:=rf.miss,seasons:=rf.seasons} Qa with
           |true=>
            try have Xy:=Qn (Qg ‹Ql rf=true›).1
            try have XF:=(Qo ‹Qm rf Qa=true›).1
            try have XG:=Qh (Qp ‹Ql rf=true›) ‹Qm rf Qa=true›
            try have XL:=Qh (Qp ‹Ql rf=true›) ‹Qm rf Qa=true› Qc.toNat
            try have Xg:=Q7 hr XE XK XN XC XY hm hx hy h1 q0
            try have XQ:=Qx (g:=Xj low high) (ps:=rf.Qb) h0 q0
            try have XP:=Qx (g:=QP Qd) (ps:=rf.Qb) h0 q0
            try have Xp:=Qq ((Qg hr).2 i h0 q0).1
            exact(GoE.endsT okF hJ Qi X7 (xl B rf Qa Qc place low high Qd i ms mn xs ys Qr)
             ⟨⟨⟨(Qv (fun x=>List.all_eq_true.1 (by first|rfl|(cases x <;> rfl)))),trivial⟩,(by have t_:=Q8 (ys) rf.miss rf.seasons (Qa) rf.Qb.length Qa.length (by first|with_reducible assumption|omega|simp_all) (by first|with_reducible assumption|omega|simp_all);rw[q7,q8]at t_;exact t_)⟩,hp21⟩).cast (by first|rfl|(exfalso;omega)|(exfalso;obtain⟨e1,e2,e3,e4,e5,e6,e7⟩:=Xg;simp_all;done)|(simp_all;done))
           |false=>
            try have Xy:=Qn (Qg ‹Ql rf=true›).1
            try have XF:=(Qo ‹Qm rf Qa=true›).1
            try have XG:=Qh (Qp ‹Ql rf=true›) ‹Qm rf Qa=true›
            try have XL:=Qh (Qp ‹Ql rf=true›) ‹Qm rf Qa=true› Qc.toNat
            try have Xg:=Q7 hr XE XK XN XC XY hm hx hy h1 q0
            try have XQ:=Qx (g:=Xj low high) (ps:=rf.Qb) h0 q0
            try have XP:=Qx (g:=QP Qd) (ps:=rf.Qb) h0 q0
            try have Xp:=Qq ((Qg hr).2 i h0 q0).1
            exact(GoE.endsT okF hJ Qi X7 (xk B rf Qa Qc place low high Qd i ms mn xs ys Qr)
             ⟨⟨⟨(Qv (fun x=>List.all_eq_true.1 (by first|rfl|(cases x <;> rfl)))),trivial⟩,(by have t_:=Q8 (ys) rf.miss rf.seasons (Qa) rf.Qb.length Qa.length (by first|with_reducible assumption|omega|simp_all) (by first|with_reducible assumption|omega|simp_all);rw[q7,q8]at t_;exact t_)⟩,hp21⟩).cast (by first|rfl|(exfalso;omega)|(exfalso;obtain⟨e1,e2,e3,e4,e5,e6,e7⟩:=Xg;simp_all;done)|(simp_all;done))
          |false=>
           try have Xy:=Qn (Qg ‹Ql rf=true›).1
           try have XF:=(Qo ‹Qm rf Qa=true›).1
           try have XG:=Qh (Qp ‹Ql rf=true›) ‹Qm rf Qa=true›
           try have XL:=Qh (Qp ‹Ql rf=true›) ‹Qm rf Qa=true› Qc.toNat
           try have Xg:=Q7 hr XE XK XN XC XY hm hx hy h1 q0
           try have XQ:=Qx (g:=Xj low high) (ps:=rf.Qb) h0 q0
           try have XP:=Qx (g:=QP Qd) (ps:=rf.Qb) h0 q0
           try have Xp:=Qq ((Qg hr).2 i h0 q0).1
           exact(GoE.endsT okF hJ Qi X7 (xj B rf Qa Qc place low high Qd i ms mn xs ys Qr)
            ⟨⟨⟨(Qv (fun x=>List.all_eq_true.1 (by first|rfl|(cases x <;> rfl)))),trivial⟩,(by have t_:=Q8 (ys) rf.miss rf.seasons (Qa) rf.Qb.length Qa.length (by first|with_reducible assumption|omega|simp_all) (by first|with_reducible assumption|omega|simp_all);rw[q7]at t_;exact t_)⟩,hp21⟩).cast (by first|rfl|(exfalso;omega)|(exfalso;obtain⟨e1,e2,e3,e4,e5,e6,e7⟩:=Xg;simp_all;done)|(simp_all;done))
        |false=>
         have hp22:Q3 (Ru B rf Qa Qc place low high Qd i ms mn xs ys Qr):=by
          try have Xy:=Qn (Qg ‹Ql rf=true›).1
          try have XF:=(Qo ‹Qm rf Qa=true›).1
          try have XG:=Qh (Qp ‹Ql rf=true›) ‹Qm rf Qa=true›
          try have XL:=Qh (Qp ‹Ql rf=true›) ‹Qm rf Qa=true› Qc.toNat
          try have Xg:=Q7 hr XE XK XN XC XY hm hx hy h1 q0
          try have XQ:=Qx (g:=Xj low high) (ps:=rf.Qb) h0 q0
          try have XP:=Qx (g:=QP Qd) (ps:=rf.Qb) h0 q0
          try have Xp:=Qq ((Qg hr).2 i h0 q0).1
          exact⟨⟨⟨(Qv (fun x=>List.all_eq_true.1 (by first|rfl|(cases x <;> rfl)))),trivial⟩,(by have t_:=Q8 (xs) rf.miss rf.seasons (Qa) rf.Qb.length Qa.length (by first|with_reducible assumption|omega|simp_all) (by first|with_reducible assumption|omega|simp_all);rw[q5]at t_;exact t_)⟩,hp19⟩
         cases q6:Ql {Qb:=ys,miss:=rf.miss,seasons:=rf.seasons}with
         |true=>
          cases q7:Qm {Qb:=ys,miss:=rf.miss,seasons:=rf.seasons} Qa with
          |true=>
           try have Xy:=Qn (Qg ‹Ql rf=true›).1
           try have XF:=(Qo ‹Qm rf Qa=true›).1
           try have XG:=Qh (Qp ‹Ql rf=true›) ‹Qm rf Qa=true›
           try have XL:=Qh (Qp ‹Ql rf=true›) ‹Qm rf Qa=true› Qc.toNat
           try have Xg:=Q7 hr XE XK XN XC XY hm hx hy h1 q0
           try have XQ:=Qx (g:=Xj low high) (ps:=rf.Qb) h0 q0
           try have XP:=Qx (g:=QP Qd) (ps:=rf.Qb) h0 q0
           try have Xp:=Qq ((Qg hr).2 i h0 q0).1
           exact(GoE.endsT okF hJ Qi X7 (xi B rf Qa Qc place low high Qd i ms mn xs ys Qr)
            ⟨⟨⟨(Qv (fun x=>List.all_eq_true.1 (by first|rfl|(cases x <;> rfl)))),trivial⟩,(by have t_:=Q8 (ys) rf.miss rf.seasons (Qa) rf.Qb.length Qa.length (by first|with_reducible assumption|omega|simp_all) (by first|with_reducible assumption|omega|simp_all);rw[q6,q7]at t_;exact t_)⟩,hp22⟩).cast (by first|rfl|(exfalso;omega)|(exfalso;obtain⟨e1,e2,e3,e4,e5,e6,e7⟩:=Xg;simp_all;done)|(simp_all;done))
          |false=>
           try have Xy:=Qn (Qg ‹Ql rf=true›).1
           try have XF:=(Qo ‹Qm rf Qa=true›).1
           try have XG:=Qh (Qp ‹Ql rf=true›) ‹Qm rf Qa=true›
           try have XL:=Qh (Qp ‹Ql rf=true›) ‹Qm rf Qa=true› Qc.toNat
           try have Xg:=Q7 hr XE XK XN XC XY hm hx hy h1 q0
           try have XQ:=Qx (g:=Xj low high) (ps:=rf.Qb) h0 q0
           try have XP:=Qx (g:=QP Qd) (ps:=rf.Qb) h0 q0
           try have Xp:=Qq ((Qg hr).2 i h0 q0).1
           exact(GoE.endsT okF hJ Qi X7 (xh B rf Qa Qc place low high Qd i ms mn xs ys Qr)
            ⟨⟨⟨(Qv (fun x=>List.all_eq_true.1 (by first|rfl|(cases x <;> rfl)))),trivial⟩,(by have t_:=Q8 (ys) rf.miss rf.seasons (Qa) rf.Qb.length Qa.length (by first|with_reducible assumption|omega|simp_all) (by first|with_reducible assumption|omega|simp_all);rw[q6,q7]at t_;exact t_)⟩,hp22⟩).cast (by first|rfl|(exfalso;omega)|(exfalso;obtain⟨e1,e2,e3,e4,e5,e6,e7⟩:=Xg;simp_all;done)|(simp_all;done))
         |false=>
          try have Xy:=Qn (Qg ‹Ql rf=true›).1
          try have XF:=(Qo ‹Qm rf Qa=true›).1
          try have XG:=Qh (Qp ‹Ql rf=true›) ‹Qm rf Qa=true›
          try have XL:=Qh (Qp ‹Ql rf=true›) ‹Qm rf Qa=true› Qc.toNat
          try have Xg:=Q7 hr XE XK XN XC XY hm hx hy h1 q0
          try have XQ:=Qx (g:=Xj low high) (ps:=rf.Qb) h0 q0
          try have XP:=Qx (g:=QP Qd) (ps:=rf.Qb) h0 q0
          try have Xp:=Qq ((Qg hr).2 i h0 q0).1
          exact(GoE.endsT okF hJ Qi X7 (xg B rf Qa Qc place low high Qd i ms mn xs ys Qr)
           ⟨⟨⟨(Qv (fun x=>List.all_eq_true.1 (by first|rfl|(cases x <;> rfl)))),trivial⟩,(by have t_:=Q8 (ys) rf.miss rf.seasons (Qa) rf.Qb.length Qa.length (by first|with_reducible assumption|omega|simp_all) (by first|with_reducible assumption|omega|simp_all);rw[q6]at t_;exact t_)⟩,hp22⟩).cast (by first|rfl|(exfalso;omega)|(exfalso;obtain⟨e1,e2,e3,e4,e5,e6,e7⟩:=Xg;simp_all;done)|(simp_all;done))
       |false=>
        have hp23:Q3 (Rt B rf Qa Qc place low high Qd i ms mn xs ys Qr):=by
         try have Xy:=Qn (Qg ‹Ql rf=true›).1
         try have XF:=(Qo ‹Qm rf Qa=true›).1
         try have XG:=Qh (Qp ‹Ql rf=true›) ‹Qm rf Qa=true›
         try have XL:=Qh (Qp ‹Ql rf=true›) ‹Qm rf Qa=true› Qc.toNat
         try have Xg:=Q7 hr XE XK XN XC XY hm hx hy h1 q0
         try have XQ:=Qx (g:=Xj low high) (ps:=rf.Qb) h0 q0
         try have XP:=Qx (g:=QP Qd) (ps:=rf.Qb) h0 q0
         try have Xp:=Qq ((Qg hr).2 i h0 q0).1
         exact⟨⟨⟨(Qv (fun x=>List.all_eq_true.1 (by first|rfl|(cases x <;> rfl)))),trivial⟩,(by have t_:=Q8 rf.Qb rf.miss rf.seasons (ms) rf.Qb.length (mn) (by first|with_reducible assumption|omega|simp_all) (by first|with_reducible assumption|omega|simp_all);rw[q3,q4]at t_;exact t_)⟩,hp18⟩
        cases q5:Ql {Qb:=xs,miss:=rf.miss,seasons:=rf.seasons}with
        |true=>
         cases q6:Qm {Qb:=xs,miss:=rf.miss,seasons:=rf.seasons} Qa with
         |true=>
          have hp24:Q3 (Rq B rf Qa Qc place low high Qd i ms mn xs ys Qr):=by
           try have Xy:=Qn (Qg ‹Ql rf=true›).1
           try have XF:=(Qo ‹Qm rf Qa=true›).1
           try have XG:=Qh (Qp ‹Ql rf=true›) ‹Qm rf Qa=true›
           try have XL:=Qh (Qp ‹Ql rf=true›) ‹Qm rf Qa=true› Qc.toNat
           try have Xg:=Q7 hr XE XK XN XC XY hm hx hy h1 q0
           try have XQ:=Qx (g:=Xj low high) (ps:=rf.Qb) h0 q0
           try have XP:=Qx (g:=QP Qd) (ps:=rf.Qb) h0 q0
           try have Xp:=Qq ((Qg hr).2 i h0 q0).1
           exact⟨⟨⟨(Qv (fun x=>List.all_eq_true.1 (by first|rfl|(cases x <;> rfl)))),trivial⟩,(by have t_:=Q8 (xs) rf.miss rf.seasons (Qa) rf.Qb.length Qa.length (by first|with_reducible assumption|omega|simp_all) (by first|with_reducible assumption|omega|simp_all);rw[q5,q6]at t_;exact t_)⟩,hp23⟩
          cases q7:Ql {Qb:=ys,miss:=rf.miss,seasons:=rf.seasons}with
          |true=>
           cases q8:Qm {Qb:=ys,miss:=rf.miss,seasons:=rf.seasons} Qa with
           |true=>
            try have Xy:=Qn (Qg ‹Ql rf=true›).1
            try have XF:=(Qo ‹Qm rf Qa=true›).1
            try have XG:=Qh (Qp ‹Ql rf=true›) ‹Qm rf Qa=true›
            try have XL:=Qh (Qp ‹Ql rf=true›) ‹Qm rf Qa=true› Qc.toNat
            try have Xg:=Q7 hr XE XK XN XC XY hm hx hy h1 q0
            try have XQ:=Qx (g:=Xj low high) (ps:=rf.Qb) h0 q0
            try have XP:=Qx (g:=QP Qd) (ps:=rf.Qb) h0 q0
            try have Xp:=Qq ((Qg hr).2 i h0 q0).1
            exact(GoE.endsT okF hJ Qi X7 (xf B rf Qa Qc place low high Qd i ms mn xs ys Qr)
             ⟨⟨⟨(Qv (fun x=>List.all_eq_true.1 (by first|rfl|(cases x <;> rfl)))),trivial⟩,(by have t_:=Q8 (ys) rf.miss rf.seasons (Qa) rf.Qb.length Qa.length (by first|with_reducible assumption|omega|simp_all) (by first|with_reducible assumption|omega|simp_all);rw[q7,q8]at t_;exact t_)⟩,hp24⟩).cast (by first|rfl|(exfalso;omega)|(exfalso;obtain⟨e1,e2,e3,e4,e5,e6,e7⟩:=Xg;simp_all;done)|(simp_all;done))
           |false=>
            try have Xy:=Qn (Qg ‹Ql rf=true›).1
            try have XF:=(Qo ‹Qm rf Qa=true›).1
            try have XG:=Qh (Qp ‹Ql rf=true›) ‹Qm rf Qa=true›
            try have XL:=Qh (Qp ‹Ql rf=true›) ‹Qm rf Qa=true› Qc.toNat
            try have Xg:=Q7 hr XE XK XN XC XY hm hx hy h1 q0
            try have XQ:=Qx (g:=Xj low high) (ps:=rf.Qb) h0 q0
            try have XP:=Qx (g:=QP Qd) (ps:=rf.Qb) h0 q0
            try have Xp:=Qq ((Qg hr).2 i h0 q0).1
            exact(GoE.endsT okF hJ Qi X7 (xe B rf Qa Qc place low high Qd i ms mn xs ys Qr)
             ⟨⟨⟨(Qv (fun x=>List.all_eq_true.1 (by first|rfl|(cases x <;> rfl)))),trivial⟩,(by have t_:=Q8 (ys) rf.miss rf.seasons (Qa) rf.Qb.length Qa.length (by first|with_reducible assumption|omega|simp_all) (by first|with_reducible assumption|omega|simp_all);rw[q7,q8]at t_;exact t_)⟩,hp24⟩).cast (by first|rfl|(exfalso;omega)|(exfalso;obtain⟨e1,e2,e3,e4,e5,e6,e7⟩:=Xg;simp_all;done)|(simp_all;done))
          |false=>
           try have Xy:=Qn (Qg ‹Ql rf=true›).1
           try have XF:=(Qo ‹Qm rf Qa=true›).1
           try have XG:=Qh (Qp ‹Ql rf=true›) ‹Qm rf Qa=true›
           try have XL:=Qh (Qp ‹Ql rf=true›) ‹Qm rf Qa=true› Qc.toNat
           try have Xg:=Q7 hr XE XK XN XC XY hm hx hy h1 q0
           try have XQ:=Qx (g:=Xj low high) (ps:=rf.Qb) h0 q0
           try have XP:=Qx (g:=QP Qd) (ps:=rf.Qb) h0 q0
           try have Xp:=Qq ((Qg hr).2 i h0 q0).1
           exact(GoE.endsT okF hJ Qi X7 (xd B rf Qa Qc place low high Qd i ms mn xs ys Qr)
            ⟨⟨⟨(Qv (fun x=>List.all_eq_true.1 (by first|rfl|(cases x <;> rfl)))),trivial⟩,(by have t_:=Q8 (ys) rf.miss rf.seasons (Qa) rf.Qb.length Qa.length (by first|with_reducible assumption|omega|simp_all) (by first|with_reducible assumption|omega|simp_all);rw[q7]at t_;exact t_)⟩,hp24⟩).cast (by first|rfl|(exfalso;omega)|(exfalso;obtain⟨e1,e2,e3,e4,e5,e6,e7⟩:=Xg;simp_all;done)|(simp_all;done))
         |false=>
          have hp25:Q3 (Rp B rf Qa Qc place low high Qd i ms mn xs ys Qr):=by
           try have Xy:=Qn (Qg ‹Ql rf=true›).1
           try have XF:=(Qo ‹Qm rf Qa=true›).1
           try have XG:=Qh (Qp ‹Ql rf=true›) ‹Qm rf Qa=true›
           try have XL:=Qh (Qp ‹Ql rf=true›) ‹Qm rf Qa=true› Qc.toNat
           try have Xg:=Q7 hr XE XK XN XC XY hm hx hy h1 q0
           try have XQ:=Qx (g:=Xj low high) (ps:=rf.Qb) h0 q0
           try have XP:=Qx (g:=QP Qd) (ps:=rf.Qb) h0 q0
           try have Xp:=Qq ((Qg hr).2 i h0 q0).1
           exact⟨⟨⟨(Qv (fun x=>List.all_eq_true.1 (by first|rfl|(cases x <;> rfl)))),trivial⟩,(by have t_:=Q8 (xs) rf.miss rf.seasons (Qa) rf.Qb.length Qa.length (by first|with_reducible assumption|omega|simp_all) (by first|with_reducible assumption|omega|simp_all);rw[q5,q6]at t_;exact t_)⟩,hp23⟩
          cases q7:Ql {Qb:=ys,miss:=rf.miss,seasons:=rf.seasons}with
          |true=>
           cases q8:Qm {Qb:=ys,miss:=rf.miss,seasons:=rf.seasons} Qa with
           |true=>
            try have Xy:=Qn (Qg ‹Ql rf=true›).1
            try have XF:=(Qo ‹Qm rf Qa=true›).1
            try have XG:=Qh (Qp ‹Ql rf=true›) ‹Qm rf Qa=true›
            try have XL:=Qh (Qp ‹Ql rf=true›) ‹Qm rf Qa=true› Qc.toNat
            try have Xg:=Q7 hr XE XK XN XC XY hm hx hy h1 q0
            try have XQ:=Qx (g:=Xj low high) (ps:=rf.Qb) h0 q0
            try have XP:=Qx (g:=QP Qd) (ps:=rf.Qb) h0 q0
            try have Xp:=Qq ((Qg hr).2 i h0 q0).1
            exact(GoE.endsT okF hJ Qi X7 (xc B rf Qa Qc place low high Qd i ms mn xs ys Qr)
             ⟨⟨⟨(Qv (fun x=>List.all_eq_true.1 (by first|rfl|(cases x <;> rfl)))),trivial⟩,(by have t_:=Q8 (ys) rf.miss rf.seasons (Qa) rf.Qb.length Qa.length (by first|with_reducible assumption|omega|simp_all) (by first|with_reducible assumption|omega|simp_all);rw[q7,q8]at t_;exact t_)⟩,hp25⟩).cast (by first|rfl|(exfalso;omega)|(exfalso;obtain⟨e1,e2,e3,e4,e5,e6,e7⟩:=Xg;simp_all;done)|(simp_all;done))
           |false=>
            try have Xy:=Qn (Qg ‹Ql rf=true›).1
            try have XF:=(Qo ‹Qm rf Qa=true›).1
            try have XG:=Qh (Qp ‹Ql rf=true›) ‹Qm rf Qa=true›
            try have XL:=Qh (Qp ‹Ql rf=true›) ‹Qm rf Qa=true› Qc.toNat
            try have Xg:=Q7 hr XE XK XN XC XY hm hx hy h1 q0
            try have XQ:=Qx (g:=Xj low high) (ps:=rf.Qb) h0 q0
            try have XP:=Qx (g:=QP Qd) (ps:=rf.Qb) h0 q0
            try have Xp:=Qq ((Qg hr).2 i h0 q0).1
            exact(GoE.endsT okF hJ Qi X7 (xb B rf Qa Qc place low high Qd i ms mn xs ys Qr)
             ⟨⟨⟨(Qv (fun x=>List.all_eq_true.1 (by first|rfl|(cases x <;> rfl)))),trivial⟩,(by have t_:=Q8 (ys) rf.miss rf.seasons (Qa) rf.Qb.length Qa.length (by first|with_reducible assumption|omega|simp_all) (by first|with_reducible assumption|omega|simp_all);rw[q7,q8]at t_;exact t_)⟩,hp25⟩).cast (by first|rfl|(exfalso;omega)|(exfalso;obtain⟨e1,e2,e3,e4,e5,e6,e7⟩:=Xg;simp_all;done)|(simp_all;done))
          |false=>
           try have Xy:=Qn (Qg ‹Ql rf=true›).1
           try have XF:=(Qo ‹Qm rf Qa=true›).1
           try have XG:=Qh (Qp ‹Ql rf=true›) ‹Qm rf Qa=true›
           try have XL:=Qh (Qp ‹Ql rf=true›) ‹Qm rf Qa=true› Qc.toNat
           try have Xg:=Q7 hr XE XK XN XC XY hm hx hy h1 q0
           try have XQ:=Qx (g:=Xj low high) (ps:=rf.Qb) h0 q0
           try have XP:=Qx (g:=QP Qd) (ps:=rf.Qb) h0 q0
           try have Xp:=Qq ((Qg hr).2 i h0 q0).1
           exact(GoE.endsT okF hJ Qi X7 (xa B rf Qa Qc place low high Qd i ms mn xs ys Qr)
            ⟨⟨⟨(Qv (fun x=>List.all_eq_true.1 (by first|rfl|(cases x <;> rfl)))),trivial⟩,(by have t_:=Q8 (ys) rf.miss rf.seasons (Qa) rf.Qb.length Qa.length (by first|with_reducible assumption|omega|simp_all) (by first|with_reducible assumption|omega|simp_all);rw[q7]at t_;exact t_)⟩,hp25⟩).cast (by first|rfl|(exfalso;omega)|(exfalso;obtain⟨e1,e2,e3,e4,e5,e6,e7⟩:=Xg;simp_all;done)|(simp_all;done))
        |false=>
         have hp26:Q3 (Ro B rf Qa Qc place low high Qd i ms mn xs ys Qr):=by
          try have Xy:=Qn (Qg ‹Ql rf=true›).1
          try have XF:=(Qo ‹Qm rf Qa=true›).1
          try have XG:=Qh (Qp ‹Ql rf=true›) ‹Qm rf Qa=true›
          try have XL:=Qh (Qp ‹Ql rf=true›) ‹Qm rf Qa=true› Qc.toNat
          try have Xg:=Q7 hr XE XK XN XC XY hm hx hy h1 q0
          try have XQ:=Qx (g:=Xj low high) (ps:=rf.Qb) h0 q0
          try have XP:=Qx (g:=QP Qd) (ps:=rf.Qb) h0 q0
          try have Xp:=Qq ((Qg hr).2 i h0 q0).1
          exact⟨⟨⟨(Qv (fun x=>List.all_eq_true.1 (by first|rfl|(cases x <;> rfl)))),trivial⟩,(by have t_:=Q8 (xs) rf.miss rf.seasons (Qa) rf.Qb.length Qa.length (by first|with_reducible assumption|omega|simp_all) (by first|with_reducible assumption|omega|simp_all);rw[q5]at t_;exact t_)⟩,hp23⟩
         cases q6:Ql {Qb:=ys,miss:=rf.miss,seasons:=rf.seasons}with
         |true=>
          cases q7:Qm {Qb:=ys,miss:=rf.miss,seasons:=rf.seasons} Qa with
          |true=>
           try have Xy:=Qn (Qg ‹Ql rf=true›).1
           try have XF:=(Qo ‹Qm rf Qa=true›).1
           try have XG:=Qh (Qp ‹Ql rf=true›) ‹Qm rf Qa=true›
           try have XL:=Qh (Qp ‹Ql rf=true›) ‹Qm rf Qa=true› Qc.toNat
           try have Xg:=Q7 hr XE XK XN XC XY hm hx hy h1 q0
           try have XQ:=Qx (g:=Xj low high) (ps:=rf.Qb) h0 q0
           try have XP:=Qx (g:=QP Qd) (ps:=rf.Qb) h0 q0
           try have Xp:=Qq ((Qg hr).2 i h0 q0).1
           exact(GoE.endsT okF hJ Qi X7 (wZ B rf Qa Qc place low high Qd i ms mn xs ys Qr)
            ⟨⟨⟨(Qv (fun x=>List.all_eq_true.1 (by first|rfl|(cases x <;> rfl)))),trivial⟩,(by have t_:=Q8 (ys) rf.miss rf.seasons (Qa) rf.Qb.length Qa.length (by first|with_reducible assumption|omega|simp_all) (by first|with_reducible assumption|omega|simp_all);rw[q6,q7]at t_;exact t_)⟩,hp26⟩).cast (by first|rfl|(exfalso;omega)|(exfalso;obtain⟨e1,e2,e3,e4,e5,e6,e7⟩:=Xg;simp_all;done)|(simp_all;done))
          |false=>
           try have Xy:=Qn (Qg ‹Ql rf=true›).1
           try have XF:=(Qo ‹Qm rf Qa=true›).1
           try have XG:=Qh (Qp ‹Ql rf=true›) ‹Qm rf Qa=true›
           try have XL:=Qh (Qp ‹Ql rf=true›) ‹Qm rf Qa=true› Qc.toNat
           try have Xg:=Q7 hr XE XK XN XC XY hm hx hy h1 q0
           try have XQ:=Qx (g:=Xj low high) (ps:=rf.Qb) h0 q0
           try have XP:=Qx (g:=QP Qd) (ps:=rf.Qb) h0 q0
           try have Xp:=Qq ((Qg hr).2 i h0 q0).1
           exact(GoE.endsT okF hJ Qi X7 (wY B rf Qa Qc place low high Qd i ms mn xs ys Qr)
            ⟨⟨⟨(Qv (fun x=>List.all_eq_true.1 (by first|rfl|(cases x <;> rfl)))),trivial⟩,(by have t_:=Q8 (ys) rf.miss rf.seasons (Qa) rf.Qb.length Qa.length (by first|with_reducible assumption|omega|simp_all) (by first|with_reducible assumption|omega|simp_all);rw[q6,q7]at t_;exact t_)⟩,hp26⟩).cast (by first|rfl|(exfalso;omega)|(exfalso;obtain⟨e1,e2,e3,e4,e5,e6,e7⟩:=Xg;simp_all;done)|(simp_all;done))
         |false=>
          try have Xy:=Qn (Qg ‹Ql rf=true›).1
          try have XF:=(Qo ‹Qm rf Qa=true›).1
          try have XG:=Qh (Qp ‹Ql rf=true›) ‹Qm rf Qa=true›
          try have XL:=Qh (Qp ‹Ql rf=true›) ‹Qm rf Qa=true› Qc.toNat
          try have Xg:=Q7 hr XE XK XN XC XY hm hx hy h1 q0
          try have XQ:=Qx (g:=Xj low high) (ps:=rf.Qb) h0 q0
          try have XP:=Qx (g:=QP Qd) (ps:=rf.Qb) h0 q0
          try have Xp:=Qq ((Qg hr).2 i h0 q0).1
          exact(GoE.endsT okF hJ Qi X7 (wX B rf Qa Qc place low high Qd i ms mn xs ys Qr)
           ⟨⟨⟨(Qv (fun x=>List.all_eq_true.1 (by first|rfl|(cases x <;> rfl)))),trivial⟩,(by have t_:=Q8 (ys) rf.miss rf.seasons (Qa) rf.Qb.length Qa.length (by first|with_reducible assumption|omega|simp_all) (by first|with_reducible assumption|omega|simp_all);rw[q6]at t_;exact t_)⟩,hp26⟩).cast (by first|rfl|(exfalso;omega)|(exfalso;obtain⟨e1,e2,e3,e4,e5,e6,e7⟩:=Xg;simp_all;done)|(simp_all;done))
      |false=>
       have hp27:Q3 (Rn B rf Qa Qc place low high Qd i ms mn xs ys Qr):=by
        try have Xy:=Qn (Qg ‹Ql rf=true›).1
        try have XF:=(Qo ‹Qm rf Qa=true›).1
        try have XG:=Qh (Qp ‹Ql rf=true›) ‹Qm rf Qa=true›
        try have XL:=Qh (Qp ‹Ql rf=true›) ‹Qm rf Qa=true› Qc.toNat
        try have Xg:=Q7 hr XE XK XN XC XY hm hx hy h1 q0
        try have XQ:=Qx (g:=Xj low high) (ps:=rf.Qb) h0 q0
        try have XP:=Qx (g:=QP Qd) (ps:=rf.Qb) h0 q0
        try have Xp:=Qq ((Qg hr).2 i h0 q0).1
        exact⟨⟨⟨(Qv (fun x=>List.all_eq_true.1 (by first|rfl|(cases x <;> rfl)))),trivial⟩,(by have t_:=Q8 rf.Qb rf.miss rf.seasons (ms) rf.Qb.length (mn) (by first|with_reducible assumption|omega|simp_all) (by first|with_reducible assumption|omega|simp_all);rw[q3]at t_;exact t_)⟩,hp18⟩
       cases q4:Ql {Qb:=xs,miss:=rf.miss,seasons:=rf.seasons}with
       |true=>
        cases q5:Qm {Qb:=xs,miss:=rf.miss,seasons:=rf.seasons} Qa with
        |true=>
         have hp28:Q3 (Rm B rf Qa Qc place low high Qd i ms mn xs ys Qr):=by
          try have Xy:=Qn (Qg ‹Ql rf=true›).1
          try have XF:=(Qo ‹Qm rf Qa=true›).1
          try have XG:=Qh (Qp ‹Ql rf=true›) ‹Qm rf Qa=true›
          try have XL:=Qh (Qp ‹Ql rf=true›) ‹Qm rf Qa=true› Qc.toNat
          try have Xg:=Q7 hr XE XK XN XC XY hm hx hy h1 q0
          try have XQ:=Qx (g:=Xj low high) (ps:=rf.Qb) h0 q0
          try have XP:=Qx (g:=QP Qd) (ps:=rf.Qb) h0 q0
          try have Xp:=Qq ((Qg hr).2 i h0 q0).1
          exact⟨⟨⟨(Qv (fun x=>List.all_eq_true.1 (by first|rfl|(cases x <;> rfl)))),trivial⟩,(by have t_:=Q8 (xs) rf.miss rf.seasons (Qa) rf.Qb.length Qa.length (by first|with_reducible assumption|omega|simp_all) (by first|with_reducible assumption|omega|simp_all);rw[q4,q5]at t_;exact t_)⟩,hp27⟩
         cases q6:Ql {Qb:=ys,miss:=rf.miss,seasons:=rf.seasons}with
         |true=>
          cases q7:Qm {Qb:=ys,miss:=rf.miss,seasons:=rf.seasons} Qa with
          |true=>
           try have Xy:=Qn (Qg ‹Ql rf=true›).1
           try have XF:=(Qo ‹Qm rf Qa=true›).1
           try have XG:=Qh (Qp ‹Ql rf=true›) ‹Qm rf Qa=true›
           try have XL:=Qh (Qp ‹Ql rf=true›) ‹Qm rf Qa=true› Qc.toNat
           try have Xg:=Q7 hr XE XK XN XC XY hm hx hy h1 q0
           try have XQ:=Qx (g:=Xj low high) (ps:=rf.Qb) h0 q0
           try have XP:=Qx (g:=QP Qd) (ps:=rf.Qb) h0 q0
           try have Xp:=Qq ((Qg hr).2 i h0 q0).1
           exact(GoE.endsT okF hJ Qi X7 (wW B rf Qa Qc place low high Qd i ms mn xs ys Qr)
            ⟨⟨⟨(Qv (fun x=>List.all_eq_true.1 (by first|rfl|(cases x <;> rfl)))),trivial⟩,(by have t_:=Q8 (ys) rf.miss rf.seasons (Qa) rf.Qb.length Qa.length (by first|with_reducible assumption|omega|simp_all) (by first|with_reducible assumption|omega|simp_all);rw[q6,q7]at t_;exact t_)⟩,hp28⟩).cast (by first|rfl|(exfalso;omega)|(exfalso;obtain⟨e1,e2,e3,e4,e5,e6,e7⟩:=Xg;simp_all;done)|(simp_all;done))
          |false=>
           try have Xy:=Qn (Qg ‹Ql rf=true›).1
           try have XF:=(Qo ‹Qm rf Qa=true›).1
           try have XG:=Qh (Qp ‹Ql rf=true›) ‹Qm rf Qa=true›
           try have XL:=Qh (Qp ‹Ql rf=true›) ‹Qm rf Qa=true› Qc.toNat
           try have Xg:=Q7 hr XE XK XN XC XY hm hx hy h1 q0
           try have XQ:=Qx (g:=Xj low high) (ps:=rf.Qb) h0 q0
           try have XP:=Qx (g:=QP Qd) (ps:=rf.Qb) h0 q0
           try have Xp:=Qq ((Qg hr).2 i h0 q0).1
           exact(GoE.endsT okF hJ Qi X7 (wV B rf Qa Qc place low high Qd i ms mn xs ys Qr)
            ⟨⟨⟨(Qv (fun x=>List.all_eq_true.1 (by first|rfl|(cases x <;> rfl)))),trivial⟩,(by have t_:=Q8 (ys) rf.miss rf.seasons (Qa) rf.Qb.length Qa.length (by first|with_reducible assumption|omega|simp_all) (by first|with_reducible assumption|omega|simp_all);rw[q6,q7]at t_;exact t_)⟩,hp28⟩).cast (by first|rfl|(exfalso;omega)|(exfalso;obtain⟨e1,e2,e3,e4,e5,e6,e7⟩:=Xg;simp_all;done)|(simp_all;done))
         |false=>
          try have Xy:=Qn (Qg ‹Ql rf=true›).1
          try have XF:=(Qo ‹Qm rf Qa=true›).1
          try have XG:=Qh (Qp ‹Ql rf=true›) ‹Qm rf Qa=true›
          try have XL:=Qh (Qp ‹Ql rf=true›) ‹Qm rf Qa=true› Qc.toNat
          try have Xg:=Q7 hr XE XK XN XC XY hm hx hy h1 q0
          try have XQ:=Qx (g:=Xj low high) (ps:=rf.Qb) h0 q0
          try have XP:=Qx (g:=QP Qd) (ps:=rf.Qb) h0 q0
          try have Xp:=Qq ((Qg hr).2 i h0 q0).1
          exact(GoE.endsT okF hJ Qi X7 (wU B rf Qa Qc place low high Qd i ms mn xs ys Qr)
           ⟨⟨⟨(Qv (fun x=>List.all_eq_true.1 (by first|rfl|(cases x <;> rfl)))),trivial⟩,(by have t_:=Q8 (ys) rf.miss rf.seasons (Qa) rf.Qb.length Qa.length (by first|with_reducible assumption|omega|simp_all) (by first|with_reducible assumption|omega|simp_all);rw[q6]at t_;exact t_)⟩,hp28⟩).cast (by first|rfl|(exfalso;omega)|(exfalso;obtain⟨e1,e2,e3,e4,e5,e6,e7⟩:=Xg;simp_all;done)|(simp_all;done))
        |false=>
         have hp29:Q3 (Rl B rf Qa Qc place low high Qd i ms mn xs ys Qr):=by
          try have Xy:=Qn (Qg ‹Ql rf=true›).1
          try have XF:=(Qo ‹Qm rf Qa=true›).1
          try have XG:=Qh (Qp ‹Ql rf=true›) ‹Qm rf Qa=true›
          try have XL:=Qh (Qp ‹Ql rf=true›) ‹Qm rf Qa=true› Qc.toNat
          try have Xg:=Q7 hr XE XK XN XC XY hm hx hy h1 q0
          try have XQ:=Qx (g:=Xj low high) (ps:=rf.Qb) h0 q0
          try have XP:=Qx (g:=QP Qd) (ps:=rf.Qb) h0 q0
          try have Xp:=Qq ((Qg hr).2 i h0 q0).1
          exact⟨⟨⟨(Qv (fun x=>List.all_eq_true.1 (by first|rfl|(cases x <;> rfl)))),trivial⟩,(by have t_:=Q8 (xs) rf.miss rf.seasons (Qa) rf.Qb.length Qa.length (by first|with_reducible assumption|omega|simp_all) (by first|with_reducible assumption|omega|simp_all);rw[q4,q5]at t_;exact t_)⟩,hp27⟩
         cases q6:Ql {Qb:=ys,miss:=rf.miss,seasons:=rf.seasons}with
         |true=>
          cases q7:Qm {Qb:=ys,miss:=rf.miss,seasons:=rf.seasons} Qa with
          |true=>
           try have Xy:=Qn (Qg ‹Ql rf=true›).1
           try have XF:=(Qo ‹Qm rf Qa=true›).1
           try have XG:=Qh (Qp ‹Ql rf=true›) ‹Qm rf Qa=true›
           try have XL:=Qh (Qp ‹Ql rf=true›) ‹Qm rf Qa=true› Qc.toNat
           try have Xg:=Q7 hr XE XK XN XC XY hm hx hy h1 q0
           try have XQ:=Qx (g:=Xj low high) (ps:=rf.Qb) h0 q0
           try have XP:=Qx (g:=QP Qd) (ps:=rf.Qb) h0 q0
           try have Xp:=Qq ((Qg hr).2 i h0 q0).1
           exact(GoE.endsT okF hJ Qi X7 (wT B rf Qa Qc place low high Qd i ms mn xs ys Qr)
            ⟨⟨⟨(Qv (fun x=>List.all_eq_true.1 (by first|rfl|(cases x <;> rfl)))),trivial⟩,(by have t_:=Q8 (ys) rf.miss rf.seasons (Qa) rf.Qb.length Qa.length (by first|with_reducible assumption|omega|simp_all) (by first|with_reducible assumption|omega|simp_all);rw[q6,q7]at t_;exact t_)⟩,hp29⟩).cast (by first|rfl|(exfalso;omega)|(exfalso;obtain⟨e1,e2,e3,e4,e5,e6,e7⟩:=Xg;simp_all;done)|(simp_all;done))
          |false=>
           try have Xy:=Qn (Qg ‹Ql rf=true›).1
           try have XF:=(Qo ‹Qm rf Qa=true›).1
           try have XG:=Qh (Qp ‹Ql rf=true›) ‹Qm rf Qa=true›
           try have XL:=Qh (Qp ‹Ql rf=true›) ‹Qm rf Qa=true› Qc.toNat
           try have Xg:=Q7 hr XE XK XN XC XY hm hx hy h1 q0
           try have XQ:=Qx (g:=Xj low high) (ps:=rf.Qb) h0 q0
           try have XP:=Qx (g:=QP Qd) (ps:=rf.Qb) h0 q0
           try have Xp:=Qq ((Qg hr).2 i h0 q0).1
           exact(GoE.endsT okF hJ Qi X7 (wS B rf Qa Qc place low high Qd i ms mn xs ys Qr)
            ⟨⟨⟨(Qv (fun x=>List.all_eq_true.1 (by first|rfl|(cases x <;> rfl)))),trivial⟩,(by have t_:=Q8 (ys) rf.miss rf.seasons (Qa) rf.Qb.length Qa.length (by first|with_reducible assumption|omega|simp_all) (by first|with_reducible assumption|omega|simp_all);rw[q6,q7]at t_;exact t_)⟩,hp29⟩).cast (by first|rfl|(exfalso;omega)|(exfalso;obtain⟨e1,e2,e3,e4,e5,e6,e7⟩:=Xg;simp_all;done)|(simp_all;done))
         |false=>
          try have Xy:=Qn (Qg ‹Ql rf=true›).1
          try have XF:=(Qo ‹Qm rf Qa=true›).1
          try have XG:=Qh (Qp ‹Ql rf=true›) ‹Qm rf Qa=true›
          try have XL:=Qh (Qp ‹Ql rf=true›) ‹Qm rf Qa=true› Qc.toNat
          try have Xg:=Q7 hr XE XK XN XC XY hm hx hy h1 q0
          try have XQ:=Qx (g:=Xj low high) (ps:=rf.Qb) h0 q0
          try have XP:=Qx (g:=QP Qd) (ps:=rf.Qb) h0 q0
          try have Xp:=Qq ((Qg hr).2 i h0 q0).1
          exact(GoE.endsT okF hJ Qi X7 (wR B rf Qa Qc place low high Qd i ms mn xs ys Qr)
           ⟨⟨⟨(Qv (fun x=>List.all_eq_true.1 (by first|rfl|(cases x <;> rfl)))),trivial⟩,(by have t_:=Q8 (ys) rf.miss rf.seasons (Qa) rf.Qb.length Qa.length (by first|with_reducible assumption|omega|simp_all) (by first|with_reducible assumption|omega|simp_all);rw[q6]at t_;exact t_)⟩,hp29⟩).cast (by first|rfl|(exfalso;omega)|(exfalso;obtain⟨e1,e2,e3,e4,e5,e6,e7⟩:=Xg;simp_all;done)|(simp_all;done))
       |false=>
        have hp30:Q3 (Rk B rf Qa Qc place low high Qd i ms mn xs ys Qr):=by
         try have Xy:=Qn (Qg ‹Ql rf=true›).1
         try have XF:=(Qo ‹Qm rf Qa=true›).1
         try have XG:=Qh (Qp ‹Ql rf=true›) ‹Qm rf Qa=true›
         try have XL:=Qh (Qp ‹Ql rf=true›) ‹Qm rf Qa=true› Qc.toNat
         try have Xg:=Q7 hr XE XK XN XC XY hm hx hy h1 q0
         try have XQ:=Qx (g:=Xj low high) (ps:=rf.Qb) h0 q0
         try have XP:=Qx (g:=QP Qd) (ps:=rf.Qb) h0 q0
         try have Xp:=Qq ((Qg hr).2 i h0 q0).1
         exact⟨⟨⟨(Qv (fun x=>List.all_eq_true.1 (by first|rfl|(cases x <;> rfl)))),trivial⟩,(by have t_:=Q8 (xs) rf.miss rf.seasons (Qa) rf.Qb.length Qa.length (by first|with_reducible assumption|omega|simp_all) (by first|with_reducible assumption|omega|simp_all);rw[q4]at t_;exact t_)⟩,hp27⟩
        cases q5:Ql {Qb:=ys,miss:=rf.miss,seasons:=rf.seasons}with
        |true=>
         cases q6:Qm {Qb:=ys,miss:=rf.miss,seasons:=rf.seasons} Qa with
         |true=>
          try have Xy:=Qn (Qg ‹Ql rf=true›).1
          try have XF:=(Qo ‹Qm rf Qa=true›).1
          try have XG:=Qh (Qp ‹Ql rf=true›) ‹Qm rf Qa=true›
          try have XL:=Qh (Qp ‹Ql rf=true›) ‹Qm rf Qa=true› Qc.toNat
          try have Xg:=Q7 hr XE XK XN XC XY hm hx hy h1 q0
          try have XQ:=Qx (g:=Xj low high) (ps:=rf.Qb) h0 q0
          try have XP:=Qx (g:=QP Qd) (ps:=rf.Qb) h0 q0
          try have Xp:=Qq ((Qg hr).2 i h0 q0).1
          exact(GoE.endsT okF hJ Qi X7 (wQ B rf Qa Qc place low high Qd i ms mn xs ys Qr)
           ⟨⟨⟨(Qv (fun x=>List.all_eq_true.1 (by first|rfl|(cases x <;> rfl)))),trivial⟩,(by have t_:=Q8 (ys) rf.miss rf.seasons (Qa) rf.Qb.length Qa.length (by first|with_reducible assumption|omega|simp_all) (by first|with_reducible assumption|omega|simp_all);rw[q5,q6]at t_;exact t_)⟩,hp30⟩).cast (by first|rfl|(exfalso;omega)|(exfalso;obtain⟨e1,e2,e3,e4,e5,e6,e7⟩:=Xg;simp_all;done)|(simp_all;done))
         |false=>
          try have Xy:=Qn (Qg ‹Ql rf=true›).1
          try have XF:=(Qo ‹Qm rf Qa=true›).1
          try have XG:=Qh (Qp ‹Ql rf=true›) ‹Qm rf Qa=true›
          try have XL:=Qh (Qp ‹Ql rf=true›) ‹Qm rf Qa=true› Qc.toNat
          try have Xg:=Q7 hr XE XK XN XC XY hm hx hy h1 q0
          try have XQ:=Qx (g:=Xj low high) (ps:=rf.Qb) h0 q0
          try have XP:=Qx (g:=QP Qd) (ps:=rf.Qb) h0 q0
          try have Xp:=Qq ((Qg hr).2 i h0 q0).1
          exact(GoE.endsT okF hJ Qi X7 (wP B rf Qa Qc place low high Qd i ms mn xs ys Qr)
           ⟨⟨⟨(Qv (fun x=>List.all_eq_true.1 (by first|rfl|(cases x <;> rfl)))),trivial⟩,(by have t_:=Q8 (ys) rf.miss rf.seasons (Qa) rf.Qb.length Qa.length (by first|with_reducible assumption|omega|simp_all) (by first|with_reducible assumption|omega|simp_all);rw[q5,q6]at t_;exact t_)⟩,hp30⟩).cast (by first|rfl|(exfalso;omega)|(exfalso;obtain⟨e1,e2,e3,e4,e5,e6,e7⟩:=Xg;simp_all;done)|(simp_all;done))
        |false=>
         try have Xy:=Qn (Qg ‹Ql rf=true›).1
         try have XF:=(Qo ‹Qm rf Qa=true›).1
         try have XG:=Qh (Qp ‹Ql rf=true›) ‹Qm rf Qa=true›
         try have XL:=Qh (Qp ‹Ql rf=true›) ‹Qm rf Qa=true› Qc.toNat
         try have Xg:=Q7 hr XE XK XN XC XY hm hx hy h1 q0
         try have XQ:=Qx (g:=Xj low high) (ps:=rf.Qb) h0 q0
         try have XP:=Qx (g:=QP Qd) (ps:=rf.Qb) h0 q0
         try have Xp:=Qq ((Qg hr).2 i h0 q0).1
         exact(GoE.endsT okF hJ Qi X7 (wO B rf Qa Qc place low high Qd i ms mn xs ys Qr)
          ⟨⟨⟨(Qv (fun x=>List.all_eq_true.1 (by first|rfl|(cases x <;> rfl)))),trivial⟩,(by have t_:=Q8 (ys) rf.miss rf.seasons (Qa) rf.Qb.length Qa.length (by first|with_reducible assumption|omega|simp_all) (by first|with_reducible assumption|omega|simp_all);rw[q5]at t_;exact t_)⟩,hp30⟩).cast (by first|rfl|(exfalso;omega)|(exfalso;obtain⟨e1,e2,e3,e4,e5,e6,e7⟩:=Xg;simp_all;done)|(simp_all;done))
    |false=>
     have hp31:Q3 (Rj B rf Qa Qc place low high Qd i ms mn xs ys Qr):=by
      try have Xy:=Qn (Qg ‹Ql rf=true›).1
      try have XF:=(Qo ‹Qm rf Qa=true›).1
      try have XG:=Qh (Qp ‹Ql rf=true›) ‹Qm rf Qa=true›
      try have XL:=Qh (Qp ‹Ql rf=true›) ‹Qm rf Qa=true› Qc.toNat
      try have Xg:=Q7 hr XE XK XN XC XY hm hx hy h1 q0
      try have XQ:=Qx (g:=Xj low high) (ps:=rf.Qb) h0 q0
      try have XP:=Qx (g:=QP Qd) (ps:=rf.Qb) h0 q0
      try have Xp:=Qq ((Qg hr).2 i h0 q0).1
      exact⟨⟨trivial,(by have t_:=eJ (rf) (Qa);rw[q1]at t_;exact t_)⟩,UX⟩
     cases q2:Ql {Qb:=rf.Qb,miss:=rf.miss,seasons:=rf.seasons}with
     |true=>
      cases q3:Qm {Qb:=rf.Qb,miss:=rf.miss,seasons:=rf.seasons} ms with
      |true=>
       have hp32:Q3 (Ri B rf Qa Qc place low high Qd i ms mn xs ys Qr):=by
        try have Xy:=Qn (Qg ‹Ql rf=true›).1
        try have XF:=(Qo ‹Qm rf Qa=true›).1
        try have XG:=Qh (Qp ‹Ql rf=true›) ‹Qm rf Qa=true›
        try have XL:=Qh (Qp ‹Ql rf=true›) ‹Qm rf Qa=true› Qc.toNat
        try have Xg:=Q7 hr XE XK XN XC XY hm hx hy h1 q0
        try have XQ:=Qx (g:=Xj low high) (ps:=rf.Qb) h0 q0
        try have XP:=Qx (g:=QP Qd) (ps:=rf.Qb) h0 q0
        try have Xp:=Qq ((Qg hr).2 i h0 q0).1
        exact⟨⟨⟨(Qv (fun x=>List.all_eq_true.1 (by first|rfl|(cases x <;> rfl)))),trivial⟩,(by have t_:=Q8 rf.Qb rf.miss rf.seasons (ms) rf.Qb.length (mn) (by first|with_reducible assumption|omega|simp_all) (by first|with_reducible assumption|omega|simp_all);rw[q2,q3]at t_;exact t_)⟩,hp31⟩
       cases q4:Ql {Qb:=xs,miss:=rf.miss,seasons:=rf.seasons}with
       |true=>
        cases q5:Qm {Qb:=xs,miss:=rf.miss,seasons:=rf.seasons} Qa with
        |true=>
         have hp33:Q3 (Rh B rf Qa Qc place low high Qd i ms mn xs ys Qr):=by
          try have Xy:=Qn (Qg ‹Ql rf=true›).1
          try have XF:=(Qo ‹Qm rf Qa=true›).1
          try have XG:=Qh (Qp ‹Ql rf=true›) ‹Qm rf Qa=true›
          try have XL:=Qh (Qp ‹Ql rf=true›) ‹Qm rf Qa=true› Qc.toNat
          try have Xg:=Q7 hr XE XK XN XC XY hm hx hy h1 q0
          try have XQ:=Qx (g:=Xj low high) (ps:=rf.Qb) h0 q0
          try have XP:=Qx (g:=QP Qd) (ps:=rf.Qb) h0 q0
          try have Xp:=Qq ((Qg hr).2 i h0 q0).1
          exact⟨⟨⟨(Qv (fun x=>List.all_eq_true.1 (by first|rfl|(cases x <;> rfl)))),trivial⟩,(by have t_:=Q8 (xs) rf.miss rf.seasons (Qa) rf.Qb.length Qa.length (by first|with_reducible assumption|omega|simp_all) (by first|with_reducible assumption|omega|simp_all);rw[q4,q5]at t_;exact t_)⟩,hp32⟩
         cases q6:Ql {Qb:=ys,miss:=rf.miss,seasons:=rf.seasons}with
         |true=>
          cases q7:Qm {Qb:=ys,miss:=rf.miss,seasons:=rf.seasons} Qa with
          |true=>
           try have Xy:=Qn (Qg ‹Ql rf=true›).1
           try have XF:=(Qo ‹Qm rf Qa=true›).1
           try have XG:=Qh (Qp ‹Ql rf=true›) ‹Qm rf Qa=true›
           try have XL:=Qh (Qp ‹Ql rf=true›) ‹Qm rf Qa=true› Qc.toNat
           try have Xg:=Q7 hr XE XK XN XC XY hm hx hy h1 q0
           try have XQ:=Qx (g:=Xj low high) (ps:=rf.Qb) h0 q0
           try have XP:=Qx (g:=QP Qd) (ps:=rf.Qb) h0 q0
           try have Xp:=Qq ((Qg hr).2 i h0 q0).1
           exact(GoE.endsT okF hJ Qi X7 (wN B rf Qa Qc place low high Qd i ms mn xs ys Qr)
            ⟨⟨⟨(Qv (fun x=>List.all_eq_true.1 (by first|rfl|(cases x <;> rfl)))),trivial⟩,(by have t_:=Q8 (ys) rf.miss rf.seasons (Qa) rf.Qb.length Qa.length (by first|with_reducible assumption|omega|simp_all) (by first|with_reducible assumption|omega|simp_all);rw[q6,q7]at t_;exact t_)⟩,hp33⟩).cast (by first|rfl|(exfalso;omega)|(exfalso;obtain⟨e1,e2,e3,e4,e5,e6,e7⟩:=Xg;simp_all;done)|(simp_all;done))
          |false=>
           try have Xy:=Qn (Qg ‹Ql rf=true›).1
           try have XF:=(Qo ‹Qm rf Qa=true›).1
           try have XG:=Qh (Qp ‹Ql rf=true›) ‹Qm rf Qa=true›
           try have XL:=Qh (Qp ‹Ql rf=true›) ‹Qm rf Qa=true› Qc.toNat
           try have Xg:=Q7 hr XE XK XN XC XY hm hx hy h1 q0
           try have XQ:=Qx (g:=Xj low high) (ps:=rf.Qb) h0 q0
           try have XP:=Qx (g:=QP Qd) (ps:=rf.Qb) h0 q0
           try have Xp:=Qq ((Qg hr).2 i h0 q0).1
           exact(GoE.endsT okF hJ Qi X7 (wM B rf Qa Qc place low high Qd i ms mn xs ys Qr)
            ⟨⟨⟨(Qv (fun x=>List.all_eq_true.1 (by first|rfl|(cases x <;> rfl)))),trivial⟩,(by have t_:=Q8 (ys) rf.miss rf.seasons (Qa) rf.Qb.length Qa.length (by first|with_reducible assumption|omega|simp_all) (by first|with_reducible assumption|omega|simp_all);rw[q6,q7]at t_;exact t_)⟩,hp33⟩).cast (by first|rfl|(exfalso;omega)|(exfalso;obtain⟨e1,e2,e3,e4,e5,e6,e7⟩:=Xg;simp_all;done)|(simp_all;done))
         |false=>
          try have Xy:=Qn (Qg ‹Ql rf=true›).1
          try have XF:=(Qo ‹Qm rf Qa=true›).1
          try have XG:=Qh (Qp ‹Ql rf=true›) ‹Qm rf Qa=true›
          try have XL:=Qh (Qp ‹Ql rf=true›) ‹Qm rf Qa=true› Qc.toNat
          try have Xg:=Q7 hr XE XK XN XC XY hm hx hy h1 q0
          try have XQ:=Qx (g:=Xj low high) (ps:=rf.Qb) h0 q0
          try have XP:=Qx (g:=QP Qd) (ps:=rf.Qb) h0 q0
          try have Xp:=Qq ((Qg hr).2 i h0 q0).1
          exact(GoE.endsT okF hJ Qi X7 (wL B rf Qa Qc place low high Qd i ms mn xs ys Qr)
           ⟨⟨⟨(Qv (fun x=>List.all_eq_true.1 (by first|rfl|(cases x <;> rfl)))),trivial⟩,(by have t_:=Q8 (ys) rf.miss rf.seasons (Qa) rf.Qb.length Qa.length (by first|with_reducible assumption|omega|simp_all) (by first|with_reducible assumption|omega|simp_all);rw[q6]at t_;exact t_)⟩,hp33⟩).cast (by first|rfl|(exfalso;omega)|(exfalso;obtain⟨e1,e2,e3,e4,e5,e6,e7⟩:=Xg;simp_all;done)|(simp_all;done))
        |false=>
         have hp34:Q3 (Rg B rf Qa Qc place low high Qd i ms mn xs ys Qr):=by
          try have Xy:=Qn (Qg ‹Ql rf=true›).1
          try have XF:=(Qo ‹Qm rf Qa=true›).1
          try have XG:=Qh (Qp ‹Ql rf=true›) ‹Qm rf Qa=true›
          try have XL:=Qh (Qp ‹Ql rf=true›) ‹Qm rf Qa=true› Qc.toNat
          try have Xg:=Q7 hr XE XK XN XC XY hm hx hy h1 q0
          try have XQ:=Qx (g:=Xj low high) (ps:=rf.Qb) h0 q0
          try have XP:=Qx (g:=QP Qd) (ps:=rf.Qb) h0 q0
          try have Xp:=Qq ((Qg hr).2 i h0 q0).1
          exact⟨⟨⟨(Qv (fun x=>List.all_eq_true.1 (by first|rfl|(cases x <;> rfl)))),trivial⟩,(by have t_:=Q8 (xs) rf.miss rf.seasons (Qa) rf.Qb.length Qa.length (by first|with_reducible assumption|omega|simp_all) (by first|with_reducible assumption|omega|simp_all);rw[q4,q5]at t_;exact t_)⟩,hp32⟩
         cases q6:Ql {Qb:=ys,miss:=rf.miss,seasons:=rf.seasons}with
         |true=>
          cases q7:Qm {Qb:=ys,miss:=rf.miss,seasons:=rf.seasons} Qa with
          |true=>
           try have Xy:=Qn (Qg ‹Ql rf=true›).1
           try have XF:=(Qo ‹Qm rf Qa=true›).1
           try have XG:=Qh (Qp ‹Ql rf=true›) ‹Qm rf Qa=true›
           try have XL:=Qh (Qp ‹Ql rf=true›) ‹Qm rf Qa=true› Qc.toNat
           try have Xg:=Q7 hr XE XK XN XC XY hm hx hy h1 q0
           try have XQ:=Qx (g:=Xj low high) (ps:=rf.Qb) h0 q0
           try have XP:=Qx (g:=QP Qd) (ps:=rf.Qb) h0 q0
           try have Xp:=Qq ((Qg hr).2 i h0 q0).1
           exact(GoE.endsT okF hJ Qi X7 (wK B rf Qa Qc place low high Qd i ms mn xs ys Qr)
            ⟨⟨⟨(Qv (fun x=>List.all_eq_true.1 (by first|rfl|(cases x <;> rfl)))),trivial⟩,(by have t_:=Q8 (ys) rf.miss rf.seasons (Qa) rf.Qb.length Qa.length (by first|with_reducible assumption|omega|simp_all) (by first|with_reducible assumption|omega|simp_all);rw[q6,q7]at t_;exact t_)⟩,hp34⟩).cast (by first|rfl|(exfalso;omega)|(exfalso;obtain⟨e1,e2,e3,e4,e5,e6,e7⟩:=Xg;simp_all;done)|(simp_all;done))
          |false=>
           try have Xy:=Qn (Qg ‹Ql rf=true›).1
           try have XF:=(Qo ‹Qm rf Qa=true›).1
           try have XG:=Qh (Qp ‹Ql rf=true›) ‹Qm rf Qa=true›
           try have XL:=Qh (Qp ‹Ql rf=true›) ‹Qm rf Qa=true› Qc.toNat
           try have Xg:=Q7 hr XE XK XN XC XY hm hx hy h1 q0
           try have XQ:=Qx (g:=Xj low high) (ps:=rf.Qb) h0 q0
           try have XP:=Qx (g:=QP Qd) (ps:=rf.Qb) h0 q0
           try have Xp:=Qq ((Qg hr).2 i h0 q0).1
           exact(GoE.endsT okF hJ Qi X7 (wJ B rf Qa Qc place low high Qd i ms mn xs ys Qr)
            ⟨⟨⟨(Qv (fun x=>List.all_eq_true.1 (by first|rfl|(cases x <;> rfl)))),trivial⟩,(by have t_:=Q8 (ys) rf.miss rf.seasons (Qa) rf.Qb.length Qa.length (by first|with_reducible assumption|omega|simp_all) (by first|with_reducible assumption|omega|simp_all);rw[q6,q7]at t_;exact t_)⟩,hp34⟩).cast (by first|rfl|(exfalso;omega)|(exfalso;obtain⟨e1,e2,e3,e4,e5,e6,e7⟩:=Xg;simp_all;done)|(simp_all;done))
         |false=>
          try have Xy:=Qn (Qg ‹Ql rf=true›).1
          try have XF:=(Qo ‹Qm rf Qa=true›).1
          try have XG:=Qh (Qp ‹Ql rf=true›) ‹Qm rf Qa=true›
          try have XL:=Qh (Qp ‹Ql rf=true›) ‹Qm rf Qa=true› Qc.toNat
          try have Xg:=Q7 hr XE XK XN XC XY hm hx hy h1 q0
          try have XQ:=Qx (g:=Xj low high) (ps:=rf.Qb) h0 q0
          try have XP:=Qx (g:=QP Qd) (ps:=rf.Qb) h0 q0
          try have Xp:=Qq ((Qg hr).2 i h0 q0).1
          exact(GoE.endsT okF hJ Qi X7 (wI B rf Qa Qc place low high Qd i ms mn xs ys Qr)
           ⟨⟨⟨(Qv (fun x=>List.all_eq_true.1 (by first|rfl|(cases x <;> rfl)))),trivial⟩,(by have t_:=Q8 (ys) rf.miss rf.seasons (Qa) rf.Qb.length Qa.length (by first|with_reducible assumption|omega|simp_all) (by first|with_reducible assumption|omega|simp_all);rw[q6]at t_;exact t_)⟩,hp34⟩).cast (by first|rfl|(exfalso;omega)|(exfalso;obtain⟨e1,e2,e3,e4,e5,e6,e7⟩:=Xg;simp_all;done)|(simp_all;done))
       |false=>
        have hp35:Q3 (Rf B rf Qa Qc place low high Qd i ms mn xs ys Qr):=by
         try have Xy:=Qn (Qg ‹Ql rf=true›).1
         try have XF:=(Qo ‹Qm rf Qa=true›).1
         try have XG:=Qh (Qp ‹Ql rf=true›) ‹Qm rf Qa=true›
         try have XL:=Qh (Qp ‹Ql rf=true›) ‹Qm rf Qa=true› Qc.toNat
         try have Xg:=Q7 hr XE XK XN XC XY hm hx hy h1 q0
         try have XQ:=Qx (g:=Xj low high) (ps:=rf.Qb) h0 q0
         try have XP:=Qx (g:=QP Qd) (ps:=rf.Qb) h0 q0
         try have Xp:=Qq ((Qg hr).2 i h0 q0).1
         exact⟨⟨⟨(Qv (fun x=>List.all_eq_true.1 (by first|rfl|(cases x <;> rfl)))),trivial⟩,(by have t_:=Q8 (xs) rf.miss rf.seasons (Qa) rf.Qb.length Qa.length (by first|with_reducible assumption|omega|simp_all) (by first|with_reducible assumption|omega|simp_all);rw[q4]at t_;exact t_)⟩,hp32⟩
        cases q5:Ql {Qb:=ys,miss:=rf.miss,seasons:=rf.seasons}with
        |true=>
         cases q6:Qm {Qb:=ys,miss:=rf.miss,seasons:=rf.seasons} Qa with
         |true=>
          try have Xy:=Qn (Qg ‹Ql rf=true›).1
          try have XF:=(Qo ‹Qm rf Qa=true›).1
          try have XG:=Qh (Qp ‹Ql rf=true›) ‹Qm rf Qa=true›
          try have XL:=Qh (Qp ‹Ql rf=true›) ‹Qm rf Qa=true› Qc.toNat
          try have Xg:=Q7 hr XE XK XN XC XY hm hx hy h1 q0
          try have XQ:=Qx (g:=Xj low high) (ps:=rf.Qb) h0 q0
          try have XP:=Qx (g:=QP Qd) (ps:=rf.Qb) h0 q0
          try have Xp:=Qq ((Qg hr).2 i h0 q0).1
          exact(GoE.endsT okF hJ Qi X7 (wH B rf Qa Qc place low high Qd i ms mn xs ys Qr)
           ⟨⟨⟨(Qv (fun x=>List.all_eq_true.1 (by first|rfl|(cases x <;> rfl)))),trivial⟩,(by have t_:=Q8 (ys) rf.miss rf.seasons (Qa) rf.Qb.length Qa.length (by first|with_reducible assumption|omega|simp_all) (by first|with_reducible assumption|omega|simp_all);rw[q5,q6]at t_;exact t_)⟩,hp35⟩).cast (by first|rfl|(exfalso;omega)|(exfalso;obtain⟨e1,e2,e3,e4,e5,e6,e7⟩:=Xg;simp_all;done)|(simp_all;done))
         |false=>
          try have Xy:=Qn (Qg ‹Ql rf=true›).1
          try have XF:=(Qo ‹Qm rf Qa=true›).1
          try have XG:=Qh (Qp ‹Ql rf=true›) ‹Qm rf Qa=true›
          try have XL:=Qh (Qp ‹Ql rf=true›) ‹Qm rf Qa=true› Qc.toNat
          try have Xg:=Q7 hr XE XK XN XC XY hm hx hy h1 q0
          try have XQ:=Qx (g:=Xj low high) (ps:=rf.Qb) h0 q0
          try have XP:=Qx (g:=QP Qd) (ps:=rf.Qb) h0 q0
          try have Xp:=Qq ((Qg hr).2 i h0 q0).1
          exact(GoE.endsT okF hJ Qi X7 (wG B rf Qa Qc place low high Qd i ms mn xs ys Qr)
           ⟨⟨⟨(Qv (fun x=>List.all_eq_true.1 (by first|rfl|(cases x <;> rfl)))),trivial⟩,(by have t_:=Q8 (ys) rf.miss rf.seasons (Qa) rf.Qb.length Qa.length (by first|with_reducible assumption|omega|simp_all) (by first|with_reducible assumption|omega|simp_all);rw[q5,q6]at t_;exact t_)⟩,hp35⟩).cast (by first|rfl|(exfalso;omega)|(exfalso;obtain⟨e1,e2,e3,e4,e5,e6,e7⟩:=Xg;simp_all;done)|(simp_all;done))
        |false=>
         try have Xy:=Qn (Qg ‹Ql rf=true›).1
         try have XF:=(Qo ‹Qm rf Qa=true›).1
         try have XG:=Qh (Qp ‹Ql rf=true›) ‹Qm rf Qa=true›
         try have XL:=Qh (Qp ‹Ql rf=true›) ‹Qm rf Qa=true› Qc.toNat
         try have Xg:=Q7 hr XE XK XN XC XY hm hx hy h1 q0
         try have XQ:=Qx (g:=Xj low high) (ps:=rf.Qb) h0 q0
         try have XP:=Qx (g:=QP Qd) (ps:=rf.Qb) h0 q0
         try have Xp:=Qq ((Qg hr).2 i h0 q0).1
         exact(GoE.endsT okF hJ Qi X7 (wF B rf Qa Qc place low high Qd i ms mn xs ys Qr)
          ⟨⟨⟨(Qv (fun x=>List.all_eq_true.1 (by first|rfl|(cases x <;> rfl)))),trivial⟩,(by have t_:=Q8 (ys) rf.miss rf.seasons (Qa) rf.Qb.length Qa.length (by first|with_reducible assumption|omega|simp_all) (by first|with_reducible assumption|omega|simp_all);rw[q5]at t_;exact t_)⟩,hp35⟩).cast (by first|rfl|(exfalso;omega)|(exfalso;obtain⟨e1,e2,e3,e4,e5,e6,e7⟩:=Xg;simp_all;done)|(simp_all;done))
      |false=>
       have hp36:Q3 (Re B rf Qa Qc place low high Qd i ms mn xs ys Qr):=by
        try have Xy:=Qn (Qg ‹Ql rf=true›).1
        try have XF:=(Qo ‹Qm rf Qa=true›).1
        try have XG:=Qh (Qp ‹Ql rf=true›) ‹Qm rf Qa=true›
        try have XL:=Qh (Qp ‹Ql rf=true›) ‹Qm rf Qa=true› Qc.toNat
        try have Xg:=Q7 hr XE XK XN XC XY hm hx hy h1 q0
        try have XQ:=Qx (g:=Xj low high) (ps:=rf.Qb) h0 q0
        try have XP:=Qx (g:=QP Qd) (ps:=rf.Qb) h0 q0
        try have Xp:=Qq ((Qg hr).2 i h0 q0).1
        exact⟨⟨⟨(Qv (fun x=>List.all_eq_true.1 (by first|rfl|(cases x <;> rfl)))),trivial⟩,(by have t_:=Q8 rf.Qb rf.miss rf.seasons (ms) rf.Qb.length (mn) (by first|with_reducible assumption|omega|simp_all) (by first|with_reducible assumption|omega|simp_all);rw[q2,q3]at t_;exact t_)⟩,hp31⟩
       cases q4:Ql {Qb:=xs,miss:=rf.miss,seasons:=rf.seasons}with
       |true=>
        cases q5:Qm {Qb:=xs,miss:=rf.miss,seasons:=rf.seasons} Qa with
        |true=>
         have hp37:Q3 (Rd B rf Qa Qc place low high Qd i ms mn xs ys Qr):=by
          try have Xy:=Qn (Qg ‹Ql rf=true›).1
          try have XF:=(Qo ‹Qm rf Qa=true›).1
          try have XG:=Qh (Qp ‹Ql rf=true›) ‹Qm rf Qa=true›
          try have XL:=Qh (Qp ‹Ql rf=true›) ‹Qm rf Qa=true› Qc.toNat
          try have Xg:=Q7 hr XE XK XN XC XY hm hx hy h1 q0
          try have XQ:=Qx (g:=Xj low high) (ps:=rf.Qb) h0 q0
          try have XP:=Qx (g:=QP Qd) (ps:=rf.Qb) h0 q0
          try have Xp:=Qq ((Qg hr).2 i h0 q0).1
          exact⟨⟨⟨(Qv (fun x=>List.all_eq_true.1 (by first|rfl|(cases x <;> rfl)))),trivial⟩,(by have t_:=Q8 (xs) rf.miss rf.seasons (Qa) rf.Qb.length Qa.length (by first|with_reducible assumption|omega|simp_all) (by first|with_reducible assumption|omega|simp_all);rw[q4,q5]at t_;exact t_)⟩,hp36⟩
         cases q6:Ql {Qb:=ys,miss:=rf.miss,seasons:=rf.seasons}with
         |true=>
          cases q7:Qm {Qb:=ys,miss:=rf.miss,seasons:=rf.seasons} Qa with
          |true=>
           try have Xy:=Qn (Qg ‹Ql rf=true›).1
           try have XF:=(Qo ‹Qm rf Qa=true›).1
           try have XG:=Qh (Qp ‹Ql rf=true›) ‹Qm rf Qa=true›
           try have XL:=Qh (Qp ‹Ql rf=true›) ‹Qm rf Qa=true› Qc.toNat
           try have Xg:=Q7 hr XE XK XN XC XY hm hx hy h1 q0
           try have XQ:=Qx (g:=Xj low high) (ps:=rf.Qb) h0 q0
           try have XP:=Qx (g:=QP Qd) (ps:=rf.Qb) h0 q0
           try have Xp:=Qq ((Qg hr).2 i h0 q0).1
           exact(GoE.endsT okF hJ Qi X7 (wE B rf Qa Qc place low high Qd i ms mn xs ys Qr)
            ⟨⟨⟨(Qv (fun x=>List.all_eq_true.1 (by first|rfl|(cases x <;> rfl)))),trivial⟩,(by have t_:=Q8 (ys) rf.miss rf.seasons (Qa) rf.Qb.length Qa.length (by first|with_reducible assumption|omega|simp_all) (by first|with_reducible assumption|omega|simp_all);rw[q6,q7]at t_;exact t_)⟩,hp37⟩).cast (by first|rfl|(exfalso;omega)|(exfalso;obtain⟨e1,e2,e3,e4,e5,e6,e7⟩:=Xg;simp_all;done)|(simp_all;done))
          |false=>
           try have Xy:=Qn (Qg ‹Ql rf=true›).1
           try have XF:=(Qo ‹Qm rf Qa=true›).1
           try have XG:=Qh (Qp ‹Ql rf=true›) ‹Qm rf Qa=true›
           try have XL:=Qh (Qp ‹Ql rf=true›) ‹Qm rf Qa=true› Qc.toNat
           try have Xg:=Q7 hr XE XK XN XC XY hm hx hy h1 q0
           try have XQ:=Qx (g:=Xj low high) (ps:=rf.Qb) h0 q0
           try have XP:=Qx (g:=QP Qd) (ps:=rf.Qb) h0 q0
           try have Xp:=Qq ((Qg hr).2 i h0 q0).1
           exact(GoE.endsT okF hJ Qi X7 (wD B rf Qa Qc place low high Qd i ms mn xs ys Qr)
            ⟨⟨⟨(Qv (fun x=>List.all_eq_true.1 (by first|rfl|(cases x <;> rfl)))),trivial⟩,(by have t_:=Q8 (ys) rf.miss rf.seasons (Qa) rf.Qb.length Qa.length (by first|with_reducible assumption|omega|simp_all) (by first|with_reducible assumption|omega|simp_all);rw[q6,q7]at t_;exact t_)⟩,hp37⟩).cast (by first|rfl|(exfalso;omega)|(exfalso;obtain⟨e1,e2,e3,e4,e5,e6,e7⟩:=Xg;simp_all;done)|(simp_all;done))
         |false=>
          try have Xy:=Qn (Qg ‹Ql rf=true›).1
          try have XF:=(Qo ‹Qm rf Qa=true›).1
          try have XG:=Qh (Qp ‹Ql rf=true›) ‹Qm rf Qa=true›
          try have XL:=Qh (Qp ‹Ql rf=true›) ‹Qm rf Qa=true› Qc.toNat
          try have Xg:=Q7 hr XE XK XN XC XY hm hx hy h1 q0
          try have XQ:=Qx (g:=Xj low high) (ps:=rf.Qb) h0 q0
          try have XP:=Qx (g:=QP Qd) (ps:=rf.Qb) h0 q0
          try have Xp:=Qq ((Qg hr).2 i h0 q0).1
          exact(GoE.endsT okF hJ Qi X7 (wC B rf Qa Qc place low high Qd i ms mn xs ys Qr)
           ⟨⟨⟨(Qv (fun x=>List.all_eq_true.1 (by first|rfl|(cases x <;> rfl)))),trivial⟩,(by have t_:=Q8 (ys) rf.miss rf.seasons (Qa) rf.Qb.length Qa.length (by first|with_reducible assumption|omega|simp_all) (by first|with_reducible assumption|omega|simp_all);rw[q6]at t_;exact t_)⟩,hp37⟩).cast (by first|rfl|(exfalso;omega)|(exfalso;obtain⟨e1,e2,e3,e4,e5,e6,e7⟩:=Xg;simp_all;done)|(simp_all;done))
        |false=>
         have hp38:Q3 (Rc B rf Qa Qc place low high Qd i ms mn xs ys Qr):=by
          try have Xy:=Qn (Qg ‹Ql rf=true›).1
          try have XF:=(Qo ‹Qm rf Qa=true›).1
          try have XG:=Qh (Qp ‹Ql rf=true›) ‹Qm rf Qa=true›
          try have XL:=Qh (Qp ‹Ql rf=true›) ‹Qm rf Qa=true› Qc.toNat
          try have Xg:=Q7 hr XE XK XN XC XY hm hx hy h1 q0
          try have XQ:=Qx (g:=Xj low high) (ps:=rf.Qb) h0 q0
          try have XP:=Qx (g:=QP Qd) (ps:=rf.Qb) h0 q0
          try have Xp:=Qq ((Qg hr).2 i h0 q0).1
          exact⟨⟨⟨(Qv (fun x=>List.all_eq_true.1 (by first|rfl|(cases x <;> rfl)))),trivial⟩,(by have t_:=Q8 (xs) rf.miss rf.seasons (Qa) rf.Qb.length Qa.length (by first|with_reducible assumption|omega|simp_all) (by first|with_reducible assumption|omega|simp_all);rw[q4,q5]at t_;exact t_)⟩,hp36⟩
         cases q6:Ql {Qb:=ys,miss:=rf.miss,seasons:=rf.seasons}with
         |true=>
          cases q7:Qm {Qb:=ys,miss:=rf.miss,seasons:=rf.seasons} Qa with
          |true=>
           try have Xy:=Qn (Qg ‹Ql rf=true›).1
           try have XF:=(Qo ‹Qm rf Qa=true›).1
           try have XG:=Qh (Qp ‹Ql rf=true›) ‹Qm rf Qa=true›
           try have XL:=Qh (Qp ‹Ql rf=true›) ‹Qm rf Qa=true› Qc.toNat
           try have Xg:=Q7 hr XE XK XN XC XY hm hx hy h1 q0
           try have XQ:=Qx (g:=Xj low high) (ps:=rf.Qb) h0 q0
           try have XP:=Qx (g:=QP Qd) (ps:=rf.Qb) h0 q0
           try have Xp:=Qq ((Qg hr).2 i h0 q0).1
           exact(GoE.endsT okF hJ Qi X7 (wB B rf Qa Qc place low high Qd i ms mn xs ys Qr)
            ⟨⟨⟨(Qv (fun x=>List.all_eq_true.1 (by first|rfl|(cases x <;> rfl)))),trivial⟩,(by have t_:=Q8 (ys) rf.miss rf.seasons (Qa) rf.Qb.length Qa.length (by first|with_reducible assumption|omega|simp_all) (by first|with_reducible assumption|omega|simp_all);rw[q6,q7]at t_;exact t_)⟩,hp38⟩).cast (by first|rfl|(exfalso;omega)|(exfalso;obtain⟨e1,e2,e3,e4,e5,e6,e7⟩:=Xg;simp_all;done)|(simp_all;done))
          |false=>
           try have Xy:=Qn (Qg ‹Ql rf=true›).1
           try have XF:=(Qo ‹Qm rf Qa=true›).1
           try have XG:=Qh (Qp ‹Ql rf=true›) ‹Qm rf Qa=true›
           try have XL:=Qh (Qp ‹Ql rf=true›) ‹Qm rf Qa=true› Qc.toNat
           try have Xg:=Q7 hr XE XK XN XC XY hm hx hy h1 q0
           try have XQ:=Qx (g:=Xj low high) (ps:=rf.Qb) h0 q0
           try have XP:=Qx (g:=QP Qd) (ps:=rf.Qb) h0 q0
           try have Xp:=Qq ((Qg hr).2 i h0 q0).1
           exact(GoE.endsT okF hJ Qi X7 (wA B rf Qa Qc place low high Qd i ms mn xs ys Qr)
            ⟨⟨⟨(Qv (fun x=>List.all_eq_true.1 (by first|rfl|(cases x <;> rfl)))),trivial⟩,(by have t_:=Q8 (ys) rf.miss rf.seasons (Qa) rf.Qb.length Qa.length (by first|with_reducible assumption|omega|simp_all) (by first|with_reducible assumption|omega|simp_all);rw[q6,q7]at t_;exact t_)⟩,hp38⟩).cast (by first|rfl|(exfalso;omega)|(exfalso;obtain⟨e1,e2,e3,e4,e5,e6,e7⟩:=Xg;simp_all;done)|(simp_all;done))
         |false=>
          try have Xy:=Qn (Qg ‹Ql rf=true›).1
          try have XF:=(Qo ‹Qm rf Qa=true›).1
          try have XG:=Qh (Qp ‹Ql rf=true›) ‹Qm rf Qa=true›
          try have XL:=Qh (Qp ‹Ql rf=true›) ‹Qm rf Qa=true› Qc.toNat
          try have Xg:=Q7 hr XE XK XN XC XY hm hx hy h1 q0
          try have XQ:=Qx (g:=Xj low high) (ps:=rf.Qb) h0 q0
          try have XP:=Qx (g:=QP Qd) (ps:=rf.Qb) h0 q0
          try have Xp:=Qq ((Qg hr).2 i h0 q0).1
          exact(GoE.endsT okF hJ Qi X7 (w9 B rf Qa Qc place low high Qd i ms mn xs ys Qr)
           ⟨⟨⟨(Qv (fun x=>List.all_eq_true.1 (by first|rfl|(cases x <;> rfl)))),trivial⟩,(by have t_:=Q8 (ys) rf.miss rf.seasons (Qa) rf.Qb.length Qa.length (by first|with_reducible assumption|omega|simp_all) (by first|with_reducible assumption|omega|simp_all);rw[q6]at t_;exact t_)⟩,hp38⟩).cast (by first|rfl|(exfalso;omega)|(exfalso;obtain⟨e1,e2,e3,e4,e5,e6,e7⟩:=Xg;simp_all;done)|(simp_all;done))
       |false=>
        have hp39:Q3 (Rb B rf Qa Qc place low high Qd i ms mn xs ys Qr):=by
         try have Xy:=Qn (Qg ‹Ql rf=true›).1
         try have XF:=(Qo ‹Qm rf Qa=true›).1
         try have XG:=Qh (Qp ‹Ql rf=true›) ‹Qm rf Qa=true›
         try have XL:=Qh (Qp ‹Ql rf=true›) ‹Qm rf Qa=true› Qc.toNat
         try have Xg:=Q7 hr XE XK XN XC XY hm hx hy h1 q0
         try have XQ:=Qx (g:=Xj low high) (ps:=rf.Qb) h0 q0
         try have XP:=Qx (g:=QP Qd) (ps:=rf.Qb) h0 q0
         try have Xp:=Qq ((Qg hr).2 i h0 q0).1
         exact⟨⟨⟨(Qv (fun x=>List.all_eq_true.1 (by first|rfl|(cases x <;> rfl)))),trivial⟩,(by have t_:=Q8 (xs) rf.miss rf.seasons (Qa) rf.Qb.length Qa.length (by first|with_reducible assumption|omega|simp_all) (by first|with_reducible assumption|omega|simp_all);rw[q4]at t_;exact t_)⟩,hp36⟩
        cases q5:Ql {Qb:=ys,miss:=rf.miss,seasons:=rf.seasons}with
        |true=>
         cases q6:Qm {Qb:=ys,miss:=rf.miss,seasons:=rf.seasons} Qa with
         |true=>
          try have Xy:=Qn (Qg ‹Ql rf=true›).1
          try have XF:=(Qo ‹Qm rf Qa=true›).1
          try have XG:=Qh (Qp ‹Ql rf=true›) ‹Qm rf Qa=true›
          try have XL:=Qh (Qp ‹Ql rf=true›) ‹Qm rf Qa=true› Qc.toNat
          try have Xg:=Q7 hr XE XK XN XC XY hm hx hy h1 q0
          try have XQ:=Qx (g:=Xj low high) (ps:=rf.Qb) h0 q0
          try have XP:=Qx (g:=QP Qd) (ps:=rf.Qb) h0 q0
          try have Xp:=Qq ((Qg hr).2 i h0 q0).1
          exact(GoE.endsT okF hJ Qi X7 (w8 B rf Qa Qc place low high Qd i ms mn xs ys Qr)
           ⟨⟨⟨(Qv (fun x=>List.all_eq_true.1 (by first|rfl|(cases x <;> rfl)))),trivial⟩,(by have t_:=Q8 (ys) rf.miss rf.seasons (Qa) rf.Qb.length Qa.length (by first|with_reducible assumption|omega|simp_all) (by first|with_reducible assumption|omega|simp_all);rw[q5,q6]at t_;exact t_)⟩,hp39⟩).cast (by first|rfl|(exfalso;omega)|(exfalso;obtain⟨e1,e2,e3,e4,e5,e6,e7⟩:=Xg;simp_all;done)|(simp_all;done))
         |false=>
          try have Xy:=Qn (Qg ‹Ql rf=true›).1
          try have XF:=(Qo ‹Qm rf Qa=true›).1
          try have XG:=Qh (Qp ‹Ql rf=true›) ‹Qm rf Qa=true›
          try have XL:=Qh (Qp ‹Ql rf=true›) ‹Qm rf Qa=true› Qc.toNat
          try have Xg:=Q7 hr XE XK XN XC XY hm hx hy h1 q0
          try have XQ:=Qx (g:=Xj low high) (ps:=rf.Qb) h0 q0
          try have XP:=Qx (g:=QP Qd) (ps:=rf.Qb) h0 q0
          try have Xp:=Qq ((Qg hr).2 i h0 q0).1
          exact(GoE.endsT okF hJ Qi X7 (w7 B rf Qa Qc place low high Qd i ms mn xs ys Qr)
           ⟨⟨⟨(Qv (fun x=>List.all_eq_true.1 (by first|rfl|(cases x <;> rfl)))),trivial⟩,(by have t_:=Q8 (ys) rf.miss rf.seasons (Qa) rf.Qb.length Qa.length (by first|with_reducible assumption|omega|simp_all) (by first|with_reducible assumption|omega|simp_all);rw[q5,q6]at t_;exact t_)⟩,hp39⟩).cast (by first|rfl|(exfalso;omega)|(exfalso;obtain⟨e1,e2,e3,e4,e5,e6,e7⟩:=Xg;simp_all;done)|(simp_all;done))
        |false=>
         try have Xy:=Qn (Qg ‹Ql rf=true›).1
         try have XF:=(Qo ‹Qm rf Qa=true›).1
         try have XG:=Qh (Qp ‹Ql rf=true›) ‹Qm rf Qa=true›
         try have XL:=Qh (Qp ‹Ql rf=true›) ‹Qm rf Qa=true› Qc.toNat
         try have Xg:=Q7 hr XE XK XN XC XY hm hx hy h1 q0
         try have XQ:=Qx (g:=Xj low high) (ps:=rf.Qb) h0 q0
         try have XP:=Qx (g:=QP Qd) (ps:=rf.Qb) h0 q0
         try have Xp:=Qq ((Qg hr).2 i h0 q0).1
         exact(GoE.endsT okF hJ Qi X7 (w6 B rf Qa Qc place low high Qd i ms mn xs ys Qr)
          ⟨⟨⟨(Qv (fun x=>List.all_eq_true.1 (by first|rfl|(cases x <;> rfl)))),trivial⟩,(by have t_:=Q8 (ys) rf.miss rf.seasons (Qa) rf.Qb.length Qa.length (by first|with_reducible assumption|omega|simp_all) (by first|with_reducible assumption|omega|simp_all);rw[q5]at t_;exact t_)⟩,hp39⟩).cast (by first|rfl|(exfalso;omega)|(exfalso;obtain⟨e1,e2,e3,e4,e5,e6,e7⟩:=Xg;simp_all;done)|(simp_all;done))
     |false=>
      have hp40:Q3 (Ra B rf Qa Qc place low high Qd i ms mn xs ys Qr):=by
       try have Xy:=Qn (Qg ‹Ql rf=true›).1
       try have XF:=(Qo ‹Qm rf Qa=true›).1
       try have XG:=Qh (Qp ‹Ql rf=true›) ‹Qm rf Qa=true›
       try have XL:=Qh (Qp ‹Ql rf=true›) ‹Qm rf Qa=true› Qc.toNat
       try have Xg:=Q7 hr XE XK XN XC XY hm hx hy h1 q0
       try have XQ:=Qx (g:=Xj low high) (ps:=rf.Qb) h0 q0
       try have XP:=Qx (g:=QP Qd) (ps:=rf.Qb) h0 q0
       try have Xp:=Qq ((Qg hr).2 i h0 q0).1
       exact⟨⟨⟨(Qv (fun x=>List.all_eq_true.1 (by first|rfl|(cases x <;> rfl)))),trivial⟩,(by have t_:=Q8 rf.Qb rf.miss rf.seasons (ms) rf.Qb.length (mn) (by first|with_reducible assumption|omega|simp_all) (by first|with_reducible assumption|omega|simp_all);rw[q2]at t_;exact t_)⟩,hp31⟩
      cases q3:Ql {Qb:=xs,miss:=rf.miss,seasons:=rf.seasons}with
      |true=>
       cases q4:Qm {Qb:=xs,miss:=rf.miss,seasons:=rf.seasons} Qa with
       |true=>
        have hp41:Q3 (PZ B rf Qa Qc place low high Qd i ms mn xs ys Qr):=by
         try have Xy:=Qn (Qg ‹Ql rf=true›).1
         try have XF:=(Qo ‹Qm rf Qa=true›).1
         try have XG:=Qh (Qp ‹Ql rf=true›) ‹Qm rf Qa=true›
         try have XL:=Qh (Qp ‹Ql rf=true›) ‹Qm rf Qa=true› Qc.toNat
         try have Xg:=Q7 hr XE XK XN XC XY hm hx hy h1 q0
         try have XQ:=Qx (g:=Xj low high) (ps:=rf.Qb) h0 q0
         try have XP:=Qx (g:=QP Qd) (ps:=rf.Qb) h0 q0
         try have Xp:=Qq ((Qg hr).2 i h0 q0).1
         exact⟨⟨⟨(Qv (fun x=>List.all_eq_true.1 (by first|rfl|(cases x <;> rfl)))),trivial⟩,(by have t_:=Q8 (xs) rf.miss rf.seasons (Qa) rf.Qb.length Qa.length (by first|with_reducible assumption|omega|simp_all) (by first|with_reducible assumption|omega|simp_all);rw[q3,q4]at t_;exact t_)⟩,hp40⟩
        cases q5:Ql {Qb:=ys,miss:=rf.miss,seasons:=rf.seasons}with
        |true=>
         cases q6:Qm {Qb:=ys,miss:=rf.miss,seasons:=rf.seasons} Qa with
         |true=>
          try have Xy:=Qn (Qg ‹Ql rf=true›).1
          try have XF:=(Qo ‹Qm rf Qa=true›).1
          try have XG:=Qh (Qp ‹Ql rf=true›) ‹Qm rf Qa=true›
          try have XL:=Qh (Qp ‹Ql rf=true›) ‹Qm rf Qa=true› Qc.toNat
          try have Xg:=Q7 hr XE XK XN XC XY hm hx hy h1 q0
          try have XQ:=Qx (g:=Xj low high) (ps:=rf.Qb) h0 q0
          try have XP:=Qx (g:=QP Qd) (ps:=rf.Qb) h0 q0
          try have Xp:=Qq ((Qg hr).2 i h0 q0).1
          exact(GoE.endsT okF hJ Qi X7 (w5 B rf Qa Qc place low high Qd i ms mn xs ys Qr)
           ⟨⟨⟨(Qv (fun x=>List.all_eq_true.1 (by first|rfl|(cases x <;> rfl)))),trivial⟩,(by have t_:=Q8 (ys) rf.miss rf.seasons (Qa) rf.Qb.length Qa.length (by first|with_reducible assumption|omega|simp_all) (by first|with_reducible assumption|omega|simp_all);rw[q5,q6]at t_;exact t_)⟩,hp41⟩).cast (by first|rfl|(exfalso;omega)|(exfalso;obtain⟨e1,e2,e3,e4,e5,e6,e7⟩:=Xg;simp_all;done)|(simp_all;done))
         |false=>
          try have Xy:=Qn (Qg ‹Ql rf=true›).1
          try have XF:=(Qo ‹Qm rf Qa=true›).1
          try have XG:=Qh (Qp ‹Ql rf=true›) ‹Qm rf Qa=true›
          try have XL:=Qh (Qp ‹Ql rf=true›) ‹Qm rf Qa=true› Qc.toNat
          try have Xg:=Q7 hr XE XK XN XC XY hm hx hy h1 q0
          try have XQ:=Qx (g:=Xj low high) (ps:=rf.Qb) h0 q0
          try have XP:=Qx (g:=QP Qd) (ps:=rf.Qb) h0 q0
          try have Xp:=Qq ((Qg hr).2 i h0 q0).1
          exact(GoE.endsT okF hJ Qi X7 (wz B rf Qa Qc place low high Qd i ms mn xs ys Qr)
           ⟨⟨⟨(Qv (fun x=>List.all_eq_true.1 (by first|rfl|(cases x <;> rfl)))),trivial⟩,(by have t_:=Q8 (ys) rf.miss rf.seasons (Qa) rf.Qb.length Qa.length (by first|with_reducible assumption|omega|simp_all) (by first|with_reducible assumption|omega|simp_all);rw[q5,q6]at t_;exact t_)⟩,hp41⟩).cast (by first|rfl|(exfalso;omega)|(exfalso;obtain⟨e1,e2,e3,e4,e5,e6,e7⟩:=Xg;simp_all;done)|(simp_all;done))
        |false=>
         try have Xy:=Qn (Qg ‹Ql rf=true›).1
         try have XF:=(Qo ‹Qm rf Qa=true›).1
         try have XG:=Qh (Qp ‹Ql rf=true›) ‹Qm rf Qa=true›
         try have XL:=Qh (Qp ‹Ql rf=true›) ‹Qm rf Qa=true› Qc.toNat
         try have Xg:=Q7 hr XE XK XN XC XY hm hx hy h1 q0
         try have XQ:=Qx (g:=Xj low high) (ps:=rf.Qb) h0 q0
         try have XP:=Qx (g:=QP Qd) (ps:=rf.Qb) h0 q0
         try have Xp:=Qq ((Qg hr).2 i h0 q0).1
         exact(GoE.endsT okF hJ Qi X7 (wy B rf Qa Qc place low high Qd i ms mn xs ys Qr)
          ⟨⟨⟨(Qv (fun x=>List.all_eq_true.1 (by first|rfl|(cases x <;> rfl)))),trivial⟩,(by have t_:=Q8 (ys) rf.miss rf.seasons (Qa) rf.Qb.length Qa.length (by first|with_reducible assumption|omega|simp_all) (by first|with_reducible assumption|omega|simp_all);rw[q5]at t_;exact t_)⟩,hp41⟩).cast (by first|rfl|(exfalso;omega)|(exfalso;obtain⟨e1,e2,e3,e4,e5,e6,e7⟩:=Xg;simp_all;done)|(simp_all;done))
       |false=>
        have hp42:Q3 (PY B rf Qa Qc place low high Qd i ms mn xs ys Qr):=by
         try have Xy:=Qn (Qg ‹Ql rf=true›).1
         try have XF:=(Qo ‹Qm rf Qa=true›).1
         try have XG:=Qh (Qp ‹Ql rf=true›) ‹Qm rf Qa=true›
         try have XL:=Qh (Qp ‹Ql rf=true›) ‹Qm rf Qa=true› Qc.toNat
         try have Xg:=Q7 hr XE XK XN XC XY hm hx hy h1 q0
         try have XQ:=Qx (g:=Xj low high) (ps:=rf.Qb) h0 q0
         try have XP:=Qx (g:=QP Qd) (ps:=rf.Qb) h0 q0
         try have Xp:=Qq ((Qg hr).2 i h0 q0).1
         exact⟨⟨⟨(Qv (fun x=>List.all_eq_true.1 (by first|rfl|(cases x <;> rfl)))),trivial⟩,(by have t_:=Q8 (xs) rf.miss rf.seasons (Qa) rf.Qb.length Qa.length (by first|with_reducible assumption|omega|simp_all) (by first|with_reducible assumption|omega|simp_all);rw[q3,q4]at t_;exact t_)⟩,hp40⟩
        cases q5:Ql {Qb:=ys,miss:=rf.miss,seasons:=rf.seasons}with
        |true=>
         cases q6:Qm {Qb:=ys,miss:=rf.miss,seasons:=rf.seasons} Qa with
         |true=>
          try have Xy:=Qn (Qg ‹Ql rf=true›).1
          try have XF:=(Qo ‹Qm rf Qa=true›).1
          try have XG:=Qh (Qp ‹Ql rf=true›) ‹Qm rf Qa=true›
          try have XL:=Qh (Qp ‹Ql rf=true›) ‹Qm rf Qa=true› Qc.toNat
          try have Xg:=Q7 hr XE XK XN XC XY hm hx hy h1 q0
          try have XQ:=Qx (g:=Xj low high) (ps:=rf.Qb) h0 q0
          try have XP:=Qx (g:=QP Qd) (ps:=rf.Qb) h0 q0
          try have Xp:=Qq ((Qg hr).2 i h0 q0).1
          exact(GoE.endsT okF hJ Qi X7 (wx B rf Qa Qc place low high Qd i ms mn xs ys Qr)
           ⟨⟨⟨(Qv (fun x=>List.all_eq_true.1 (by first|rfl|(cases x <;> rfl)))),trivial⟩,(by have t_:=Q8 (ys) rf.miss rf.seasons (Qa) rf.Qb.length Qa.length (by first|with_reducible assumption|omega|simp_all) (by first|with_reducible assumption|omega|simp_all);rw[q5,q6]at t_;exact t_)⟩,hp42⟩).cast (by first|rfl|(exfalso;omega)|(exfalso;obtain⟨e1,e2,e3,e4,e5,e6,e7⟩:=Xg;simp_all;done)|(simp_all;done))
         |false=>
          try have Xy:=Qn (Qg ‹Ql rf=true›).1
          try have XF:=(Qo ‹Qm rf Qa=true›).1
          try have XG:=Qh (Qp ‹Ql rf=true›) ‹Qm rf Qa=true›
          try have XL:=Qh (Qp ‹Ql rf=true›) ‹Qm rf Qa=true› Qc.toNat
          try have Xg:=Q7 hr XE XK XN XC XY hm hx hy h1 q0
          try have XQ:=Qx (g:=Xj low high) (ps:=rf.Qb) h0 q0
          try have XP:=Qx (g:=QP Qd) (ps:=rf.Qb) h0 q0
          try have Xp:=Qq ((Qg hr).2 i h0 q0).1
          exact(GoE.endsT okF hJ Qi X7 (wv B rf Qa Qc place low high Qd i ms mn xs ys Qr)
           ⟨⟨⟨(Qv (fun x=>List.all_eq_true.1 (by first|rfl|(cases x <;> rfl)))),trivial⟩,(by have t_:=Q8 (ys) rf.miss rf.seasons (Qa) rf.Qb.length Qa.length (by first|with_reducible assumption|omega|simp_all) (by first|with_reducible assumption|omega|simp_all);rw[q5,q6]at t_;exact t_)⟩,hp42⟩).cast (by first|rfl|(exfalso;omega)|(exfalso;obtain⟨e1,e2,e3,e4,e5,e6,e7⟩:=Xg;simp_all;done)|(simp_all;done))
        |false=>
         try have Xy:=Qn (Qg ‹Ql rf=true›).1
         try have XF:=(Qo ‹Qm rf Qa=true›).1
         try have XG:=Qh (Qp ‹Ql rf=true›) ‹Qm rf Qa=true›
         try have XL:=Qh (Qp ‹Ql rf=true›) ‹Qm rf Qa=true› Qc.toNat
         try have Xg:=Q7 hr XE XK XN XC XY hm hx hy h1 q0
         try have XQ:=Qx (g:=Xj low high) (ps:=rf.Qb) h0 q0
         try have XP:=Qx (g:=QP Qd) (ps:=rf.Qb) h0 q0
         try have Xp:=Qq ((Qg hr).2 i h0 q0).1
         exact(GoE.endsT okF hJ Qi X7 (wu B rf Qa Qc place low high Qd i ms mn xs ys Qr)
          ⟨⟨⟨(Qv (fun x=>List.all_eq_true.1 (by first|rfl|(cases x <;> rfl)))),trivial⟩,(by have t_:=Q8 (ys) rf.miss rf.seasons (Qa) rf.Qb.length Qa.length (by first|with_reducible assumption|omega|simp_all) (by first|with_reducible assumption|omega|simp_all);rw[q5]at t_;exact t_)⟩,hp42⟩).cast (by first|rfl|(exfalso;omega)|(exfalso;obtain⟨e1,e2,e3,e4,e5,e6,e7⟩:=Xg;simp_all;done)|(simp_all;done))
      |false=>
       have hp43:Q3 (PX B rf Qa Qc place low high Qd i ms mn xs ys Qr):=by
        try have Xy:=Qn (Qg ‹Ql rf=true›).1
        try have XF:=(Qo ‹Qm rf Qa=true›).1
        try have XG:=Qh (Qp ‹Ql rf=true›) ‹Qm rf Qa=true›
        try have XL:=Qh (Qp ‹Ql rf=true›) ‹Qm rf Qa=true› Qc.toNat
        try have Xg:=Q7 hr XE XK XN XC XY hm hx hy h1 q0
        try have XQ:=Qx (g:=Xj low high) (ps:=rf.Qb) h0 q0
        try have XP:=Qx (g:=QP Qd) (ps:=rf.Qb) h0 q0
        try have Xp:=Qq ((Qg hr).2 i h0 q0).1
        exact⟨⟨⟨(Qv (fun x=>List.all_eq_true.1 (by first|rfl|(cases x <;> rfl)))),trivial⟩,(by have t_:=Q8 (xs) rf.miss rf.seasons (Qa) rf.Qb.length Qa.length (by first|with_reducible assumption|omega|simp_all) (by first|with_reducible assumption|omega|simp_all);rw[q3]at t_;exact t_)⟩,hp40⟩
       cases q4:Ql {Qb:=ys,miss:=rf.miss,seasons:=rf.seasons}with
       |true=>
        cases q5:Qm {Qb:=ys,miss:=rf.miss,seasons:=rf.seasons} Qa with
        |true=>
         try have Xy:=Qn (Qg ‹Ql rf=true›).1
         try have XF:=(Qo ‹Qm rf Qa=true›).1
         try have XG:=Qh (Qp ‹Ql rf=true›) ‹Qm rf Qa=true›
         try have XL:=Qh (Qp ‹Ql rf=true›) ‹Qm rf Qa=true› Qc.toNat
         try have Xg:=Q7 hr XE XK XN XC XY hm hx hy h1 q0
         try have XQ:=Qx (g:=Xj low high) (ps:=rf.Qb) h0 q0
         try have XP:=Qx (g:=QP Qd) (ps:=rf.Qb) h0 q0
         try have Xp:=Qq ((Qg hr).2 i h0 q0).1
         exact(GoE.endsT okF hJ Qi X7 (wo B rf Qa Qc place low high Qd i ms mn xs ys Qr)
          ⟨⟨⟨(Qv (fun x=>List.all_eq_true.1 (by first|rfl|(cases x <;> rfl)))),trivial⟩,(by have t_:=Q8 (ys) rf.miss rf.seasons (Qa) rf.Qb.length Qa.length (by first|with_reducible assumption|omega|simp_all) (by first|with_reducible assumption|omega|simp_all);rw[q4,q5]at t_;exact t_)⟩,hp43⟩).cast (by first|rfl|(exfalso;omega)|(exfalso;obtain⟨e1,e2,e3,e4,e5,e6,e7⟩:=Xg;simp_all;done)|(simp_all;done))
        |false=>
         try have Xy:=Qn (Qg ‹Ql rf=true›).1
         try have XF:=(Qo ‹Qm rf Qa=true›).1
         try have XG:=Qh (Qp ‹Ql rf=true›) ‹Qm rf Qa=true›
         try have XL:=Qh (Qp ‹Ql rf=true›) ‹Qm rf Qa=true› Qc.toNat
         try have Xg:=Q7 hr XE XK XN XC XY hm hx hy h1 q0
         try have XQ:=Qx (g:=Xj low high) (ps:=rf.Qb) h0 q0
         try have XP:=Qx (g:=QP Qd) (ps:=rf.Qb) h0 q0
         try have Xp:=Qq ((Qg hr).2 i h0 q0).1
         exact(GoE.endsT okF hJ Qi X7 (wm B rf Qa Qc place low high Qd i ms mn xs ys Qr)
          ⟨⟨⟨(Qv (fun x=>List.all_eq_true.1 (by first|rfl|(cases x <;> rfl)))),trivial⟩,(by have t_:=Q8 (ys) rf.miss rf.seasons (Qa) rf.Qb.length Qa.length (by first|with_reducible assumption|omega|simp_all) (by first|with_reducible assumption|omega|simp_all);rw[q4,q5]at t_;exact t_)⟩,hp43⟩).cast (by first|rfl|(exfalso;omega)|(exfalso;obtain⟨e1,e2,e3,e4,e5,e6,e7⟩:=Xg;simp_all;done)|(simp_all;done))
       |false=>
        try have Xy:=Qn (Qg ‹Ql rf=true›).1
        try have XF:=(Qo ‹Qm rf Qa=true›).1
        try have XG:=Qh (Qp ‹Ql rf=true›) ‹Qm rf Qa=true›
        try have XL:=Qh (Qp ‹Ql rf=true›) ‹Qm rf Qa=true› Qc.toNat
        try have Xg:=Q7 hr XE XK XN XC XY hm hx hy h1 q0
        try have XQ:=Qx (g:=Xj low high) (ps:=rf.Qb) h0 q0
        try have XP:=Qx (g:=QP Qd) (ps:=rf.Qb) h0 q0
        try have Xp:=Qq ((Qg hr).2 i h0 q0).1
        exact(GoE.endsT okF hJ Qi X7 (wk B rf Qa Qc place low high Qd i ms mn xs ys Qr)
         ⟨⟨⟨(Qv (fun x=>List.all_eq_true.1 (by first|rfl|(cases x <;> rfl)))),trivial⟩,(by have t_:=Q8 (ys) rf.miss rf.seasons (Qa) rf.Qb.length Qa.length (by first|with_reducible assumption|omega|simp_all) (by first|with_reducible assumption|omega|simp_all);rw[q4]at t_;exact t_)⟩,hp43⟩).cast (by first|rfl|(exfalso;omega)|(exfalso;obtain⟨e1,e2,e3,e4,e5,e6,e7⟩:=Xg;simp_all;done)|(simp_all;done))
  ·intro bit i hm0 hr XE hl8 XK XN XC XY h0 h1 hb hh ⟨Qr,Jn,X7⟩;have Xy:=Qn (Qg hr).1;have hps:=yu h0;have hpb:=AP (n:=i.toNat) (by omega);have XL:=Qh hr XE Qc.toNat;have hple:=(Qo XE).1;by_cases q0:(i:Int)<(place)
   ·try have Xy:=Qn (Qg ‹Ql rf=true›).1
    try have XF:=(Qo ‹Qm rf Qa=true›).1
    try have XG:=Qh (Qp ‹Ql rf=true›) ‹Qm rf Qa=true›
    try have XL:=Qh (Qp ‹Ql rf=true›) ‹Qm rf Qa=true› Qc.toNat
    try have hie:i=place:=by omega
    try have hmo:Qa.set Qc.toNat (nth Qa Qc+bit)=Ks Qa Qc place:=by have hmm:=qd hh;rw[hb,hie];exact hmm
    exact((ih0 _ (by omega)).2.1 (2*bit) (i+1) rfl (by first|with_reducible assumption|omega|rfl|(exact XA)|(rw[<-hps];omega)|(simp[hb];omega)|exact hmo|(rw[Lf])|(simp_all;done)) (by first|with_reducible assumption|omega|rfl|(exact XA)|(rw[<-hps];omega)|(simp[hb];omega)|exact hmo|(rw[Lf])|(simp_all;done)) (by first|with_reducible assumption|omega|rfl|(exact XA)|(rw[<-hps];omega)|(simp[hb];omega)|exact hmo|(rw[Lf])|(simp_all;done)) (by first|with_reducible assumption|omega|rfl|(exact XA)|(rw[<-hps];omega)|(simp[hb];omega)|exact hmo|(rw[Lf])|(simp_all;done)) (by first|with_reducible assumption|omega|rfl|(exact XA)|(rw[<-hps];omega)|(simp[hb];omega)|exact hmo|(rw[Lf])|(simp_all;done)) (by first|with_reducible assumption|omega|rfl|(exact XA)|(rw[<-hps];omega)|(simp[hb];omega)|exact hmo|(rw[Lf])|(simp_all;done)) (by first|with_reducible assumption|omega|rfl|(exact XA)|(rw[<-hps];omega)|(simp[hb];omega)|exact hmo|(rw[Lf])|(simp_all;done)) (by first|with_reducible assumption|omega|rfl|(exact XA)|(rw[<-hps];omega)|(simp[hb];omega)|exact hmo|(rw[Lf])|(simp_all;done)) (by first|with_reducible assumption|omega|rfl|(exact XA)|(rw[<-hps];omega)|(simp[hb];omega)|exact hmo|(rw[Lf])|(simp_all;done)) (by first|with_reducible assumption|omega|rfl|(exact XA)|(rw[<-hps];omega)|(simp[hb];omega)|exact hmo|(rw[Lf])|(simp_all;done)) (by first|with_reducible assumption|omega|rfl|(exact XA)|(rw[<-hps];omega)|(simp[hb];omega)|exact hmo|(rw[Lf])|(simp_all;done))
     (X7.landM okF hJ Qi (wj B rf Qa Qc place low high Qd bit i Qr)
     ⟨(Xk (Xr (fun x=>List.all_eq_true.1 (by first|rfl|(cases x <;> rfl))))),⟨(XX (by omega) (by omega)),⟨(XX (by omega) (by omega)),⟨(Z3 q0),trivial⟩⟩⟩⟩ (by kernel_rfl) (by kernel_rfl))).cast (by first|rfl|(simp[*];done)|(simp_all[];done)|(simp_all[];omega))
   ·by_cases q1:(Lc rf.Qb:Int)=(0)
    ·exfalso
     (have Xy:=Qn (Qg ‹Ql rf=true›).1;have XF:=(Qo ‹Qm rf Qa=true›).1;omega)
    ·try have Xy:=Qn (Qg ‹Ql rf=true›).1
     try have XF:=(Qo ‹Qm rf Qa=true›).1
     try have XG:=Qh (Qp ‹Ql rf=true›) ‹Qm rf Qa=true›
     try have XL:=Qh (Qp ‹Ql rf=true›) ‹Qm rf Qa=true› Qc.toNat
     try have hie:i=place:=by omega
     try have hmo:Qa.set Qc.toNat (nth Qa Qc+bit)=Ks Qa Qc place:=by have hmm:=qd hh;rw[hb,hie];exact hmm
     exact((ih0 _ (by omega)).1 (0) (Lw Qa Qc.toNat (Qa.getD Qc.toNat La+bit)) Qa.length rf.Qb rf.Qb rfl (by first|with_reducible assumption|omega|exact Xg.1|exact Xg.2.1|rfl|exact(Xi ‹_›)|(rw[Lf])|(rw[Lf];rfl)|(exact XA)|(rw[hx,XQ];exact QO h0 q0)|(rw[hy,XP];exact QO h0 q0)|(simp_all;done)) (by first|with_reducible assumption|omega|exact Xg.1|exact Xg.2.1|rfl|exact(Xi ‹_›)|(rw[Lf])|(rw[Lf];rfl)|(exact XA)|(rw[hx,XQ];exact QO h0 q0)|(rw[hy,XP];exact QO h0 q0)|(simp_all;done)) (by first|with_reducible assumption|omega|exact Xg.1|exact Xg.2.1|rfl|exact(Xi ‹_›)|(rw[Lf])|(rw[Lf];rfl)|(exact XA)|(rw[hx,XQ];exact QO h0 q0)|(rw[hy,XP];exact QO h0 q0)|(simp_all;done)) (by first|with_reducible assumption|omega|exact Xg.1|exact Xg.2.1|rfl|exact(Xi ‹_›)|(rw[Lf])|(rw[Lf];rfl)|(exact XA)|(rw[hx,XQ];exact QO h0 q0)|(rw[hy,XP];exact QO h0 q0)|(simp_all;done)) (by first|with_reducible assumption|omega|exact Xg.1|exact Xg.2.1|rfl|exact(Xi ‹_›)|(rw[Lf])|(rw[Lf];rfl)|(exact XA)|(rw[hx,XQ];exact QO h0 q0)|(rw[hy,XP];exact QO h0 q0)|(simp_all;done)) (by first|with_reducible assumption|omega|exact Xg.1|exact Xg.2.1|rfl|exact(Xi ‹_›)|(rw[Lf])|(rw[Lf];rfl)|(exact XA)|(rw[hx,XQ];exact QO h0 q0)|(rw[hy,XP];exact QO h0 q0)|(simp_all;done)) (by first|with_reducible assumption|omega|exact Xg.1|exact Xg.2.1|rfl|exact(Xi ‹_›)|(rw[Lf])|(rw[Lf];rfl)|(exact XA)|(rw[hx,XQ];exact QO h0 q0)|(rw[hy,XP];exact QO h0 q0)|(simp_all;done)) (by first|with_reducible assumption|omega|exact Xg.1|exact Xg.2.1|rfl|exact(Xi ‹_›)|(rw[Lf])|(rw[Lf];rfl)|(exact XA)|(rw[hx,XQ];exact QO h0 q0)|(rw[hy,XP];exact QO h0 q0)|(simp_all;done)) (by first|with_reducible assumption|omega|exact Xg.1|exact Xg.2.1|rfl|exact(Xi ‹_›)|(rw[Lf])|(rw[Lf];rfl)|(exact XA)|(rw[hx,XQ];exact QO h0 q0)|(rw[hy,XP];exact QO h0 q0)|(simp_all;done)) (by first|with_reducible assumption|omega|exact Xg.1|exact Xg.2.1|rfl|exact(Xi ‹_›)|(rw[Lf])|(rw[Lf];rfl)|(exact XA)|(rw[hx,XQ];exact QO h0 q0)|(rw[hy,XP];exact QO h0 q0)|(simp_all;done)) (by first|with_reducible assumption|omega|exact Xg.1|exact Xg.2.1|rfl|exact(Xi ‹_›)|(rw[Lf])|(rw[Lf];rfl)|(exact XA)|(rw[hx,XQ];exact QO h0 q0)|(rw[hy,XP];exact QO h0 q0)|(simp_all;done)) (by first|with_reducible assumption|omega|exact Xg.1|exact Xg.2.1|rfl|exact(Xi ‹_›)|(rw[Lf])|(rw[Lf];rfl)|(exact XA)|(rw[hx,XQ];exact QO h0 q0)|(rw[hy,XP];exact QO h0 q0)|(simp_all;done)) (by first|with_reducible assumption|omega|exact Xg.1|exact Xg.2.1|rfl|exact(Xi ‹_›)|(rw[Lf])|(rw[Lf];rfl)|(exact XA)|(rw[hx,XQ];exact QO h0 q0)|(rw[hy,XP];exact QO h0 q0)|(simp_all;done))
      (X7.landM okF hJ Qi (wi B rf Qa Qc place low high Qd bit i Qr)
      ⟨(Xk (Xr (fun x=>List.all_eq_true.1 (by first|rfl|(cases x <;> rfl))))),⟨(Xk (Xr (fun x=>List.all_eq_true.1 (by first|rfl|(cases x <;> rfl))))),⟨(Xk (Xr (fun x=>List.all_eq_true.1 (by first|rfl|(cases x <;> rfl))))),⟨⟨by omega,(by unfold maxLen;omega),by omega,(by first|rfl|exact Z6 (z:=12) (fun _=>rfl)|(rw[Z6 (z:=12) (fun _=>rfl)];first|omega|(simp;omega)|(simp_all;done))),Kb (fun _=>rfl) _⟩,⟨⟨by omega,(by unfold maxLen;omega),by omega,(by first|rfl|exact Z6 (z:=12) (fun _=>rfl)|(rw[Z6 (z:=12) (fun _=>rfl)];first|omega|(simp;omega)|(simp_all;done))),Kb (fun _=>rfl) _⟩,⟨(by first|exact mJ (z:=1) (k:=Lb Qc) (fun _=>rfl) (by first|omega|(rw[Lf];omega)|(rw[Lh];omega)) rfl|exact KM (z:=1) (k:=Lb Qc) (fun _=>rfl) (by first|omega|(rw[Lf];omega)|(rw[Lh];omega)) rfl rfl),⟨⟨by omega,by omega⟩,⟨(XX (by omega) (by omega)),⟨(by exact oQ (z:=1) (j:=0) (k:=Lb Qc) (fun _=>rfl) (by first|omega|(rw[Lf];omega)|(rw[Lh];omega)) rfl),⟨⟨by omega,by omega⟩,⟨(Z4 (Int.not_lt.1 q0)),trivial⟩⟩⟩⟩⟩⟩⟩⟩⟩⟩⟩ (by kernel_rfl) (by kernel_rfl))).cast (by first|rfl|(simp[*];done)|(simp_all[];done)|(simp_all[];omega))
  ·intro ms xs ys s hm0 hr XE hl8 XK XN XC XY hm hx hy s0 s1 ⟨Qr,Jn,X7⟩;have Xy:=Qn (Qg hr).1;have hxl:xs.length=rf.Qb.length:=by rw[hx,Pe,XR];omega
   have hyl:ys.length=rf.Qb.length:=by rw[hy,Pe,XR];omega
   have hl0:=ZR (rf:=rf) (Qa:=Qa);have hl1:=ZR (rf:=rf) (Qa:=ms);have hl2:(Qt ⟨xs,rf.miss,rf.seasons⟩ Qa).length=rf.seasons.toNat:=ZR;have hl3:(Qt ⟨ys,rf.miss,rf.seasons⟩ Qa).length=rf.seasons.toNat:=ZR;by_cases q0:(s:Int)<((↑(Lc (Qt rf Qa)):Int))
   ·have hp44:Q3 (bO B rf Qa Qc place low high Qd ms xs ys s Qr):=by
     try have Xy:=Qn (Qg ‹Ql rf=true›).1
     try have XF:=(Qo ‹Qm rf Qa=true›).1
     try have XG:=Qh (Qp ‹Ql rf=true›) ‹Qm rf Qa=true›
     try have XL:=Qh (Qp ‹Ql rf=true›) ‹Qm rf Qa=true› Qc.toNat
     try have Yj:=QQ (rf:=rf) (Qa:=Qa) (s:=s) s0 (by omega)
     try have V6:=QQ (rf:=rf) (Qa:=ms) (s:=s) s0 (by show s<rf.seasons;omega)
     try have hrc:((Qt ⟨xs,rf.miss,rf.seasons⟩ Qa).getD s.toNat La).length=xs.length:=QQ s0 (show s<rf.seasons by omega)
     try have hrd:((Qt ⟨ys,rf.miss,rf.seasons⟩ Qa).getD s.toNat La).length=ys.length:=QQ s0 (show s<rf.seasons by omega)
     exact⟨⟨by omega,by omega,(QW (z:=1) (fun _=>rfl) (by first|omega|(rw[Lf];omega)|(rw[Lh];omega)))⟩,⟨(Z3 q0),trivial⟩⟩
    by_cases q1:((↑(Lc (Ld (Qt rf Qa) s.toNat La)):Int):Int)≠((↑rf.Qb.length:Int))
    ·try have Xy:=Qn (Qg ‹Ql rf=true›).1
     try have XF:=(Qo ‹Qm rf Qa=true›).1
     try have XG:=Qh (Qp ‹Ql rf=true›) ‹Qm rf Qa=true›
     try have XL:=Qh (Qp ‹Ql rf=true›) ‹Qm rf Qa=true› Qc.toNat
     try have Yj:=QQ (rf:=rf) (Qa:=Qa) (s:=s) s0 (by omega)
     try have V6:=QQ (rf:=rf) (Qa:=ms) (s:=s) s0 (by show s<rf.seasons;omega)
     try have hrc:((Qt ⟨xs,rf.miss,rf.seasons⟩ Qa).getD s.toNat La).length=xs.length:=QQ s0 (show s<rf.seasons by omega)
     try have hrd:((Qt ⟨ys,rf.miss,rf.seasons⟩ Qa).getD s.toNat La).length=ys.length:=QQ s0 (show s<rf.seasons by omega)
     exact(GoE.endsT okF hJ Qi X7 (wh B rf Qa Qc place low high Qd ms xs ys s Qr)
      ⟨(JT q1),hp44⟩).cast (by first|rfl|(exfalso;omega)|(exfalso;simp_all;done)|(simp_all;done))
    ·have hp45:Q3 (bN B rf Qa Qc place low high Qd ms xs ys s Qr):=by
      try have Xy:=Qn (Qg ‹Ql rf=true›).1
      try have XF:=(Qo ‹Qm rf Qa=true›).1
      try have XG:=Qh (Qp ‹Ql rf=true›) ‹Qm rf Qa=true›
      try have XL:=Qh (Qp ‹Ql rf=true›) ‹Qm rf Qa=true› Qc.toNat
      try have Yj:=QQ (rf:=rf) (Qa:=Qa) (s:=s) s0 (by omega)
      try have V6:=QQ (rf:=rf) (Qa:=ms) (s:=s) s0 (by show s<rf.seasons;omega)
      try have hrc:((Qt ⟨xs,rf.miss,rf.seasons⟩ Qa).getD s.toNat La).length=xs.length:=QQ s0 (show s<rf.seasons by omega)
      try have hrd:((Qt ⟨ys,rf.miss,rf.seasons⟩ Qa).getD s.toNat La).length=ys.length:=QQ s0 (show s<rf.seasons by omega)
      exact⟨⟨by omega,by omega,(QW (z:=1) (fun _=>rfl) (by first|omega|(rw[Lf];omega)|(rw[Lh];omega)))⟩,⟨⟨by omega,by omega,(QW (z:=1) (fun _=>rfl) (by first|omega|(rw[Lf];omega)|(rw[Lh];omega)))⟩,⟨(JU (Decidable.of_not_not q1)),hp44⟩⟩⟩
     by_cases q2:((↑(Lc (Ld (Qt rf ms) s.toNat La)):Int):Int)≠((↑(Lc (Ld (Qt rf Qa) s.toNat La)):Int))
     ·try have Xy:=Qn (Qg ‹Ql rf=true›).1
      try have XF:=(Qo ‹Qm rf Qa=true›).1
      try have XG:=Qh (Qp ‹Ql rf=true›) ‹Qm rf Qa=true›
      try have XL:=Qh (Qp ‹Ql rf=true›) ‹Qm rf Qa=true› Qc.toNat
      try have Yj:=QQ (rf:=rf) (Qa:=Qa) (s:=s) s0 (by omega)
      try have V6:=QQ (rf:=rf) (Qa:=ms) (s:=s) s0 (by show s<rf.seasons;omega)
      try have hrc:((Qt ⟨xs,rf.miss,rf.seasons⟩ Qa).getD s.toNat La).length=xs.length:=QQ s0 (show s<rf.seasons by omega)
      try have hrd:((Qt ⟨ys,rf.miss,rf.seasons⟩ Qa).getD s.toNat La).length=ys.length:=QQ s0 (show s<rf.seasons by omega)
      exact(GoE.endsT okF hJ Qi X7 (wg B rf Qa Qc place low high Qd ms xs ys s Qr)
       ⟨(JT q2),hp45⟩).cast (by first|rfl|(exfalso;omega)|(exfalso;simp_all;done)|(simp_all;done))
     ·have hp46:Q3 (bM B rf Qa Qc place low high Qd ms xs ys s Qr):=by
       try have Xy:=Qn (Qg ‹Ql rf=true›).1
       try have XF:=(Qo ‹Qm rf Qa=true›).1
       try have XG:=Qh (Qp ‹Ql rf=true›) ‹Qm rf Qa=true›
       try have XL:=Qh (Qp ‹Ql rf=true›) ‹Qm rf Qa=true› Qc.toNat
       try have Yj:=QQ (rf:=rf) (Qa:=Qa) (s:=s) s0 (by omega)
       try have V6:=QQ (rf:=rf) (Qa:=ms) (s:=s) s0 (by show s<rf.seasons;omega)
       try have hrc:((Qt ⟨xs,rf.miss,rf.seasons⟩ Qa).getD s.toNat La).length=xs.length:=QQ s0 (show s<rf.seasons by omega)
       try have hrd:((Qt ⟨ys,rf.miss,rf.seasons⟩ Qa).getD s.toNat La).length=ys.length:=QQ s0 (show s<rf.seasons by omega)
       exact⟨⟨by omega,by omega,(QW (z:=1) (fun _=>rfl) (by first|omega|(rw[Lf];omega)|(rw[Lh];omega)))⟩,⟨⟨by omega,by omega,(QW (z:=1) (fun _=>rfl) (by first|omega|(rw[Lf];omega)|(rw[Lh];omega)))⟩,⟨(JU (Decidable.of_not_not q2)),hp45⟩⟩⟩
      by_cases q3:((↑(Lc (Ld (Qt {Qb:=xs,miss:=rf.miss,seasons:=rf.seasons} Qa) s.toNat La)):Int):Int)≠((↑(Lc (Ld (Qt rf Qa) s.toNat La)):Int))
      ·try have Xy:=Qn (Qg ‹Ql rf=true›).1
       try have XF:=(Qo ‹Qm rf Qa=true›).1
       try have XG:=Qh (Qp ‹Ql rf=true›) ‹Qm rf Qa=true›
       try have XL:=Qh (Qp ‹Ql rf=true›) ‹Qm rf Qa=true› Qc.toNat
       try have Yj:=QQ (rf:=rf) (Qa:=Qa) (s:=s) s0 (by omega)
       try have V6:=QQ (rf:=rf) (Qa:=ms) (s:=s) s0 (by show s<rf.seasons;omega)
       try have hrc:((Qt ⟨xs,rf.miss,rf.seasons⟩ Qa).getD s.toNat La).length=xs.length:=QQ s0 (show s<rf.seasons by omega)
       try have hrd:((Qt ⟨ys,rf.miss,rf.seasons⟩ Qa).getD s.toNat La).length=ys.length:=QQ s0 (show s<rf.seasons by omega)
       exact(GoE.endsT okF hJ Qi X7 (we B rf Qa Qc place low high Qd ms xs ys s Qr)
        ⟨(JT q3),hp46⟩).cast (by first|rfl|(exfalso;omega)|(exfalso;simp_all;done)|(simp_all;done))
      ·have hp47:Q3 (bL B rf Qa Qc place low high Qd ms xs ys s Qr):=by
        try have Xy:=Qn (Qg ‹Ql rf=true›).1
        try have XF:=(Qo ‹Qm rf Qa=true›).1
        try have XG:=Qh (Qp ‹Ql rf=true›) ‹Qm rf Qa=true›
        try have XL:=Qh (Qp ‹Ql rf=true›) ‹Qm rf Qa=true› Qc.toNat
        try have Yj:=QQ (rf:=rf) (Qa:=Qa) (s:=s) s0 (by omega)
        try have V6:=QQ (rf:=rf) (Qa:=ms) (s:=s) s0 (by show s<rf.seasons;omega)
        try have hrc:((Qt ⟨xs,rf.miss,rf.seasons⟩ Qa).getD s.toNat La).length=xs.length:=QQ s0 (show s<rf.seasons by omega)
        try have hrd:((Qt ⟨ys,rf.miss,rf.seasons⟩ Qa).getD s.toNat La).length=ys.length:=QQ s0 (show s<rf.seasons by omega)
        exact⟨⟨by omega,by omega,(QW (z:=1) (fun _=>rfl) (by first|omega|(rw[Lf];omega)|(rw[Lh];omega)))⟩,⟨⟨by omega,by omega,(QW (z:=1) (fun _=>rfl) (by first|omega|(rw[Lf];omega)|(rw[Lh];omega)))⟩,⟨(JU (Decidable.of_not_not q3)),hp46⟩⟩⟩
       by_cases q4:((↑(Lc (Ld (Qt {Qb:=ys,miss:=rf.miss,seasons:=rf.seasons} Qa) s.toNat La)):Int):Int)≠((↑(Lc (Ld (Qt rf Qa) s.toNat La)):Int))
       ·try have Xy:=Qn (Qg ‹Ql rf=true›).1
        try have XF:=(Qo ‹Qm rf Qa=true›).1
        try have XG:=Qh (Qp ‹Ql rf=true›) ‹Qm rf Qa=true›
        try have XL:=Qh (Qp ‹Ql rf=true›) ‹Qm rf Qa=true› Qc.toNat
        try have Yj:=QQ (rf:=rf) (Qa:=Qa) (s:=s) s0 (by omega)
        try have V6:=QQ (rf:=rf) (Qa:=ms) (s:=s) s0 (by show s<rf.seasons;omega)
        try have hrc:((Qt ⟨xs,rf.miss,rf.seasons⟩ Qa).getD s.toNat La).length=xs.length:=QQ s0 (show s<rf.seasons by omega)
        try have hrd:((Qt ⟨ys,rf.miss,rf.seasons⟩ Qa).getD s.toNat La).length=ys.length:=QQ s0 (show s<rf.seasons by omega)
        exact(GoE.endsT okF hJ Qi X7 (wc B rf Qa Qc place low high Qd ms xs ys s Qr)
         ⟨(JT q4),hp47⟩).cast (by first|rfl|(exfalso;omega)|(exfalso;simp_all;done)|(simp_all;done))
       ·try have Xy:=Qn (Qg ‹Ql rf=true›).1
        try have XF:=(Qo ‹Qm rf Qa=true›).1
        try have XG:=Qh (Qp ‹Ql rf=true›) ‹Qm rf Qa=true›
        try have XL:=Qh (Qp ‹Ql rf=true›) ‹Qm rf Qa=true› Qc.toNat
        try have Yj:=QQ (rf:=rf) (Qa:=Qa) (s:=s) s0 (by omega)
        try have V6:=QQ (rf:=rf) (Qa:=ms) (s:=s) s0 (by show s<rf.seasons;omega)
        try have hrc:((Qt ⟨xs,rf.miss,rf.seasons⟩ Qa).getD s.toNat La).length=xs.length:=QQ s0 (show s<rf.seasons by omega)
        try have hrd:((Qt ⟨ys,rf.miss,rf.seasons⟩ Qa).getD s.toNat La).length=ys.length:=QQ s0 (show s<rf.seasons by omega)
        exact((ih0 _ (by omega)).2.2.2 (ms) (xs) (ys) (s) (0) rfl (by first|with_reducible assumption|omega|rfl|(simp_all;done)) (by first|with_reducible assumption|omega|rfl|(simp_all;done)) (by first|with_reducible assumption|omega|rfl|(simp_all;done)) (by first|with_reducible assumption|omega|rfl|(simp_all;done)) (by first|with_reducible assumption|omega|rfl|(simp_all;done)) (by first|with_reducible assumption|omega|rfl|(simp_all;done)) (by first|with_reducible assumption|omega|rfl|(simp_all;done)) (by first|with_reducible assumption|omega|rfl|(simp_all;done)) (by first|with_reducible assumption|omega|rfl|(simp_all;done)) (by first|with_reducible assumption|omega|rfl|(simp_all;done)) (by first|with_reducible assumption|omega|rfl|(simp_all;done)) (by first|with_reducible assumption|omega|rfl|(simp_all;done)) (by first|with_reducible assumption|omega|rfl|(simp_all;done)) (by first|with_reducible assumption|omega|rfl|(simp_all;done))
         (X7.landM okF hJ Qi (wb B rf Qa Qc place low high Qd ms xs ys s Qr)
         ⟨(JU (Decidable.of_not_not q4)),hp47⟩ (by kernel_rfl) (by kernel_rfl))).cast (by first|rfl|(exfalso;omega)|(exfalso;simp_all;done)|(simp_all;done))
   ·exact(GoE.endsT okF hJ Qi X7 (wa B rf Qa Qc place low high Qd ms xs ys s Qr)
     ⟨⟨trivial,known⟩,⟨(Z4 (Int.not_lt.1 q0)),trivial⟩⟩).cast rfl
  ·intro ms xs ys s i hm0 hr XE hl8 XK XN XC XY hm hx hy s0 s1 h0 h1 ⟨Qr,Jn,X7⟩;have Xy:=Qn (Qg hr).1;have hl0:=ZR (rf:=rf) (Qa:=Qa);have hl1:=ZR (rf:=rf) (Qa:=ms);have hl2:(Qt ⟨xs,rf.miss,rf.seasons⟩ Qa).length=rf.seasons.toNat:=ZR;have hl3:(Qt ⟨ys,rf.miss,rf.seasons⟩ Qa).length=rf.seasons.toNat:=ZR;have hxl:xs.length=rf.Qb.length:=by rw[hx,Pe,XR];omega
   have hyl:ys.length=rf.Qb.length:=by rw[hy,Pe,XR];omega
   have Yj:=QQ (rf:=rf) (Qa:=Qa) s0 s1;have V6:=QQ (rf:=rf) (Qa:=ms) s0 s1;have hrc:((Qt ⟨xs,rf.miss,rf.seasons⟩ Qa).getD s.toNat La).length=xs.length:=QQ s0 s1;have hrd:((Qt ⟨ys,rf.miss,rf.seasons⟩ Qa).getD s.toNat La).length=ys.length:=QQ s0 s1;have hp48:Q3 (bK B rf Qa Qc place low high Qd ms xs ys s i Qr):=by
    try have Xy:=Qn (Qg ‹Ql rf=true›).1
    try have XF:=(Qo ‹Qm rf Qa=true›).1
    try have XG:=Qh (Qp ‹Ql rf=true›) ‹Qm rf Qa=true›
    try have XL:=Qh (Qp ‹Ql rf=true›) ‹Qm rf Qa=true› Qc.toNat
    try have Ww:=Zp (s:=s) (i:=i) hr XE XK XN XC XY hm hx hy s0 s1 h0 (by omega)
    exact⟨⟨by omega,by omega,(QW (z:=1) (fun _=>rfl) (by first|omega|(rw[Lf];omega)|(rw[Lh];omega)))⟩,trivial⟩
   by_cases q0:(i:Int)<((↑(Lc (Ld (Qt rf Qa) s.toNat La)):Int))
   ·have hp49:Q3 (bJ B rf Qa Qc place low high Qd ms xs ys s i Qr):=by
     try have Xy:=Qn (Qg ‹Ql rf=true›).1
     try have XF:=(Qo ‹Qm rf Qa=true›).1
     try have XG:=Qh (Qp ‹Ql rf=true›) ‹Qm rf Qa=true›
     try have XL:=Qh (Qp ‹Ql rf=true›) ‹Qm rf Qa=true› Qc.toNat
     try have Ww:=Zp (s:=s) (i:=i) hr XE XK XN XC XY hm hx hy s0 s1 h0 (by omega)
     exact⟨⟨by omega,by omega,(QW (z:=2) (fun _=>rfl) (by first|omega|(rw[Lf];omega)|(rw[Lh];omega)))⟩,⟨⟨by omega,by omega,(QW (z:=1) (fun _=>rfl) (by first|omega|(rw[Lf];omega)|(rw[Lh];omega)))⟩,⟨⟨by omega,by omega,(QW (z:=2) (fun _=>rfl) (by first|omega|(rw[Lf];omega)|(rw[Lh];omega)))⟩,⟨⟨by omega,by omega,(QW (z:=1) (fun _=>rfl) (by first|omega|(rw[Lf];omega)|(rw[Lh];omega)))⟩,⟨(Z3 q0),hp48⟩⟩⟩⟩⟩
    by_cases q1:(Span.lo (Ld (Ld (Qt rf ms) s.toNat La) i.toNat La):Int)<(Span.lo (Ld (Ld (Qt rf Qa) s.toNat La) i.toNat La))
    ·try have Xy:=Qn (Qg ‹Ql rf=true›).1
     try have XF:=(Qo ‹Qm rf Qa=true›).1
     try have XG:=Qh (Qp ‹Ql rf=true›) ‹Qm rf Qa=true›
     try have XL:=Qh (Qp ‹Ql rf=true›) ‹Qm rf Qa=true› Qc.toNat
     try have Ww:=Zp (s:=s) (i:=i) hr XE XK XN XC XY hm hx hy s0 s1 h0 (by omega)
     exact(GoE.endsT okF hJ Qi X7 (vZ B rf Qa Qc place low high Qd ms xs ys s i Qr)
      ⟨(Z3 q1),hp49⟩).cast (by first|rfl|(exfalso;omega)|(exfalso;simp_all;done)|(simp_all;done))
    ·have hp50:Q3 (bI B rf Qa Qc place low high Qd ms xs ys s i Qr):=by
      try have Xy:=Qn (Qg ‹Ql rf=true›).1
      try have XF:=(Qo ‹Qm rf Qa=true›).1
      try have XG:=Qh (Qp ‹Ql rf=true›) ‹Qm rf Qa=true›
      try have XL:=Qh (Qp ‹Ql rf=true›) ‹Qm rf Qa=true› Qc.toNat
      try have Ww:=Zp (s:=s) (i:=i) hr XE XK XN XC XY hm hx hy s0 s1 h0 (by omega)
      exact⟨⟨by omega,by omega,(QW (z:=2) (fun _=>rfl) (by first|omega|(rw[Lf];omega)|(rw[Lh];omega)))⟩,⟨⟨by omega,by omega,(QW (z:=1) (fun _=>rfl) (by first|omega|(rw[Lf];omega)|(rw[Lh];omega)))⟩,⟨(Z4 (Int.not_lt.1 q1)),hp49⟩⟩⟩
     by_cases q2:(Span.hi (Ld (Ld (Qt rf ms) s.toNat La) i.toNat La):Int)<(Span.hi (Ld (Ld (Qt rf Qa) s.toNat La) i.toNat La))
     ·try have Xy:=Qn (Qg ‹Ql rf=true›).1
      try have XF:=(Qo ‹Qm rf Qa=true›).1
      try have XG:=Qh (Qp ‹Ql rf=true›) ‹Qm rf Qa=true›
      try have XL:=Qh (Qp ‹Ql rf=true›) ‹Qm rf Qa=true› Qc.toNat
      try have Ww:=Zp (s:=s) (i:=i) hr XE XK XN XC XY hm hx hy s0 s1 h0 (by omega)
      exact(GoE.endsT okF hJ Qi X7 (vY B rf Qa Qc place low high Qd ms xs ys s i Qr)
       ⟨(Z3 q2),hp50⟩).cast (by first|rfl|(exfalso;omega)|(exfalso;simp_all;done)|(simp_all;done))
     ·have hp51:Q3 (bH B rf Qa Qc place low high Qd ms xs ys s i Qr):=by
       try have Xy:=Qn (Qg ‹Ql rf=true›).1
       try have XF:=(Qo ‹Qm rf Qa=true›).1
       try have XG:=Qh (Qp ‹Ql rf=true›) ‹Qm rf Qa=true›
       try have XL:=Qh (Qp ‹Ql rf=true›) ‹Qm rf Qa=true› Qc.toNat
       try have Ww:=Zp (s:=s) (i:=i) hr XE XK XN XC XY hm hx hy s0 s1 h0 (by omega)
       exact⟨⟨by omega,by omega,(QW (z:=2) (fun _=>rfl) (by first|omega|(rw[Lf];omega)|(rw[Lh];omega)))⟩,⟨⟨by omega,by omega,(QW (z:=1) (fun _=>rfl) (by first|omega|(rw[Lf];omega)|(rw[Lh];omega)))⟩,⟨(Z4 (Int.not_lt.1 q2)),hp50⟩⟩⟩
      by_cases q3:(Span.lo (Ld (Ld (Qt {Qb:=ys,miss:=rf.miss,seasons:=rf.seasons} Qa) s.toNat La) i.toNat La):Int)<(Span.lo (Ld (Ld (Qt rf Qa) s.toNat La) i.toNat La))
      ·try have Xy:=Qn (Qg ‹Ql rf=true›).1
       try have XF:=(Qo ‹Qm rf Qa=true›).1
       try have XG:=Qh (Qp ‹Ql rf=true›) ‹Qm rf Qa=true›
       try have XL:=Qh (Qp ‹Ql rf=true›) ‹Qm rf Qa=true› Qc.toNat
       try have Ww:=Zp (s:=s) (i:=i) hr XE XK XN XC XY hm hx hy s0 s1 h0 (by omega)
       exact(GoE.endsT okF hJ Qi X7 (vX B rf Qa Qc place low high Qd ms xs ys s i Qr)
        ⟨(Z3 q3),hp51⟩).cast (by first|rfl|(exfalso;omega)|(exfalso;simp_all;done)|(simp_all;done))
      ·have hp52:Q3 (bG B rf Qa Qc place low high Qd ms xs ys s i Qr):=by
        try have Xy:=Qn (Qg ‹Ql rf=true›).1
        try have XF:=(Qo ‹Qm rf Qa=true›).1
        try have XG:=Qh (Qp ‹Ql rf=true›) ‹Qm rf Qa=true›
        try have XL:=Qh (Qp ‹Ql rf=true›) ‹Qm rf Qa=true› Qc.toNat
        try have Ww:=Zp (s:=s) (i:=i) hr XE XK XN XC XY hm hx hy s0 s1 h0 (by omega)
        exact⟨⟨by omega,by omega,(QW (z:=2) (fun _=>rfl) (by first|omega|(rw[Lf];omega)|(rw[Lh];omega)))⟩,⟨⟨by omega,by omega,(QW (z:=1) (fun _=>rfl) (by first|omega|(rw[Lf];omega)|(rw[Lh];omega)))⟩,⟨(Z4 (Int.not_lt.1 q3)),hp51⟩⟩⟩
       by_cases q4:(Span.hi (Ld (Ld (Qt {Qb:=ys,miss:=rf.miss,seasons:=rf.seasons} Qa) s.toNat La) i.toNat La):Int)<(Span.hi (Ld (Ld (Qt rf Qa) s.toNat La) i.toNat La))
       ·try have Xy:=Qn (Qg ‹Ql rf=true›).1
        try have XF:=(Qo ‹Qm rf Qa=true›).1
        try have XG:=Qh (Qp ‹Ql rf=true›) ‹Qm rf Qa=true›
        try have XL:=Qh (Qp ‹Ql rf=true›) ‹Qm rf Qa=true› Qc.toNat
        try have Ww:=Zp (s:=s) (i:=i) hr XE XK XN XC XY hm hx hy s0 s1 h0 (by omega)
        exact(GoE.endsT okF hJ Qi X7 (vW B rf Qa Qc place low high Qd ms xs ys s i Qr)
         ⟨(Z3 q4),hp52⟩).cast (by first|rfl|(exfalso;omega)|(exfalso;simp_all;done)|(simp_all;done))
       ·have hp53:Q3 (bF B rf Qa Qc place low high Qd ms xs ys s i Qr):=by
         try have Xy:=Qn (Qg ‹Ql rf=true›).1
         try have XF:=(Qo ‹Qm rf Qa=true›).1
         try have XG:=Qh (Qp ‹Ql rf=true›) ‹Qm rf Qa=true›
         try have XL:=Qh (Qp ‹Ql rf=true›) ‹Qm rf Qa=true› Qc.toNat
         try have Ww:=Zp (s:=s) (i:=i) hr XE XK XN XC XY hm hx hy s0 s1 h0 (by omega)
         exact⟨⟨by omega,by omega,(QW (z:=2) (fun _=>rfl) (by first|omega|(rw[Lf];omega)|(rw[Lh];omega)))⟩,⟨⟨by omega,by omega,(QW (z:=1) (fun _=>rfl) (by first|omega|(rw[Lf];omega)|(rw[Lh];omega)))⟩,⟨(Z4 (Int.not_lt.1 q4)),hp52⟩⟩⟩
        by_cases q5:(Span.lo (Ld (Ld (Qt {Qb:=xs,miss:=rf.miss,seasons:=rf.seasons} Qa) s.toNat La) i.toNat La):Int)<(Span.lo (Ld (Ld (Qt rf Qa) s.toNat La) i.toNat La))
        ·try have Xy:=Qn (Qg ‹Ql rf=true›).1
         try have XF:=(Qo ‹Qm rf Qa=true›).1
         try have XG:=Qh (Qp ‹Ql rf=true›) ‹Qm rf Qa=true›
         try have XL:=Qh (Qp ‹Ql rf=true›) ‹Qm rf Qa=true› Qc.toNat
         try have Ww:=Zp (s:=s) (i:=i) hr XE XK XN XC XY hm hx hy s0 s1 h0 (by omega)
         exact(GoE.endsT okF hJ Qi X7 (vV B rf Qa Qc place low high Qd ms xs ys s i Qr)
          ⟨(Z3 q5),hp53⟩).cast (by first|rfl|(exfalso;omega)|(exfalso;simp_all;done)|(simp_all;done))
        ·have hp54:Q3 (bE B rf Qa Qc place low high Qd ms xs ys s i Qr):=by
          try have Xy:=Qn (Qg ‹Ql rf=true›).1
          try have XF:=(Qo ‹Qm rf Qa=true›).1
          try have XG:=Qh (Qp ‹Ql rf=true›) ‹Qm rf Qa=true›
          try have XL:=Qh (Qp ‹Ql rf=true›) ‹Qm rf Qa=true› Qc.toNat
          try have Ww:=Zp (s:=s) (i:=i) hr XE XK XN XC XY hm hx hy s0 s1 h0 (by omega)
          exact⟨⟨by omega,by omega,(QW (z:=2) (fun _=>rfl) (by first|omega|(rw[Lf];omega)|(rw[Lh];omega)))⟩,⟨⟨by omega,by omega,(QW (z:=1) (fun _=>rfl) (by first|omega|(rw[Lf];omega)|(rw[Lh];omega)))⟩,⟨(Z4 (Int.not_lt.1 q5)),hp53⟩⟩⟩
         by_cases q6:(Span.hi (Ld (Ld (Qt rf Qa) s.toNat La) i.toNat La):Int)<(Span.hi (Ld (Ld (Qt {Qb:=xs,miss:=rf.miss,seasons:=rf.seasons} Qa) s.toNat La) i.toNat La))
         ·try have Xy:=Qn (Qg ‹Ql rf=true›).1
          try have XF:=(Qo ‹Qm rf Qa=true›).1
          try have XG:=Qh (Qp ‹Ql rf=true›) ‹Qm rf Qa=true›
          try have XL:=Qh (Qp ‹Ql rf=true›) ‹Qm rf Qa=true› Qc.toNat
          try have Ww:=Zp (s:=s) (i:=i) hr XE XK XN XC XY hm hx hy s0 s1 h0 (by omega)
          exact(GoE.endsT okF hJ Qi X7 (vU B rf Qa Qc place low high Qd ms xs ys s i Qr)
           ⟨(Z3 q6),hp54⟩).cast (by first|rfl|(exfalso;omega)|(exfalso;simp_all;done)|(simp_all;done))
         ·try have Xy:=Qn (Qg ‹Ql rf=true›).1
          try have XF:=(Qo ‹Qm rf Qa=true›).1
          try have XG:=Qh (Qp ‹Ql rf=true›) ‹Qm rf Qa=true›
          try have XL:=Qh (Qp ‹Ql rf=true›) ‹Qm rf Qa=true› Qc.toNat
          try have Ww:=Zp (s:=s) (i:=i) hr XE XK XN XC XY hm hx hy s0 s1 h0 (by omega)
          exact((ih0 _ (by omega)).2.2.2 (ms) (xs) (ys) (s) (i+1) rfl (by first|with_reducible assumption|omega|rfl|(simp_all;done)) (by first|with_reducible assumption|omega|rfl|(simp_all;done)) (by first|with_reducible assumption|omega|rfl|(simp_all;done)) (by first|with_reducible assumption|omega|rfl|(simp_all;done)) (by first|with_reducible assumption|omega|rfl|(simp_all;done)) (by first|with_reducible assumption|omega|rfl|(simp_all;done)) (by first|with_reducible assumption|omega|rfl|(simp_all;done)) (by first|with_reducible assumption|omega|rfl|(simp_all;done)) (by first|with_reducible assumption|omega|rfl|(simp_all;done)) (by first|with_reducible assumption|omega|rfl|(simp_all;done)) (by first|with_reducible assumption|omega|rfl|(simp_all;done)) (by first|with_reducible assumption|omega|rfl|(simp_all;done)) (by first|with_reducible assumption|omega|rfl|(simp_all;done)) (by first|with_reducible assumption|omega|rfl|(simp_all;done))
           (X7.landM okF hJ Qi (s9 B rf Qa Qc place low high Qd ms xs ys s i Qr)
           ⟨(XX (by omega) (by omega)),⟨(Z4 (Int.not_lt.1 q6)),hp54⟩⟩ (by kernel_rfl) (by kernel_rfl))).cast (by first|rfl|(exfalso;omega)|(exfalso;simp_all;done)|(simp_all;done))
   ·try have Xy:=Qn (Qg ‹Ql rf=true›).1
    try have XF:=(Qo ‹Qm rf Qa=true›).1
    try have XG:=Qh (Qp ‹Ql rf=true›) ‹Qm rf Qa=true›
    try have XL:=Qh (Qp ‹Ql rf=true›) ‹Qm rf Qa=true› Qc.toNat
    try have Ww:=Zp (s:=s) (i:=i) hr XE XK XN XC XY hm hx hy s0 s1 h0 (by omega)
    exact((ih0 _ (by omega)).2.2.1 (ms) (xs) (ys) (s+1) rfl (by first|with_reducible assumption|omega|rfl|(simp_all;done)) (by first|with_reducible assumption|omega|rfl|(simp_all;done)) (by first|with_reducible assumption|omega|rfl|(simp_all;done)) (by first|with_reducible assumption|omega|rfl|(simp_all;done)) (by first|with_reducible assumption|omega|rfl|(simp_all;done)) (by first|with_reducible assumption|omega|rfl|(simp_all;done)) (by first|with_reducible assumption|omega|rfl|(simp_all;done)) (by first|with_reducible assumption|omega|rfl|(simp_all;done)) (by first|with_reducible assumption|omega|rfl|(simp_all;done)) (by first|with_reducible assumption|omega|rfl|(simp_all;done)) (by first|with_reducible assumption|omega|rfl|(simp_all;done)) (by first|with_reducible assumption|omega|rfl|(simp_all;done))
     (X7.landM okF hJ Qi (s8 B rf Qa Qc place low high Qd ms xs ys s i Qr)
     ⟨(XX (by omega) (by omega)),⟨(Z4 (Int.not_lt.1 q0)),hp48⟩⟩ (by kernel_rfl) (by kernel_rfl))).cast (by first|rfl|(exfalso;omega)|(exfalso;simp_all;done)|(simp_all;done))
set_option maxHeartbeats 4000000 in
theorem Cs(rf:Qk)(Qa:List Int)(Qc place low high Qd:Int)  (Zb:Qa.length<=9223372036854775807){B:Lo}(hJ:∀w,B.has w->J0 w):EndsT YP B (Q9 YP 14 376 (([.agg (QM rf).toArray,Zu Qa,.int .i64 Qc,.int .i64 place,.int .i64 low,.int .i64 high,.int .i64 Qd]).map (QG 0 4))) (.bool true):=by
 cases q0:decide (Lc rf.Qb<=8)with
 |true=>
  have hp55:Q3 (bD B rf Qa Qc place low high Qd):=by
   try have Xy:=Qn (Qg ‹Ql rf=true›).1
   try have XF:=(Qo ‹Qm rf Qa=true›).1
   try have XG:=Qh (Qp ‹Ql rf=true›) ‹Qm rf Qa=true›
   try have XL:=Qh (Qp ‹Ql rf=true›) ‹Qm rf Qa=true› Qc.toNat
   exact⟨⟨trivial,(by have t_:=Bx (rf);rw[q0]at t_;exact t_)⟩,trivial⟩
  by_cases q1:(8:Int)<((↑Qa.length:Int))
  ·exact(GoE.endsT okF hJ Qi GoE.start (s7 B rf Qa Qc place low high Qd)
    ⟨⟨trivial,known⟩,⟨(Z3 q1),hp55⟩⟩).cast rfl
  ·have hp56:Q3 (PW B rf Qa Qc place low high Qd):=by
    exact⟨(Z4 (Int.not_lt.1 q1)),hp55⟩
   cases q2:Ql rf with
   |true=>
    cases q3:Qm rf Qa with
    |true=>
     have hp57:Q3 (bC B rf Qa Qc place low high Qd):=by
      try have Xy:=Qn (Qg ‹Ql rf=true›).1
      try have XF:=(Qo ‹Qm rf Qa=true›).1
      try have XG:=Qh (Qp ‹Ql rf=true›) ‹Qm rf Qa=true›
      try have XL:=Qh (Qp ‹Ql rf=true›) ‹Qm rf Qa=true› Qc.toNat
      exact⟨⟨trivial,(by have t_:=uy (rf) (Qa);rw[q2,q3]at t_;exact t_)⟩,hp56⟩
     by_cases q4:(Qc:Int)<(0)
     ·exact(GoE.endsT okF hJ Qi GoE.start (s6 B rf Qa Qc place low high Qd)
       ⟨⟨trivial,known⟩,⟨(Z3 q4),hp57⟩⟩).cast rfl
     ·have hp58:Q3 (bB B rf Qa Qc place low high Qd):=by
       exact⟨(Z4 (Int.not_lt.1 q4)),hp57⟩
      by_cases q5:(rf.seasons:Int)<=(Qc)
      ·exact(GoE.endsT okF hJ Qi GoE.start (s5 B rf Qa Qc place low high Qd)
        ⟨⟨trivial,known⟩,⟨(Uf q5),hp58⟩⟩).cast rfl
      ·have hp59:Q3 (bA B rf Qa Qc place low high Qd):=by
        exact⟨(Ug (Int.not_le.1 q5)),hp58⟩
       by_cases q6:(place:Int)<(0)
       ·exact(GoE.endsT okF hJ Qi GoE.start (sy B rf Qa Qc place low high Qd)
         ⟨⟨trivial,known⟩,⟨(Z3 q6),hp59⟩⟩).cast rfl
       ·have hp60:Q3 (b9 B rf Qa Qc place low high Qd):=by
         exact⟨(Z4 (Int.not_lt.1 q6)),hp59⟩
        by_cases q7:((↑rf.Qb.length:Int):Int)<=(place)
        ·exact(GoE.endsT okF hJ Qi GoE.start (sx B rf Qa Qc place low high Qd)
          ⟨⟨trivial,known⟩,⟨(Uf q7),hp60⟩⟩).cast rfl
        ·have hp61:Q3 (b8 B rf Qa Qc place low high Qd):=by
          exact⟨(Ug (Int.not_le.1 q7)),hp60⟩
         by_cases q8:(low:Int)<(0)
         ·exact(GoE.endsT okF hJ Qi GoE.start (sw B rf Qa Qc place low high Qd)
           ⟨⟨trivial,known⟩,⟨(Z3 q8),hp61⟩⟩).cast rfl
         ·have hp62:Q3 (b6 B rf Qa Qc place low high Qd):=by
           exact⟨(Z4 (Int.not_lt.1 q8)),hp61⟩
          by_cases q9:(high:Int)<(low)
          ·exact(GoE.endsT okF hJ Qi GoE.start (su B rf Qa Qc place low high Qd)
            ⟨⟨trivial,known⟩,⟨(Z3 q9),hp62⟩⟩).cast rfl
          ·have hp63:Q3 (b5 B rf Qa Qc place low high Qd):=by
            exact⟨(Z4 (Int.not_lt.1 q9)),hp62⟩
           by_cases q10:(100:Int)<(high)
           ·exact(GoE.endsT okF hJ Qi GoE.start (sr B rf Qa Qc place low high Qd)
             ⟨⟨trivial,known⟩,⟨(Z3 q10),hp63⟩⟩).cast rfl
           ·have hp64:Q3 (b4 B rf Qa Qc place low high Qd):=by
             exact⟨(Z4 (Int.not_lt.1 q10)),hp63⟩
            by_cases q11:(Qd:Int)<(0)
            ·exact(GoE.endsT okF hJ Qi GoE.start (sq B rf Qa Qc place low high Qd)
              ⟨⟨trivial,known⟩,⟨(Z3 q11),hp64⟩⟩).cast rfl
            ·have hp65:Q3 (bz B rf Qa Qc place low high Qd):=by
              exact⟨(Z4 (Int.not_lt.1 q11)),hp64⟩
             by_cases q12:(2000:Int)<(Qd)
             ·exact(GoE.endsT okF hJ Qi GoE.start (so B rf Qa Qc place low high Qd)
               ⟨⟨trivial,known⟩,⟨(Z3 q12),hp65⟩⟩).cast rfl
             ·have hp66:Q3 (bw B rf Qa Qc place low high Qd):=by
               try have Xy:=Qn (Qg ‹Ql rf=true›).1
               try have XF:=(Qo ‹Qm rf Qa=true›).1
               try have XG:=Qh (Qp ‹Ql rf=true›) ‹Qm rf Qa=true›
               try have XL:=Qh (Qp ‹Ql rf=true›) ‹Qm rf Qa=true› Qc.toNat
               exact⟨⟨by omega,by omega,(QW (z:=1) (fun _=>rfl) (by first|omega|(rw[Lf];omega)|(rw[Lh];omega)))⟩,⟨⟨by omega,(by unfold maxLen;omega),by omega,(by first|rfl|exact Z6 (z:=1) (fun _=>rfl)|(rw[Z6 (z:=1) (fun _=>rfl)];first|omega|(simp;omega)|(simp_all;done))),Kb (fun _=>rfl) _⟩,⟨(Z4 (Int.not_lt.1 q12)),hp65⟩⟩⟩
              by_cases q13:(Lc Qa:Int)=(0)
              ·exfalso
               (have Xy:=Qn (Qg ‹Ql rf=true›).1;have XF:=(Qo ‹Qm rf Qa=true›).1;omega)
              ·cases q14:hasB (Qa.getD Qc.toNat La) place with
               |true=>
                by_cases q15:(Lc rf.Qb:Int)=(0)
                ·exfalso
                 (have Xy:=Qn (Qg ‹Ql rf=true›).1;have XF:=(Qo ‹Qm rf Qa=true›).1;omega)
                ·try have Xy:=Qn (Qg ‹Ql rf=true›).1
                 try have XF:=(Qo ‹Qm rf Qa=true›).1
                 try have XG:=Qh (Qp ‹Ql rf=true›) ‹Qm rf Qa=true›
                 try have XL:=Qh (Qp ‹Ql rf=true›) ‹Qm rf Qa=true› Qc.toNat
                 exact((o6 rf Qa Qc place low high Qd Zb hJ _).1 (0) (Qa) Qa.length rf.Qb rf.Qb rfl (by first|with_reducible assumption|omega|exact Xg.1|exact Xg.2.1|rfl|exact(Xi ‹_›)|(rw[Lf])|(rw[Lf];rfl)|(exact XA)|(rw[hx,XQ];exact QO h0 q0)|(rw[hy,XP];exact QO h0 q0)|(simp_all;done)) (by first|with_reducible assumption|omega|exact Xg.1|exact Xg.2.1|rfl|exact(Xi ‹_›)|(rw[Lf])|(rw[Lf];rfl)|(exact XA)|(rw[hx,XQ];exact QO h0 q0)|(rw[hy,XP];exact QO h0 q0)|(simp_all;done)) (by first|with_reducible assumption|omega|exact Xg.1|exact Xg.2.1|rfl|exact(Xi ‹_›)|(rw[Lf])|(rw[Lf];rfl)|(exact XA)|(rw[hx,XQ];exact QO h0 q0)|(rw[hy,XP];exact QO h0 q0)|(simp_all;done)) (by first|with_reducible assumption|omega|exact Xg.1|exact Xg.2.1|rfl|exact(Xi ‹_›)|(rw[Lf])|(rw[Lf];rfl)|(exact XA)|(rw[hx,XQ];exact QO h0 q0)|(rw[hy,XP];exact QO h0 q0)|(simp_all;done)) (by first|with_reducible assumption|omega|exact Xg.1|exact Xg.2.1|rfl|exact(Xi ‹_›)|(rw[Lf])|(rw[Lf];rfl)|(exact XA)|(rw[hx,XQ];exact QO h0 q0)|(rw[hy,XP];exact QO h0 q0)|(simp_all;done)) (by first|with_reducible assumption|omega|exact Xg.1|exact Xg.2.1|rfl|exact(Xi ‹_›)|(rw[Lf])|(rw[Lf];rfl)|(exact XA)|(rw[hx,XQ];exact QO h0 q0)|(rw[hy,XP];exact QO h0 q0)|(simp_all;done)) (by first|with_reducible assumption|omega|exact Xg.1|exact Xg.2.1|rfl|exact(Xi ‹_›)|(rw[Lf])|(rw[Lf];rfl)|(exact XA)|(rw[hx,XQ];exact QO h0 q0)|(rw[hy,XP];exact QO h0 q0)|(simp_all;done)) (by first|with_reducible assumption|omega|exact Xg.1|exact Xg.2.1|rfl|exact(Xi ‹_›)|(rw[Lf])|(rw[Lf];rfl)|(exact XA)|(rw[hx,XQ];exact QO h0 q0)|(rw[hy,XP];exact QO h0 q0)|(simp_all;done)) (by first|with_reducible assumption|omega|exact Xg.1|exact Xg.2.1|rfl|exact(Xi ‹_›)|(rw[Lf])|(rw[Lf];rfl)|(exact XA)|(rw[hx,XQ];exact QO h0 q0)|(rw[hy,XP];exact QO h0 q0)|(simp_all;done)) (by first|with_reducible assumption|omega|exact Xg.1|exact Xg.2.1|rfl|exact(Xi ‹_›)|(rw[Lf])|(rw[Lf];rfl)|(exact XA)|(rw[hx,XQ];exact QO h0 q0)|(rw[hy,XP];exact QO h0 q0)|(simp_all;done)) (by first|with_reducible assumption|omega|exact Xg.1|exact Xg.2.1|rfl|exact(Xi ‹_›)|(rw[Lf])|(rw[Lf];rfl)|(exact XA)|(rw[hx,XQ];exact QO h0 q0)|(rw[hy,XP];exact QO h0 q0)|(simp_all;done)) (by first|with_reducible assumption|omega|exact Xg.1|exact Xg.2.1|rfl|exact(Xi ‹_›)|(rw[Lf])|(rw[Lf];rfl)|(exact XA)|(rw[hx,XQ];exact QO h0 q0)|(rw[hy,XP];exact QO h0 q0)|(simp_all;done)) (by first|with_reducible assumption|omega|exact Xg.1|exact Xg.2.1|rfl|exact(Xi ‹_›)|(rw[Lf])|(rw[Lf];rfl)|(exact XA)|(rw[hx,XQ];exact QO h0 q0)|(rw[hy,XP];exact QO h0 q0)|(simp_all;done))
                  (GoE.start.landM okF hJ Qi (sn B rf Qa Qc place low high Qd)
                  ⟨(Xk (Xr (fun x=>List.all_eq_true.1 (by first|rfl|(cases x <;> rfl))))),⟨(Xk (Xr (fun x=>List.all_eq_true.1 (by first|rfl|(cases x <;> rfl))))),⟨(Xk (Xr (fun x=>List.all_eq_true.1 (by first|rfl|(cases x <;> rfl))))),⟨⟨by omega,(by unfold maxLen;omega),by omega,(by first|rfl|exact Z6 (z:=12) (fun _=>rfl)|(rw[Z6 (z:=12) (fun _=>rfl)];first|omega|(simp;omega)|(simp_all;done))),Kb (fun _=>rfl) _⟩,⟨⟨by omega,(by unfold maxLen;omega),by omega,(by first|rfl|exact Z6 (z:=12) (fun _=>rfl)|(rw[Z6 (z:=12) (fun _=>rfl)];first|omega|(simp;omega)|(simp_all;done))),Kb (fun _=>rfl) _⟩,⟨⟨trivial,(by have t_:=Fc (Qa.getD Qc.toNat La) (place) (by first|with_reducible assumption|omega|simp_all) (by first|with_reducible assumption|omega|simp_all);rw[q14]at t_;exact t_)⟩,hp66⟩⟩⟩⟩⟩⟩ (by kernel_rfl) (by kernel_rfl))).cast (by first|rfl|(simp[*];done)|(simp_all[];done)|(simp_all[];omega))
               |false=>
                try have Xy:=Qn (Qg ‹Ql rf=true›).1
                try have XF:=(Qo ‹Qm rf Qa=true›).1
                try have XG:=Qh (Qp ‹Ql rf=true›) ‹Qm rf Qa=true›
                try have XL:=Qh (Qp ‹Ql rf=true›) ‹Qm rf Qa=true› Qc.toNat
                exact((o6 rf Qa Qc place low high Qd Zb hJ _).2.1 (1) (0) rfl (by first|with_reducible assumption|omega|rfl|(exact XA)|(rw[<-hps];omega)|(simp[hb];omega)|exact hmo|(rw[Lf])|(simp_all;done)) (by first|with_reducible assumption|omega|rfl|(exact XA)|(rw[<-hps];omega)|(simp[hb];omega)|exact hmo|(rw[Lf])|(simp_all;done)) (by first|with_reducible assumption|omega|rfl|(exact XA)|(rw[<-hps];omega)|(simp[hb];omega)|exact hmo|(rw[Lf])|(simp_all;done)) (by first|with_reducible assumption|omega|rfl|(exact XA)|(rw[<-hps];omega)|(simp[hb];omega)|exact hmo|(rw[Lf])|(simp_all;done)) (by first|with_reducible assumption|omega|rfl|(exact XA)|(rw[<-hps];omega)|(simp[hb];omega)|exact hmo|(rw[Lf])|(simp_all;done)) (by first|with_reducible assumption|omega|rfl|(exact XA)|(rw[<-hps];omega)|(simp[hb];omega)|exact hmo|(rw[Lf])|(simp_all;done)) (by first|with_reducible assumption|omega|rfl|(exact XA)|(rw[<-hps];omega)|(simp[hb];omega)|exact hmo|(rw[Lf])|(simp_all;done)) (by first|with_reducible assumption|omega|rfl|(exact XA)|(rw[<-hps];omega)|(simp[hb];omega)|exact hmo|(rw[Lf])|(simp_all;done)) (by first|with_reducible assumption|omega|rfl|(exact XA)|(rw[<-hps];omega)|(simp[hb];omega)|exact hmo|(rw[Lf])|(simp_all;done)) (by first|with_reducible assumption|omega|rfl|(exact XA)|(rw[<-hps];omega)|(simp[hb];omega)|exact hmo|(rw[Lf])|(simp_all;done)) (by first|with_reducible assumption|omega|rfl|(exact XA)|(rw[<-hps];omega)|(simp[hb];omega)|exact hmo|(rw[Lf])|(simp_all;done))
                 (GoE.start.landM okF hJ Qi (sm B rf Qa Qc place low high Qd)
                 ⟨(Xk (Xr (fun x=>List.all_eq_true.1 (by first|rfl|(cases x <;> rfl))))),⟨⟨trivial,(by have t_:=Fc (Qa.getD Qc.toNat La) (place) (by first|with_reducible assumption|omega|simp_all) (by first|with_reducible assumption|omega|simp_all);rw[q14]at t_;exact t_)⟩,hp66⟩⟩ (by kernel_rfl) (by kernel_rfl))).cast (by first|rfl|(simp[*];done)|(simp_all[];done)|(simp_all[];omega))
    |false=>
     try have Xy:=Qn (Qg ‹Ql rf=true›).1
     try have XF:=(Qo ‹Qm rf Qa=true›).1
     try have XG:=Qh (Qp ‹Ql rf=true›) ‹Qm rf Qa=true›
     try have XL:=Qh (Qp ‹Ql rf=true›) ‹Qm rf Qa=true› Qc.toNat
     exact(GoE.endsT okF hJ Qi GoE.start (sk B rf Qa Qc place low high Qd)
      ⟨⟨trivial,known⟩,⟨⟨trivial,(by have t_:=uy (rf) (Qa);rw[q2,q3]at t_;exact t_)⟩,hp56⟩⟩).cast rfl
   |false=>
    try have Xy:=Qn (Qg ‹Ql rf=true›).1
    try have XF:=(Qo ‹Qm rf Qa=true›).1
    try have XG:=Qh (Qp ‹Ql rf=true›) ‹Qm rf Qa=true›
    try have XL:=Qh (Qp ‹Ql rf=true›) ‹Qm rf Qa=true› Qc.toNat
    exact(GoE.endsT okF hJ Qi GoE.start (sj B rf Qa Qc place low high Qd)
     ⟨⟨trivial,known⟩,⟨⟨trivial,(by have t_:=uy (rf) (Qa);rw[q2]at t_;exact t_)⟩,hp56⟩⟩).cast rfl
 |false=>
  try have Xy:=Qn (Qg ‹Ql rf=true›).1
  try have XF:=(Qo ‹Qm rf Qa=true›).1
  try have XG:=Qh (Qp ‹Ql rf=true›) ‹Qm rf Qa=true›
  try have XL:=Qh (Qp ‹Ql rf=true›) ‹Qm rf Qa=true› Qc.toNat
  exact(GoE.endsT okF hJ Qi GoE.start (si B rf Qa Qc place low high Qd)
   ⟨⟨trivial,known⟩,⟨⟨trivial,(by have t_:=Bx (rf);rw[q0]at t_;exact t_)⟩,trivial⟩⟩).cast rfl
theorem EV(rf:Qk)(Qa:List Int)(Qc place low high Qd:Int)  :Qz YP J0 14 #[.agg (QM rf).toArray,Zu Qa,.int .i64 Qc,.int .i64 place,.int .i64 low,.int .i64 high,.int .i64 Qd] (.bool true):=
 Uk (ts:=[.agg (QM rf).toArray,Zu Qa,.int .i64 Qc,.int .i64 place,.int .i64 low,.int .i64 high,.int .i64 Qd]) (Qa.length<=9223372036854775807) (fun _ _ ht=>ht.ln (i:=1) rfl) ZC (c0:=Q9 YP 14 376 (([.agg (QM rf).toArray,Zu Qa,.int .i64 Qc,.int .i64 place,.int .i64 low,.int .i64 high,.int .i64 Qd]).map (QG 0 4))) (by kernel_rfl) (by kernel_rfl) fun Zb B hJ=>Cs rf Qa Qc place low high Qd  Zb hJ
end
end Go.Proofs.Ytncjjangllkokaa

