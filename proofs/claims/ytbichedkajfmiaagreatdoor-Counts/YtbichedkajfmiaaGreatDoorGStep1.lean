import Derived.Test.YtbichedkajfmiaaGreatDoorGCert0
import Derived.Test.YtbichedkajfmiaaGreatDoorGNode0
import Derived.Test.YtbichedkajfmiaaGreatDoorC
set_option maxRecDepth 100000
set_option maxHeartbeats 16000000
namespace Go.Proofs.YtbichedkajfmiaaGreatDoor
open Go.RowKit
variable {J:List Lit}{V v:Value}{W w:World}{a:Option Addr}{b:List Value}{e:TypeId}{f:List Int}{i k m n:Nat}
theorem l7 (h:w.ownsRow n e m (.slice a k i) k b):k<=i/\i<=2 ^ 63-1:=by
 rcases h.2 with ⟨c,g⟩|⟨j,l,o,c,_,_,f,d,_⟩
 ·injection c with _ _ c;subst c;exact⟨aO,aO⟩
 ·injection c with _ _ c;subst c;unfold maxLen at d;exact⟨f,d⟩
theorem Rx (bA:List UInt8)(w:World)(hx:bA.length<=200000) :
 Calls Tryz.prog 143 #[.string ⟨bA.toArray⟩] w fun G w'=>gV w' bA.length G/\Below w.heap.size w w':=by
 have hR:=fJ;obtain⟨i0,hi0,hz0,hz1,hz2⟩:=info_parts Tryz.Cs;have HB0:=di (yj.start w 164 164);have yt:=di (fun Y=>F7 bA 32 Y aO);go_enter Tryz.func143,Tryz.ntmps143;go_wp2_with fail;refine(yt.o _).mono ?_;rintro G x ⟨⟨bG,V,rfl,U,hpos,hsum⟩,hb1⟩;obtain⟨av,cv,hv,q1,q2,q3⟩:=dQ U;subst hv;have kL:=di (HB0.o.below hb1)
 have rJ:Hid (∀y∈V,y.length<=200000):=fun y O=>by
  have B:y.length<=(V.map List.length).sum:=uS (List.mem_map_of_mem O);have W:0<V.length:=hpos;exact aO
 have HWC:Hid (wc V<=34*(bA.length+1)):=by show _<=_;rw[aap];omega
 have rA:Hid (V.length<=bA.length+1):=by show _<=_;omega
 obtain⟨N,hN⟩:=aJ V.length
 obtain⟨J,rfl⟩:∃J,av=some ⟨J,0,none⟩:=by
  obtain⟨J,B,_⟩:=q3 0 hpos;exact⟨J,B⟩
 have xG:Hid (w.heap.size+2<=J/\J<x.heap.size):=by
  have B:=U.lt J rfl;have W:=B.1;simp only[World.size_alloc]at W;exact⟨aO,B.2⟩
 have oH:Hid (∀(Y:World),Y.heap[J]?=x.heap[J]?->∀bB y,V[bB]?=some y->Y.cell? ⟨J,bB,none⟩=some (.string ⟨y.toArray⟩)):=fun Y hW bB y O=>by
  obtain⟨hj,hy'⟩:=List.getElem?_eq_some_iff.1 O;obtain⟨g',B,W,_⟩:=q3 bB hj;injection B with B
  injection B with B;subst B;rw[World.cell?_of_block (w:=x) (a:=⟨J,bB,none⟩) hW,W];simp[O,dO]
 have HN:=di hN;rw[hN]at q1 hpos rA ⊢;have hN5:N<=200001:=by have:=rA.o;omega
 have DZ:Hid (w.heap.size+1<x.heap.size):=kL.o.lt;obtain⟨y0,hy0⟩:∃y,V[0]?=some y:=⟨_,aD (by rw[HN.o];exact hpos)⟩;have d0:=oH.o x rfl 0 y0 hy0;have hpos':(0:Int)<(N:Int):=aO;clear U hsum q3 hb1 hN hy0;have bc0:=kL.o.c0;have bc1:=kL.o.c1;have bc2:=kL.o.c2;have bc3:=kL.o.c3;have bc4:=kL.o.c4;have bcf:=kL.o.cf;have br0:=kL.o.r0;have br1:=kL.o.r1;have br2:=kL.o.r2;have br3:=kL.o.r3;have br4:=kL.o.r4;have brf:=kL.o.rf
 by_cases hy1:y0.length=1
 ·obtain⟨a,rfl⟩:∃a,y0=[a]:=by
   match y0,hy1 with
   | [bF],_=>exact⟨bF,rfl⟩
  clear hy1;have hk0:=a.toNat_lt;obtain⟨w2,hw2⟩:∃w2,x.setCell ⟨w.heap.size+1,0,none⟩ (.int .u8 (a.toNat:Int))=w2:=⟨_,rfl⟩;have tY:=kL.o.set 0 (.int .u8 (a.toNat:Int));rw[hw2]at tY;simp only[if_pos,Nat.reduceEqDiff,ite_false]at tY;have A:=di tY;have Dn:Hid (∀q,q≠w.heap.size+1->w2.heap[q]?=x.heap[q]?):=fun q K=>by rw[<-hw2];exact aC K
  have HZ2:Hid (w2.heap.size=x.heap.size):=by show _=_;rw[<-hw2];simp[World.setCell]
  have HS2:Hid (nU w x w2 (.int .u8 (a.toNat:Int)) (.int .i64 0) (.int .i64 0) (.slice none 0 0) []):=⟨tY,World.ownsRow_nil _ _ _ _,fun q B W=>Dn.o q W,by rw[HZ2.o];exact ae,DZ.o⟩;have ec0:=tY.c0;have ec1:=tY.c1;have ec2:=tY.c2;have ec3:=tY.c3;have ec4:=tY.c4;have ecf:=tY.cf;have er0:=tY.r0;have er1:=tY.r1;have er2:=tY.r2;have er3:=tY.r3;have er4:=tY.r4;have erf:=tY.rf;have HD1:=di (fun bB y (E:V[bB]?=some y)=>oH.o w2 (Dn.o J aio) bB y E);clear tY
  by_cases Z:a.toNat=70
  ·have t70:((a.toNat:Int)==70)=true:=bz;have t68:((a.toNat:Int)==68)=false:=aj aO;have t81:((a.toNat:Int)==81)=false:=aj aO;have t85:((a.toNat:Int)==85)=false:=aj aO;have t65:((a.toNat:Int)==65)=false:=aj aO;have t82:((a.toNat:Int)==82)=false:=aj aO;have Af:Hid (a.toNat≠65):=akc;have Ri:((a.toNat:Int) !=65)=true:=aZ;clear Z
   by_cases hN2:N<2
   ·have Rq:(N:Int)<2:=aO;exact akQ
   ·have Rq:¬((N:Int)<2):=aO;obtain⟨y1,hy1⟩:∃y,V[1]?=some y:=⟨_,aD aiC⟩;have d1:=HD1.o 1 y1 hy1;have LC:=di (nk y1 w2 aiX);have Wz:(1:Int)<(N:Int):=aO;clear hy1;go_wp2_with fail;refine LC.o.mono ?_;rintro G M ⟨⟨r,ab,ha,rfl⟩,hw3⟩;have Kr:=hw3.symm;subst Kr;have HA:=di ha;clear ha hw3 d1;cases ab
    ·exact akQ
    ·obtain⟨s,hw4⟩:∃s,w2.setCell ⟨w.heap.size+1,1,none⟩ (.int .i64 (r:Nat))=s:=⟨_,rfl⟩;have h:=A.o.set 1 (.int .i64 (r:Nat));rw[hw4]at h;simp only[if_pos,Nat.reduceEqDiff,ite_false]at h;have P:=di h;have BX:Hid (∀q,q≠w.heap.size+1->s.heap[q]?=x.heap[q]?):=fun q K=>aj9;have N8:Hid (s.heap.size=x.heap.size):=aiR;have Ob:Hid (nU w x s (.int .u8 (a.toNat:Int)) (.int .i64 (r:Nat)) (.int .i64 0) (.slice none 0 0) []):=⟨h,World.ownsRow_nil _ _ _ _,fun q B W=>BX.o q W,by rw[N8.o];exact ae,DZ.o⟩;have fc0:=h.c0;have fc1:=h.c1;have fc2:=h.c2;have fc3:=h.c3;have fc4:=h.c4;have fcf:=h.cf;have fr0:=h.r0;have fr1:=h.r1;have fr2:=h.r2;have fr3:=h.r3;have fr4:=h.r4;have frf:=h.rf;clear h;have HS:=di Ob.o;go_wp2_with fail
     go_loopw [6] (fun q wr=>∃(t:Nat) (e:Option Addr) (b d:Nat) (v:List Lit),q=.int .i64 t/\2<=t/\t<=N/\b=v.length/\nU w x wr (.int .u8 (a.toNat:Int)) (.int .i64 (r:Nat)) (.int .i64 (0:Int)) (.slice e b d) v/\(∀bg∈v,bg.small)/\b<=t/\b<=d/\d<=2 ^ 63-1) (fun q _=>N-(intOf q).toNat)
     case atStart=>exact⟨2,none,0,0,[],rfl,aO,aO,rfl,HS.o,aP,aO,aO,aO⟩
     case round=>
      obtain⟨t,e,b,d,v,rfl,hit,G6,tK,Q,hsm,hlt,DR,DN⟩:=hrel;have z:=di Q;have oK:=di hsm;have H:=di tK;have g:=Q.bx;have yO:=g.c0;have uF:=g.c1;have vY:=g.c2;have uE:=g.c3;have yN:=g.c4;have yM:=g.cf;have xu:=g.r0;have xq:=g.r1;have xn:=g.r2;have xm:=g.r3;have yL:=g.r4;have yK:=g.rf;have AL:Hid (wr.heap[J]?=x.heap[J]?):=Q.keep J xG.o.2 aio;have i:=di g;clear Q hsm tK g
      by_cases htl:t<N
      ·obtain⟨y,O⟩:∃y,V[t]?=some y:=⟨_,aD aiO⟩;have d1:=oH.o wr AL.o t y O;have hyl:=rJ.o y (List.mem_of_getElem? O);clear O
       by_cases R:y=[124]
       ·have tb:(y==[124])=true:=akv;clear R;have tN:((t:Int)==(N:Int))=false:=aj aO
        by_cases hn0:b=0
        ·have tn0:¬(0<b):=aO;clear hn0;exact akU
        ·have tn0:0<b:=aO;clear hn0;exact akU
       ·exact akO
      ·have Bj:t=N:=aO;have tN:((t:Int)==(N:Int))=true:=bz;have htn:¬((t:Int)<(N:Int)):=aO;clear Bj
       by_cases hn0:b=0
       ·have tn0:¬(0<b):=aO;clear hn0;exact ak2
       ·have tn0:0<b:=aO;clear hn0;exact akU
  have adQ:=Z;clear Z
  by_cases Z:a.toNat=68
  ·have t70:((a.toNat:Int)==70)=false:=aj aO;have t68:((a.toNat:Int)==68)=true:=bz;have t81:((a.toNat:Int)==81)=false:=aj aO;have t85:((a.toNat:Int)==85)=false:=aj aO;have t65:((a.toNat:Int)==65)=false:=aj aO;have t82:((a.toNat:Int)==82)=false:=aj aO;have Af:Hid (a.toNat≠65):=akc;have Ri:((a.toNat:Int) !=65)=true:=aZ;clear Z
   by_cases hN2:N<2
   ·have Rq:(N:Int)<2:=aO;exact akQ
   ·have Rq:¬((N:Int)<2):=aO;obtain⟨y1,hy1⟩:∃y,V[1]?=some y:=⟨_,aD aiC⟩;have d1:=HD1.o 1 y1 hy1;have LC:=di (nk y1 w2 aiX);have Wz:(1:Int)<(N:Int):=aO;clear hy1;go_wp2_with fail;refine LC.o.mono ?_;rintro G M ⟨⟨r,ab,ha,rfl⟩,hw3⟩;have Kr:=hw3.symm;subst Kr;have HA:=di ha;clear ha hw3 d1;cases ab
    ·exact akQ
    ·obtain⟨s,hw4⟩:∃s,w2.setCell ⟨w.heap.size+1,1,none⟩ (.int .i64 (r:Nat))=s:=⟨_,rfl⟩;have h:=A.o.set 1 (.int .i64 (r:Nat));rw[hw4]at h;simp only[if_pos,Nat.reduceEqDiff,ite_false]at h;have P:=di h;have BX:Hid (∀q,q≠w.heap.size+1->s.heap[q]?=x.heap[q]?):=fun q K=>aj9;have N8:Hid (s.heap.size=x.heap.size):=aiR;have Ob:Hid (nU w x s (.int .u8 (a.toNat:Int)) (.int .i64 (r:Nat)) (.int .i64 0) (.slice none 0 0) []):=⟨h,World.ownsRow_nil _ _ _ _,fun q B W=>BX.o q W,by rw[N8.o];exact ae,DZ.o⟩;have fc0:=h.c0;have fc1:=h.c1;have fc2:=h.c2;have fc3:=h.c3;have fc4:=h.c4;have fcf:=h.cf;have fr0:=h.r0;have fr1:=h.r1;have fr2:=h.r2;have fr3:=h.r3;have fr4:=h.r4;have frf:=h.rf;clear h;have HS:=di Ob.o;go_wp2_with fail
     go_loopw [6] (fun q wr=>∃(t:Nat) (e:Option Addr) (b d:Nat) (v:List Lit),q=.int .i64 t/\2<=t/\t<=N/\b=v.length/\nU w x wr (.int .u8 (a.toNat:Int)) (.int .i64 (r:Nat)) (.int .i64 (0:Int)) (.slice e b d) v/\(∀bg∈v,bg.small)/\b<=t/\b<=d/\d<=2 ^ 63-1) (fun q _=>N-(intOf q).toNat)
     case atStart=>exact⟨2,none,0,0,[],rfl,aO,aO,rfl,HS.o,aP,aO,aO,aO⟩
     case round=>
      obtain⟨t,e,b,d,v,rfl,hit,G6,tK,Q,hsm,hlt,DR,DN⟩:=hrel;have z:=di Q;have oK:=di hsm;have H:=di tK;have g:=Q.bx;have yO:=g.c0;have uF:=g.c1;have vY:=g.c2;have uE:=g.c3;have yN:=g.c4;have yM:=g.cf;have xu:=g.r0;have xq:=g.r1;have xn:=g.r2;have xm:=g.r3;have yL:=g.r4;have yK:=g.rf;have AL:Hid (wr.heap[J]?=x.heap[J]?):=Q.keep J xG.o.2 aio;have i:=di g;clear Q hsm tK g
      by_cases htl:t<N
      ·obtain⟨y,O⟩:∃y,V[t]?=some y:=⟨_,aD aiO⟩;have d1:=oH.o wr AL.o t y O;have hyl:=rJ.o y (List.mem_of_getElem? O);clear O
       by_cases R:y=[124]
       ·have tb:(y==[124])=true:=akv;clear R;have tN:((t:Int)==(N:Int))=false:=aj aO;exact akU
       ·exact akO
      ·have Bj:t=N:=aO;have tN:((t:Int)==(N:Int))=true:=bz;have htn:¬((t:Int)<(N:Int)):=aO;clear Bj;exact ak2
  have adR:=Z;clear Z
  by_cases Z:a.toNat=81
  ·have t70:((a.toNat:Int)==70)=false:=aj aO;have t68:((a.toNat:Int)==68)=false:=aj aO;have t81:((a.toNat:Int)==81)=true:=bz;have t85:((a.toNat:Int)==85)=false:=aj aO;have t65:((a.toNat:Int)==65)=false:=aj aO;have t82:((a.toNat:Int)==82)=false:=aj aO;have Af:Hid (a.toNat≠65):=akc;have Ri:((a.toNat:Int) !=65)=true:=aZ;clear Z
   by_cases hN2:N<2
   ·have Rq:(N:Int)<2:=aO;exact akQ
   ·have Rq:¬((N:Int)<2):=aO;obtain⟨y1,hy1⟩:∃y,V[1]?=some y:=⟨_,aD aiC⟩;have d1:=HD1.o 1 y1 hy1;have LC:=di (nk y1 w2 aiX);have Wz:(1:Int)<(N:Int):=aO;clear hy1;go_wp2_with fail;refine LC.o.mono ?_;rintro G M ⟨⟨r,ab,ha,rfl⟩,hw3⟩;have Kr:=hw3.symm;subst Kr;have HA:=di ha;clear ha hw3 d1;cases ab
    ·exact akQ
    ·obtain⟨s,hw4⟩:∃s,w2.setCell ⟨w.heap.size+1,1,none⟩ (.int .i64 (r:Nat))=s:=⟨_,rfl⟩;have h:=A.o.set 1 (.int .i64 (r:Nat));rw[hw4]at h;simp only[if_pos,Nat.reduceEqDiff,ite_false]at h;have P:=di h;have BX:Hid (∀q,q≠w.heap.size+1->s.heap[q]?=x.heap[q]?):=fun q K=>aj9;have N8:Hid (s.heap.size=x.heap.size):=aiR;have Ob:Hid (nU w x s (.int .u8 (a.toNat:Int)) (.int .i64 (r:Nat)) (.int .i64 0) (.slice none 0 0) []):=⟨h,World.ownsRow_nil _ _ _ _,fun q B W=>BX.o q W,by rw[N8.o];exact ae,DZ.o⟩;have fc0:=h.c0;have fc1:=h.c1;have fc2:=h.c2;have fc3:=h.c3;have fc4:=h.c4;have fcf:=h.cf;have fr0:=h.r0;have fr1:=h.r1;have fr2:=h.r2;have fr3:=h.r3;have fr4:=h.r4;have frf:=h.rf;clear h
     by_cases hN3:N<3
     ·have tN3:(N:Int)<3:=aO;exact alb
     ·have tN3:¬((N:Int)<3):=aO;obtain⟨y2,hy2⟩:∃y,V[2]?=some y:=⟨_,aD aiC⟩;have d2:=oH.o s (BX.o J aio) 2 y2 hy2;have afe:=di (nk y2 s (by have:=rJ.o y2 (List.mem_of_getElem? hy2);omega));have ahy:(2:Int)<(N:Int):=aO;clear hy2;go_wp2_with fail;refine afe.o.mono ?_;rintro G X ⟨⟨bq,bb,hb,rfl⟩,jR⟩;have adZ:=jR.symm;subst adZ;have HBN:=di hb;clear hb jR d2;cases bb
      ·exact alb
      ·obtain⟨w6,Aq⟩:∃w6,s.setCell ⟨w.heap.size+1,2,none⟩ (.int .i64 (bq:Nat))=w6:=⟨_,rfl⟩;have uI:=P.o.set 2 (.int .i64 (bq:Nat));rw[Aq]at uI;simp only[if_pos,Nat.reduceEqDiff,ite_false]at uI;have Uc:Hid (nU w x w6 (.int .u8 (a.toNat:Int)) (.int .i64 (r:Nat)) (.int .i64 (bq:Nat)) (.slice none 0 0) []):=⟨uI,World.ownsRow_nil _ _ _ _,fun q B W=>by rw[<-Aq,aC W];exact BX.o q W,by rw[<-Aq];simp[World.setCell];rw[N8.o];exact ae,DZ.o⟩;have hc0:=uI.c0;have hc1:=uI.c1;have hc2:=uI.c2;have hc3:=uI.c3;have hc4:=uI.c4;have hcf:=uI.cf;have hr0:=uI.r0;have hr1:=uI.r1;have hr2:=uI.r2;have hr3:=uI.r3;have hr4:=uI.r4;have hrf:=uI.rf;clear uI;have HS:=di Uc.o;go_wp2_with fail
       go_loopw [6] (fun q wr=>∃(t:Nat) (e:Option Addr) (b d:Nat) (v:List Lit),q=.int .i64 t/\3<=t/\t<=N/\b=v.length/\nU w x wr (.int .u8 (a.toNat:Int)) (.int .i64 (r:Nat)) (.int .i64 (bq:Nat)) (.slice e b d) v/\(∀bg∈v,bg.small)/\b<=t/\b<=d/\d<=2 ^ 63-1) (fun q _=>N-(intOf q).toNat)
       case atStart=>exact⟨3,none,0,0,[],rfl,aO,aO,rfl,HS.o,aP,aO,aO,aO⟩
       case round=>
        obtain⟨t,e,b,d,v,rfl,hit,G6,tK,Q,hsm,hlt,DR,DN⟩:=hrel;have z:=di Q;have oK:=di hsm;have H:=di tK;have g:=Q.bx;have yO:=g.c0;have uF:=g.c1;have vY:=g.c2;have uE:=g.c3;have yN:=g.c4;have yM:=g.cf;have xu:=g.r0;have xq:=g.r1;have xn:=g.r2;have xm:=g.r3;have yL:=g.r4;have yK:=g.rf;have AL:Hid (wr.heap[J]?=x.heap[J]?):=Q.keep J xG.o.2 aio;have i:=di g;clear Q hsm tK g
        by_cases htl:t<N
        ·obtain⟨y,O⟩:∃y,V[t]?=some y:=⟨_,aD aiO⟩;have d1:=oH.o wr AL.o t y O;have hyl:=rJ.o y (List.mem_of_getElem? O);clear O
         by_cases R:y=[124]
         ·have tb:(y==[124])=true:=akv;clear R;have tN:((t:Int)==(N:Int))=false:=aj aO;obtain⟨F,L,k,l,m,n,o,f,j⟩:=dR i.o.r0 i.o.r1 i.o.r2 i.o.r3 i.o.r4 (.int .u8 (a.toNat:Int)) (.int .i64 (r:Nat)) (.int .i64 (bq:Nat)) (.slice e b d) (.slice none 0 0);have p:=di (f _ _ i.o.dG ae);exact alx
         ·have tb:(y==[124])=false:=aj R;have mQ:=di (vE y wr aO);clear R;go_wp2_with fail;refine mQ.o.mono ?_;rintro G M ⟨⟨u,lb,rfl,hu⟩,S⟩;have HU:=di hu;have I:=di ((z.o.below S).below (af.alloc ae (.cells #[.bool u.neg,.int .u8 u.kind,.int .i64 u.a,.int .i64 u.b] 168)));have c:=I.o.bx;have J5:=c.c0;have J4:=c.c1;have J3:=c.c2;have yG:=c.c3;have J2:=c.c4;have yF:=c.cf;have JZ:=c.r0;have JY:=c.r1;have JX:=c.r2;have JW:=c.r3;have JV:=c.r4;have JU:=c.rf;have C:=di c;have hs3:=S.size;clear S hu c d1;clear yO uF vY uE yN yM xu xq xn xm yL yK;cases lb
          ·obtain⟨F,L,k,l,m,n,o,f,j⟩:=dR C.o.r0 C.o.r1 C.o.r2 C.o.r3 C.o.r4 (.int .u8 (a.toNat:Int)) (.int .i64 (r:Nat)) (.int .i64 (bq:Nat)) (.slice e b d) (.slice none 0 0);have p:=di (f _ _ C.o.dG ae);exact alx
          ·have U:=I.o.own;rw[<-H.o]at U;have HOWN:=di U;have D:Hid (w.heap.size+1<M.heap.size+1):=bW;have ku:Hid (∀q,(Value.slice e b d).ownBlock=some q->w.heap.size+2<=q):=fun q K=>ahX;have nW:=di yG;have rD:=di yF;have lF:=di (mH u);have lQ:=di (fun(Y:World) (bn:Nat) (hn:bn=Y.heap.size)=>lT Y u 168 bn hn);have rE:Hid (x.heap.size<=M.heap.size):=Nat.le_trans z.o.sz hs3;have rP:=di z.o.lo;clear U;go_wp2_with (at_builtin;refine dD rfl (.tmp 97) (.tmp 99) 161 rfl x.heap.size 168 i0 (.agg #[.bool false,.int .u8 0,.int .i64 0,.int .i64 0]) 4 24 Tryz.underlying161 hi0 hz0 hz1 hz2 rfl aR (.slice e b d) b (v.map Lit.cells).flatten rfl aid ⟨M.heap.size+1,0,none⟩ 1 u.cells rfl rfl (by exact lQ.o _ _ aP) lF.o aX aO aiz ?_;intro ga eZ s hown' T hg1 hg2;have y1:s.cell? ⟨w.heap.size+1,3,none⟩=some (.slice e b d):=((dP T (a:=⟨w.heap.size+1,3,none⟩) bK (fun G=>bT)).trans (dC _ _ _ bK)).trans nW.o;have y2:s.frozen? ⟨w.heap.size+1,3,none⟩=false:=((dS T (a:=⟨w.heap.size+1,3,none⟩) bK (fun G=>bT)).trans (dI _ _ _ bK)).trans (rD.o 3);obtain⟨X,jR⟩:∃X,s.setCell ⟨w.heap.size+1,3,none⟩ (.slice (some ⟨ga,0,none⟩) (b+1) eZ)=X:=⟨_,rfl⟩;have hap:=fE (eb:=w.heap.size+1) (f:=3) aiZ (HOWN.o.alloc _) bK ((dC _ _ _ bK).trans nW.o) hown' T hg2;rw[jR]at hap;have mh:Hid (nU w x X (.int .u8 (a.toNat:Int)) (.int .i64 (r:Nat)) (.int .i64 (bq:Nat)) (.slice (some ⟨ga,0,none⟩) (b+1) eZ) (v++[u])):=I.o.app _ aiH;have hcp:=l7 hown';clear hap hown' T hg1 hg2);go_roundw
           case rel=>exact⟨t+1,some ⟨ga,0,none⟩,b+1,eZ,v++[u],bJ,aO,aO,aif,mh.o,fun bg hl=>bS,aO,hcp.1,hcp.2⟩
           case measure=>exact akL
        ·have Bj:t=N:=aO;have tN:((t:Int)==(N:Int))=true:=bz;have htn:¬((t:Int)<(N:Int)):=aO;clear Bj;obtain⟨F,L,k,l,m,n,o,f,j⟩:=dR i.o.r0 i.o.r1 i.o.r2 i.o.r3 i.o.r4 (.int .u8 (a.toNat:Int)) (.int .i64 (r:Nat)) (.int .i64 (bq:Nat)) (.slice e b d) (.slice none 0 0);have p:=di (f _ _ i.o.dG ae);have sK:Hid (gV F bA.length (.returned (.tuple #[.agg #[.int .u8 (a.toNat:Int),.int .i64 (r:Nat),.int .i64 (bq:Nat),.slice e b d,.slice none 0 0],.bool true]))):=⟨a.toNat,r,bq,e,b,d,none,0,0,true,rfl,fun _=>⟨a.toNat_lt,HA.o,HBN.o,⟨v,H.o.symm,nK z.o.own (fun q K=>j q aic),oK.o,ail⟩,fun E=>absurd E Af.o⟩⟩;clear f j;go_wp2_with fail;exact bodyPost_ret (v:=.tuple #[.agg #[.int .u8 (a.toNat:Int),.int .i64 (r:Nat),.int .i64 (bq:Nat),.slice e b d,.slice none 0 0],.bool true]) aY rfl ⟨sK.o,p.o⟩
  have adP:=Z;clear Z
  by_cases Z:a.toNat=85
  ·have t70:((a.toNat:Int)==70)=false:=aj aO;have t68:((a.toNat:Int)==68)=false:=aj aO;have t81:((a.toNat:Int)==81)=false:=aj aO;have t85:((a.toNat:Int)==85)=true:=bz;have t65:((a.toNat:Int)==65)=false:=aj aO;have t82:((a.toNat:Int)==82)=false:=aj aO;exact amX
  have adN:=Z;clear Z
  by_cases Z:a.toNat=65
  ·have t70:((a.toNat:Int)==70)=false:=aj aO;have t68:((a.toNat:Int)==68)=false:=aj aO;have t81:((a.toNat:Int)==81)=false:=aj aO;have t85:((a.toNat:Int)==85)=false:=aj aO;have t65:((a.toNat:Int)==65)=true:=bz;have t82:((a.toNat:Int)==82)=false:=aj aO;have Ri:((a.toNat:Int) !=65)=false:=aim;clear Z;have HS:=di HS2.o;go_wp2_with fail
   go_loopw [6] (fun q wr=>∃(t:Nat) (e:Option Addr) (b d:Nat) (v:List Lit),q=.int .i64 t/\1<=t/\t<=N/\b=v.length/\nU w x wr (.int .u8 (a.toNat:Int)) (.int .i64 (0:Int)) (.int .i64 (0:Int)) (.slice e b d) v/\(∀bg∈v,bg.small)/\b<=t/\b<=d/\d<=2 ^ 63-1) (fun q _=>N-(intOf q).toNat)
   case atStart=>exact⟨1,none,0,0,[],rfl,aO,aO,rfl,HS.o,aP,aO,aO,aO⟩
   case round=>
    obtain⟨t,e,b,d,v,rfl,hit,G6,tK,Q,hsm,hlt,DR,DN⟩:=hrel;have z:=di Q;have oK:=di hsm;have H:=di tK;have g:=Q.bx;have yO:=g.c0;have uF:=g.c1;have vY:=g.c2;have uE:=g.c3;have yN:=g.c4;have yM:=g.cf;have xu:=g.r0;have xq:=g.r1;have xn:=g.r2;have xm:=g.r3;have yL:=g.r4;have yK:=g.rf;have AL:Hid (wr.heap[J]?=x.heap[J]?):=Q.keep J xG.o.2 aio;have i:=di g;clear Q hsm tK g
    by_cases htl:t<N
    ·obtain⟨y,O⟩:∃y,V[t]?=some y:=⟨_,aD aiO⟩;have d1:=oH.o wr AL.o t y O;have hyl:=rJ.o y (List.mem_of_getElem? O);clear O
     by_cases R:y=[124]
     ·have tb:(y==[124])=true:=akv;clear R;have tN:((t:Int)==(N:Int))=false:=aj aO;have Fg:Hid (wc (V.drop (t+1))<=wc V):=Zn V (t+1);have hcc:t+1<cv\/t+1=cv:=aO;rcases hcc with hcc|hcc
      ·have aez:(t:Int)+1<(cv:Int):=aO;have Ol:Hid ((V.drop (t+1)).length=N-(t+1)):=by show _=_;rw[List.length_drop,HN.o]
       have HND:Hid ((V.drop (t+1)).length<=N):=by show _<=_;rw[Ol.o];omega
       have HT:=di (Gs (some ⟨J,t+1,none⟩) (cv-(t+1)) (N-(t+1)) (V.drop (t+1)) wr (fun bC bD hz=>⟨J,t+1,rfl,oH.o wr AL.o (t+1+bC) bD (by rw[List.getElem?_drop]at hz;exact hz)⟩) Ol.o ⟨aO,aO⟩ aO (fun y O=>by have:=rJ.o y (List.mem_of_mem_drop O);omega));exact akR
      ·have aez:(t:Int)+1=(cv:Int):=aO;have HND:Hid (([]:List (List UInt8)).length<=N):=by show 0<=_;omega
       have Fg:Hid (wc ([]:List (List UInt8))<=wc V):=by show 0<=_;omega
       have HT:=di (Gs (some ⟨J,0,none⟩) 0 0 [] wr (fun bC bD hz=>by simp at hz) rfl ⟨aO,aO⟩ aO aP);exact akR
     ·exact akM
    ·have Bj:t=N:=aO;have tN:((t:Int)==(N:Int))=true:=bz;have htn:¬((t:Int)<(N:Int)):=aO;clear Bj;obtain⟨F,L,k,l,m,n,o,f,j⟩:=dR i.o.r0 i.o.r1 i.o.r2 i.o.r3 i.o.r4 (.int .u8 (a.toNat:Int)) (.int .i64 (0:Int)) (.int .i64 (0:Int)) (.slice e b d) (.slice none 0 0);have p:=di (f _ _ i.o.dG ae);exact akV
  have adS:=Z;clear Z
  by_cases Z:a.toNat=82
  ·have t70:((a.toNat:Int)==70)=false:=aj aO;have t68:((a.toNat:Int)==68)=false:=aj aO;have t81:((a.toNat:Int)==81)=false:=aj aO;have t85:((a.toNat:Int)==85)=false:=aj aO;have t65:((a.toNat:Int)==65)=false:=aj aO;have t82:((a.toNat:Int)==82)=true:=bz;exact amX
  have adO:=Z;clear Z;have t70:((a.toNat:Int)==70)=false:=aj aO;have t68:((a.toNat:Int)==68)=false:=aj aO;have t81:((a.toNat:Int)==81)=false:=aj aO;have t85:((a.toNat:Int)==85)=false:=aj aO;have t65:((a.toNat:Int)==65)=false:=aj aO;have t82:((a.toNat:Int)==82)=false:=aj aO;clear adQ adR adP adN adS adO;exact akQ
 ·have tl:((y0.length:Int) !=1)=true:=aZ;clear hy1;obtain⟨F,L,k,l,m,n,o,f,j⟩:=dR kL.o.r0 kL.o.r1 kL.o.r2 kL.o.r3 kL.o.r4 (.int .u8 (0:Int)) (.int .i64 (0:Int)) (.int .i64 (0:Int)) (.slice none 0 0) (.slice none 0 0);have p:=di (f _ _ kL.o.dG ae);clear f j;go_wp2_with fail;exact bodyPost_ret (v:=.tuple #[.agg #[.int .u8 (0:Int),.int .i64 (0:Int),.int .i64 (0:Int),.slice none 0 0,.slice none 0 0],.bool false]) aY rfl ⟨gV.no 0 0 0 none 0 0 none 0 0,p.o⟩
theorem Tryz.VT:(Tryz.prog.info? 164).map (fun i=>(i.zero,i.size,i.bytes))=some (some (.agg #[.int .u8 0,.int .i64 0,.int .i64 0,.slice none 0 0,.slice none 0 0]),5,72):=bL
structure Sp where
 k:Nat
 a:Nat
 b:Nat
 aL:Option Addr
 nL:Nat
 cL:Nat
 aT:Option Addr
 nT:Nat
 cT:Nat
 ls:List Lit
 m:Nat
def Sp.cells (s:Sp):List Value:=[.int .u8 s.k,.int .i64 s.a,.int .i64 s.b,.slice s.aL s.nL s.cL,.slice s.aT s.nT s.cT]
structure uy (w:World)(s:Sp):Prop where
 a:s.a<1000
 len:s.ls.length=s.nL
 lits:eP w (.slice s.aL s.nL s.cL) s.ls
 few:s.ls.length<=s.m+1
 tree:s.k=65->∃ds:List Nd,lM w (.slice s.aT s.nT s.cT) ds/\(∀d∈ds,BM d)/\fC ds<=34*(s.m+1)/\ds.length<=s.m+1
theorem uy.below {s:Sp}(h:uy w s)(a:Below w.heap.size w W):uy W s:=
 ⟨h.a,h.len,h.lits.below a,h.few,fun b=>by obtain⟨c,d,e⟩:=h.tree b;exact⟨c,d.below a,e⟩⟩
def pW (w:World)(v:Value):Prop:=∀g,v.ownBlock=some g->∃(k a:Int),w.cell? ⟨g,0,none⟩=some (.int .u8 k)/\w.cell? ⟨g,1,none⟩=some (.int .i64 a)
theorem pW.of {a:List Sp}(h:w.ownsRow n 164 5 v a.length (a.map Sp.cells).flatten)(d:a=[]->v=.slice none 0 0):pW w v:=by
 intro g b;cases a with
 | nil=>rw[d rfl]at b;simp[Value.ownBlock]at b
 | cons s a=>
  obtain⟨m,o,e,_,_,_,f⟩:=Row.dW (xs:=(s::a).map Sp.cells) h aP (by simp[Sp.cells]);obtain⟨i,j,c⟩:=f 0 aP;rw[e,j]at b;have:i=g:=by simpa[Value.ownBlock] using b
  subst this;have k:=c 0 aO (.int .u8 s.k) rfl;have l:=c 1 aO (.int .i64 s.a) rfl;exact⟨s.k,s.a,by simpa using k,by simpa using l⟩
theorem eP.Br (j:eP w V J)(k:pW w v)(l:w.grownBy W v.ownBlock):eP W V J:=by
 obtain⟨m,n,p,q,r,d⟩:=j;refine⟨m,n,p,q,r,fun i hi=>?_⟩;obtain⟨g,f,s⟩:=d i hi;refine⟨g,f,fun u=>?_⟩;have b:=s u;obtain⟨a,h,x⟩:=d 0 aO;have y:a=g:=by rw[f]at h;injection h with e;injection e with e;exact e.symm
 subst y
 have z:some a≠v.ownBlock:=fun e=>by
  obtain⟨B,C,A,_⟩:=k a e.symm;have c:=(x aO).neg;simp only[Nat.zero_mul]at c;rw[A]at c;cases c
 have t:∀o,W.cell? ⟨a,o,none⟩=w.cell? ⟨a,o,none⟩:=fun o=>dP l (a:=⟨a,o,none⟩) (World.block_lt_of_cell? w ⟨a,i*4,none⟩ b.neg) z;exact amT
theorem dV.Br (k:dV w V f)(l:pW w v)(m:w.grownBy W v.ownBlock):dV W V f:=by
 obtain⟨n,o,p,q,r,b⟩:=k;refine⟨n,o,p,q,r,fun i hi=>?_⟩;obtain⟨g,c,s⟩:=b i hi;refine⟨g,c,fun t=>?_⟩;have d:=s t;obtain⟨a,h,u⟩:=b 0 aO;have x:a=g:=by rw[c]at h;injection h with e;injection e with e;exact e.symm
 subst x
 rw[dP m (a:=⟨a,i,none⟩) (ai d) (fun e=>by
  obtain⟨z,A,y,_⟩:=l a e.symm;have j:=u aO;rw[y]at j;cases j)]
 exact d
theorem lM.Br {d:List Nd}(m:lM w V d)(f:pW w v)(g:w.grownBy W v.ownBlock):lM W V d:=by
 obtain⟨n,p,q,r,s,h⟩:=m;refine⟨n,p,q,r,s,fun i hi=>?_⟩;obtain⟨j,k,u⟩:=h i hi;refine⟨j,k,fun x=>?_⟩;have b:=u x;obtain⟨a,l,y⟩:=h 0 aO;have z:a=j:=by rw[k]at l;injection l with e;injection e with e;exact e.symm
 subst z
 have A:some a≠v.ownBlock:=fun e=>by
  obtain⟨I,J,_,B⟩:=f a e.symm;obtain⟨K,L,c,_⟩:=(y aO).mult;simp only[Nat.zero_mul,Nat.zero_add]at c;rw[B]at c;cases c
 have t:∀o,W.cell? ⟨a,o,none⟩=w.cell? ⟨a,o,none⟩:=fun o=>dP g (a:=⟨a,o,none⟩) (World.block_lt_of_cell? w ⟨a,i*4,none⟩ b.kind) A;obtain⟨C,D,E,F,G,H⟩:=b.mult;exact⟨(t _).trans b.kind,⟨C,D,(t _).trans E,F,G,H.Br f g⟩,(t _).trans b.var,(t _).trans b.num⟩
theorem uy.grown {s:Sp}(h:uy w s)(a:pW w v)(b:w.grownBy W v.ownBlock):uy W s:=
 ⟨h.a,h.len,h.lits.Br a b,h.few,fun c=>by obtain⟨d,e,f⟩:=h.tree c;exact⟨d,e.Br a b,f⟩⟩
structure Dq (w wr:World)(v:Value)(ss:List Sp):Prop where
 own:wr.ownsRow w.heap.size 164 5 v ss.length (ss.map Sp.cells).flatten
 nil:ss=[]->v=.slice none 0 0
 ok:∀s∈ss,uy wr s
 dG:Below w.heap.size w wr
theorem Dq.below {wr:World}{b:List Sp}(h:Dq w wr v b)(a:Below wr.heap.size wr W):Dq w W v b:=
 ⟨ownsRow_below h.own a,h.nil,fun s c=>(h.ok s c).below a,h.dG.trans (a.mono h.dG.size)⟩
theorem Dq.app {wr:World}{a:List Sp}{s:Sp}{X:Obj}{g cap:Nat}(h:Dq w wr v a)(i:uy wr s)(j:W.ownsRow w.heap.size 164 5 (.slice (some ⟨g,0,none⟩) (a.length+1) cap) (a.length+1) ((a.map Sp.cells).flatten++s.cells))(d:(wr.alloc X).grownBy W v.ownBlock):Dq w W (.slice (some ⟨g,0,none⟩) (a.length+1) cap) (a++[s]):=by
 have e:Below wr.heap.size wr (wr.alloc X):=af.alloc ae X;have b:=h.below e;have f:=pW.of b.own b.nil;refine⟨?_,fun k=>by simp at k,fun x c=>?_,b.dG.grown d b.dG.size (fun l m=>(h.own.lt l m).1)⟩
 ·rw[List.length_append];simpa using j
 ·rcases List.mem_append.1 c with c|c
  ·exact(b.ok x c).grown f d
  ·rw[List.mem_singleton.1 c];exact(i.below e).grown f d
def ny (ss:List Sp):Nat:=(ss.map (fun s=>s.m+1)).sum
def Q9 (w':World)(n:Nat)(e:Ending):Prop:=∃(a:Option Addr) (m c:Nat) (b:Bool),e=.returned (.tuple #[.slice a m c,.bool b])/\(b=true->∃ss:List Sp,ss.length=m/\Row w' 5 (.slice a m c) (ss.map Sp.cells)/\(∀s∈ss,uy w' s)/\ny ss<=n+1)
theorem Q9.no (a:Option Addr)(m c:Nat):Q9 w n (.returned (.tuple #[.slice a m c,.bool false])):=⟨a,m,c,false,rfl,aP⟩
theorem Q8 (x:List UInt8)(E:World)(hx:x.length<=90000) :
 Calls Tryz.prog 103 #[.string ⟨x.toArray⟩] E fun F X=>Q9 X x.length F/\Below E.heap.size E X:=by
 have hR:=fJ;obtain⟨i0,hi0,hz0,hz1,hz2⟩:=info_parts Tryz.VT;have yt:=di (fun W=>F7 x 10 W aO);have adg:=di (fun y W (bg:y.length<=200000)=>Rx y W bg);go_enter Tryz.func103,Tryz.ntmps103;go_wp2_with fail;refine(yt.o _).mono ?_;rintro F l ⟨⟨Y,a,rfl,s,G,hsum⟩,Z⟩;obtain⟨av,cv,hv,q1,q2,H⟩:=dQ s;subst hv;have I:=di Z
 have rJ:Hid (∀y∈a,y.length<=90001):=fun y n=>by
  have j:y.length<=(a.map List.length).sum:=uS (List.mem_map_of_mem n);exact aO
 obtain⟨N,J⟩:=aJ a.length
 obtain⟨o,rfl⟩:∃o,av=some ⟨o,0,none⟩:=by
  obtain⟨o,j,_⟩:=H 0 G;exact⟨o,j⟩
 have Y3:Hid (o<l.heap.size):=(s.lt o rfl).2
 have oH:Hid (∀(W:World),Below l.heap.size l W->∀p y,a[p]?=some y->W.cell? ⟨o,p,none⟩=some (.string ⟨y.toArray⟩)):=fun W hW p y n=>by
  obtain⟨hj,hy'⟩:=List.getElem?_eq_some_iff.1 n;obtain⟨g',j,B,_⟩:=H p hj;injection j with j
  injection j with j;subst j;rw[hW.cell (p:=⟨o,p,none⟩) Y3.o,B];simp[n,dO]
 have ae7:Hid (∀k,((a.take k).map (fun y=>y.length+1)).sum<=x.length+1):=fun k=>by
  have e1:∀z:List (List UInt8),(z.map (fun y=>y.length+1)).sum=(z.map List.length).sum+z.length:=fun z=>by
   induction z with
   | nil=>rfl
   | cons u z ih=>simp only[List.map_cons,List.sum_cons,List.length_cons,ih];omega
  have K:a=a.take k++a.drop k:=(List.take_append_drop k a).symm
  have e3:(a.map (fun y=>y.length+1)).sum=((a.take k).map (fun y=>y.length+1)).sum+((a.drop k).map (fun y=>y.length+1)).sum:=by
   conv=>lhs;rw[K]
   rw[List.map_append,List.sum_append]
  have e4:=e1 a;exact aO
 have HN:=di J;have hN9:N<=90001:=aO;rw[J]at q1 G ⊢;obtain⟨yl,L⟩:∃y,a[N-1]?=some y:=⟨_,aD aiC⟩;have C:=oH.o l af (N-1) yl L;have ry:Hid (Dq l l (.slice none 0 0) []):=⟨World.ownsRow_nil _ _ _ _,fun _=>rfl,aP,af⟩;obtain⟨M,hM⟩:∃M,N=M+1:=⟨N-1,aO⟩;subst hM;rw[show M+1-1=M by omega]at C;clear s hsum H Z J L G;cases el:(yl==[])
 ·go_wp2_with fail;go_ret2;exact⟨.no _ _ _,I.o⟩
 ·go_wp2_with fail;clear C
  go_loopw [6,7] (fun Y O wr=>∃(t:Nat) (u:Option Addr) (m q:Nat) (r:List Sp),Y=.slice u m q/\m=r.length/\O=.int .i64 t/\t<=M/\Dq l wr (.slice u m q) r/\ny r=((a.take t).map (fun y=>y.length+1)).sum/\m=t/\m<=q/\q<=2 ^ 63-1) (fun _ O _=>M-(intOf O).toNat)
  case atStart=>exact⟨0,none,0,0,[],rfl,rfl,rfl,aO,ry.o,rfl,rfl,aO,aO⟩
  case round=>
   obtain⟨t,u,m,q,r,rfl,hm,rfl,ht,P,hsl,hmt,hc1,hc2⟩:=hrel;have D:=di P;have Di:=di hsl;have v:=di hm;have HMT:=di hmt;have hm9:m<=90001:=aO;have Q:=di (I.o.trans (P.dG.mono I.o.size));clear P hsl hm hmt
   by_cases htl:t<M
   ·obtain⟨y,n⟩:∃y,a[t]?=some y:=⟨_,aD aiC⟩;have C:=oH.o wr D.o.dG t y n;have L:=rJ.o y (List.mem_of_getElem? n);have HC:=di (adg.o y wr aO)
    have ru:Hid (((a.take (t+1)).map (fun y=>y.length+1)).sum=((a.take t).map (fun y=>y.length+1)).sum+(y.length+1)):=by
     show _=_;rw[List.take_add_one,n];exact aP
    clear n;have G6:(t:Int)<((M:Int)+1):=aO;go_wp2_with fail;refine HC.o.mono ?_;rintro F w2 ⟨⟨k,b,c,d,e,f,g,h,i,ok,rfl,hok⟩,R⟩;have rz:=di hok;have jN:=di (D.o.below R);have D6:=di (Q.o.trans (R.mono Q.o.size));have ag4:=jN.o.dG.size;clear hok R C;cases ok
    ·have HB3:=di (D6.o.alloc D6.o.size (.cells #[.int .u8 k,.int .i64 b,.int .i64 c,.slice d e f,.slice g h i] 164));go_wp2_with fail;go_ret2;exact⟨.no _ _ _,HB3.o⟩
    ·obtain⟨j,B,h3,⟨S,l1,l2,l3,l4⟩,htr⟩:=rz.o rfl;have Fp:Hid (uy (w2.alloc (.cells #[.int .u8 k,.int .i64 b,.int .i64 c,.slice d e f,.slice g h i] 164)) ⟨k,b,c,d,e,f,g,h,i,S,y.length⟩):=uy.below ⟨B,l1,l2,l4,fun hk=>by obtain⟨ds,e1,K,e3,e4,e5⟩:=htr hk;exact⟨ds,K,e3,e4,e5⟩⟩ ag;have Lu:=di (jN.o.below (af.alloc ae (.cells #[.int .u8 k,.int .i64 b,.int .i64 c,.slice d e f,.slice g h i] 164)));have s:=Lu.o.own;rw[<-v.o]at s;have HOWN:=di s
     have lF:Hid (∀A∈[Value.int .u8 (k:Int),.int .i64 (b:Int),.int .i64 (c:Int),.slice d e f,.slice g h i],A.oneCell'=true):=by
      intro A hu;simp only[List.mem_cons,List.not_mem_nil,or_false]at hu;rcases hu with rfl|rfl|rfl|rfl|rfl<;>rfl
     have lQ:Hid (∀(W:World) (w:Nat),w=W.heap.size->∀p A,[Value.int .u8 (k:Int),.int .i64 (b:Int),.int .i64 (c:Int),.slice d e f,.slice g h i][p]?=some A->(W.alloc (.cells #[.int .u8 (k:Int),.int .i64 (b:Int),.int .i64 (c:Int),.slice d e f,.slice g h i] 164)).cell? ((⟨w,0,none⟩:Addr).add p)=some A):=fun W w hn=>Db W [.int .u8 (k:Int),.int .i64 (b:Int),.int .i64 (c:Int),.slice d e f,.slice g h i] _ w hn;clear j B h3 l1 l2 l3 l4 htr s;go_wp2_with (at_builtin;refine dD rfl (.tmp 35) (.tmp 37) 154 rfl l.heap.size 164 i0 (.agg #[.int .u8 0,.int .i64 0,.int .i64 0,.slice none 0 0,.slice none 0 0]) 5 72 Tryz.underlying154 hi0 hz0 hz1 hz2 rfl aR (.slice u m q) m (r.map Sp.cells).flatten rfl (by exact HOWN.o.alloc _) ⟨w2.heap.size+1,0,none⟩ 1 [.int .u8 (k:Int),.int .i64 (b:Int),.int .i64 (c:Int),.slice d e f,.slice g h i] rfl rfl (by exact lQ.o _ _ aP) lF.o aX aO aQ ?_;intro T U w3 V hgrow hbg Ap;have BZ:Hid (Dq l w3 (.slice (some ⟨T,0,none⟩) (m+1) U) (r++[⟨k,b,c,d,e,f,g,h,i,S,y.length⟩])):=(by have h9:=Dq.app (g:=T) (cap:=U) Lu.o Fp.o (by rw[<-v.o];exact V) hgrow;rw[<-v.o]at h9;exact h9);have hcp:=l7 V;clear V hgrow hbg Ap);go_roundw
     case rel=>exact⟨t+1,some ⟨T,0,none⟩,m+1,U,r++[⟨k,b,c,d,e,f,g,h,i,S,y.length⟩],rfl,by rw[List.length_append,<-v.o];rfl,bJ,aO,BZ.o,by rw[ru.o,<-Di.o];unfold ny;rw[List.map_append,List.sum_append];simp,by have:=HMT.o;omega,hcp.1,hcp.2⟩
     case measure=>exact akL
   ·have iQ:Hid (Q9 wr x.length (.returned (.tuple #[.slice u m q,.bool true]))):=⟨u,m,q,true,rfl,fun _=>⟨r,v.o.symm,Row.dW (by have:=D.o.own;rw[<-v.o]at this;exact this) (by rw[List.length_map];exact v.o) (by simp[Sp.cells]),D.o.ok,by rw[Di.o];exact ae7.o t⟩⟩;go_wp2_with fail;go_ret2;exact⟨iQ.o,Q.o⟩
end Go.Proofs.YtbichedkajfmiaaGreatDoor
