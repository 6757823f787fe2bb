import Derived.BigRegion
import Derived.Test.YtjiagbaaikifpaaGreatDoorGRef21
set_option maxRecDepth 100000
set_option maxHeartbeats 16000000
namespace Go.Proofs.YtjiagbaaikifpaaGreatDoor
open Go.RowKit Go.Proofs.Tryz
theorem adl (b k:Nat)(own:Own)(S:Doc.dO)(p:Nat)(d:List Doc.Tr)(c:Tc)(w:World)(H:ed w own k b S)(hfr:eD own w)(z:k≠0)(hw:Doc.iq S)(I:jy w (λJ=>own J=0) 13 c (.list p d))(h0:0<d.length)(hwd:Doc.fE d<=800) :
 dH 141 #[dK b 0,.agg #[dD c.x,.bool c.bb,.slice c.ao c.m c.cap,dw c.p]] w λbg w'=>lI w w' own k b S (Doc.pop S p d) bg:=by
 have hR:=gU;have hcp:c.p=p:=by obtain⟨_,_,hc,_⟩:=I.kids;rw[hc]
 have K:dB w (w.alloc (.cells #[dD c.x,.bool c.bb,.slice c.ao c.m c.cap,dw c.p] 138)):=ai;have HB0:=dn K;have L:=dn H;have M:=dn hfr;have K6:=dn (He (λJ=>own J=0) p d c _ (I.below K) h0 hwd);have HP:Hid (Doc.pop S p d=match Doc.count p d with|.error A=>.error A|.ok n=>if n>S.levels.length then .error (10,p) else .ok (Doc.wY n S)):=rfl;have xG:=dn (λA=>Doc.KM (p:=p) (ks:=d) (x:=A));have rY:=dn (λn=>Doc.count_le (p:=p) (ks:=d) (n:=n));have hnl:=hw.ve;generalize Doc.pop S p d=R at *;generalize Doc.count p d=RC at *;obtain⟨A,bb,ao,m,cap,N⟩:=c;simp only at hcp HB0 K6;subst hcp;simp only;clear K I hwd;go_enter func141,ntmps141;go_wp2_with fail;refine K6.o.mono ?_;rintro bg w1 ⟨rfl,O⟩;have P:=HB0.o.trans (O.mono aW);have j:=dn P;have b3:=(O.cell (p:=dA w.heap.size 3) aW).trans (show _=some (dw N) by simp);obtain⟨o,q,s,t,u,v,aL,l,Q,T,U,B,g0,g0',g1,g1',g2,g2',g3,g3'⟩:=(H.below P).fields;clear O P H hfr;cases RC with
 | error V=>
  have hy:=xG.o V rfl;have x:Hid (R=.error V):=HP.o;have hen:((V.1:Int) !=0)=true:=by rw[hy];rfl
  clear hy;unfold yY;go_wp2;go_ret2;rw[x.o];exact⟨own,Fr.of_below k M.o j.o,rfl,L.o.below j.o⟩
 | ok n=>
  have hn5:=rY.o n rfl;have HR1:Hid (R=if n>S.levels.length then .error (10,N) else .ok (Doc.wY n S)):=HP.o;unfold yY
  by_cases h4:n>S.levels.length
  ·have x:Hid (R=.error (10,N)):=by show _=_;rw[HR1.o,if_pos h4]
   go_wp2_with fail;go_quiet (fail);go_wp2;go_ret2;rw[x.o];exact(lI.err (Fr.of_below k M.o j.o) (L.o.below j.o)).below (below_drewN af _)
  ·have x:Hid (R=.ok (Doc.wY n S)):=by show _=_;rw[HR1.o,if_neg h4]
   clear Q T U;go_wp2_with fail
   go_loopw [6] (fun W wr=>∃(r:Nat) (a:Doc.dO),W=dw r/\r<=a.levels.length/\a.levels.length<=4/\Doc.iq a/\Doc.wY r a=Doc.wY n S/\Fr own own k w wr/\ed wr own k b a) (fun W _=>(intOf W).toNat)
   ·exact⟨n,S,rfl,aR,hnl,hw,rfl,Fr.of_below k M.o j.o,L.o.below j.o⟩
   case round=>
    obtain⟨r,a,rfl,hr,hl4,hwS,hpn,hf,f⟩:=hrel;have Et:=dn hpn;have X:=dn hf;have HST:=dn f;have zi:=dn hwS;clear hpn hf hwS
    by_cases hr0:0<r
    ·obtain⟨m,C⟩:∃m,a.levels.length=m+1:=⟨a.levels.length-1,aR⟩;have D:m<a.levels.length:=aR;obtain⟨o,q,s,t,u,v,aL,l,Q,T,U,B,g0,g0',g1,g1',g2,g2',g3,g3'⟩:=f.fields;obtain⟨vL,y,l2⟩:=f.levels;have WW:vL=.slice aL a.levels.length l:=by rw[B]at y;injection y with y;exact y.symm
     subst WW;obtain⟨aL',cL',hsv,_,_,hel⟩:=l2.sl;injection hsv with e1 e2 e3;subst e1 e3;obtain⟨e,rfl,_,afm⟩:=hel m D;obtain⟨cc,_,Y,E⟩:=afm D;have Y:cc=_:=Y;subst Y;have F:=E 0 _ aR rfl;have r1:=E 1 _ aR rfl;have r2:=E 2 _ aR rfl;have G:=zi.o.Bg a.levels[m] (List.getElem_mem D);have q1:=G.a;have q2:=G.b;have q3:=G.c
     have Z:a.levels=a.levels.take m++[a.levels[m]]:=by
      have bn:=List.take_append_drop m a.levels;rw[List.drop_eq_getElem_cons D,List.drop_eq_nil_of_le aR]at bn;exact bn.symm
     have aja:Hid (Doc.SI a=Doc.back a a.levels[m] (a.levels.take m)):=Doc.Jr Z;have aj6:=dn (Doc.JP zi.o (R:=[]) Z);have hlt:=f.lt;have hn1:b≠wr.heap.size:=aR;have hn2:=hn1.symm;have NU:=f.fr 0;have ale:=f.fr 1;have hfr2:=f.fr 2;have JA:=f.fr 3;generalize hlv:a.levels[m]=lv at *;obtain⟨g,h,i⟩:=lv;simp only at F r1 r2 q1 q2 q3;rw[C]at B g3;have hm4:m<=3:=aR;have HM:=dn C;have hgl:e<wr.heap.size:=aj F;have r0a:(wr.alloc (.cells #[dw 0,dw 0,dw 0] 173)).dQ e (m*3+0)=some (dw g):=(dV _ _ (dA e (m*3+0)) hgl).trans F;have r1a:(wr.alloc (.cells #[dw 0,dw 0,dw 0] 173)).dQ e (m*3+1)=some (dw h):=(dV _ _ (dA e (m*3+1)) hgl).trans r1;have r2a:(wr.alloc (.cells #[dw 0,dw 0,dw 0] 173)).dQ e (m*3+2)=some (dw i):=(dV _ _ (dA e (m*3+2)) hgl).trans r2;simp only[Nat.add_zero]at F r0a
     have HCH:Hid (Fr own own k wr ((((wr.oq b 3 (dJ e m l)).oq b 0 (.slice o g q)).oq b 1 (.slice s h t)).oq b 2 (.slice u i v))/\
      ed ((((wr.oq b 3 (dJ e m l)).oq b 0 (.slice o g q)).oq b 1 (.slice s h t)).oq b 2 (.slice u i v)) own k b (Doc.back a (g,h,i) (a.levels.take m))):=by
      obtain⟨y1,z1⟩:=HST.o.XC (n:=m) (ao:=some (dA e 0)) (cap:=l) X.o.fresh z (by rw[HM.o];exact B) (aP HM.o);obtain⟨y2,z2⟩:=z1.adM (n:=g) (ao:=o) (cap:=q) y1.fresh z (setOther _ _ Q (.inr aW)) q1;obtain⟨y3,z3⟩:=z2.Gx (n:=h) (ao:=s) (cap:=t) y2.fresh z (setOther _ _ (setOther _ _ T (.inr aW)) (.inr aW)) q2;obtain⟨y4,z4⟩:=z3.adN (n:=i) (ao:=u) (cap:=v) y3.fresh z (setOther _ _ (setOther _ _ (setOther _ _ U (.inr aW)) (.inr aW)) (.inr aW)) q3;exact⟨((y1.trans y2).trans y3).trans y4,z4⟩
     clear hel afm E Z G y l2 f hlv C;go_wp2_with fail;go_region;go_wp2_with fail;go_region;go_wp2_with fail;go_region;go_wp2_with fail;go_region;go_wp2_with fail;go_region;go_wp2;go_roundw
     case rel=>
      obtain⟨c1,c2⟩:=HCH.o;have hbl:=((((((Below.refl _ ((((wr.oq b 3 (dJ e m l)).oq b 0 (.slice o g q)).oq b 1 (.slice s h t)).oq b 2 (.slice u i v))).alloc ae (.cells #[dw g,dw h,dw i] 173)).drew).drew).drew).drew).drew;have C:=HM.o;refine⟨r-1,Doc.back a (g,h,i) (a.levels.take m),bL,by simp[Doc.back];omega,by simp[Doc.back];omega,aj6.o,?_,(X.o.trans c1).trans (Fr.of_below k c1.fresh hbl),c2.below hbl⟩;rw[<-aja.o,<-Et.o];obtain⟨r',rfl⟩:∃r',r=r'+1:=⟨r-1,aR⟩;rfl
     case measure=>exact aph
    ·have HRF:Hid (R=.ok a):=by
      show _=_;rw[x.o,<-Et.o,show r=0 by omega];rfl
     clear f;go_wp2;go_ret2;rw[HRF.o];exact⟨own,X.o,rfl,HST.o⟩
