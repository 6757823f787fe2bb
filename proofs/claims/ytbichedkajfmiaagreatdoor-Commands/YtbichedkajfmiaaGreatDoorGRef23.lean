import Derived.BigRegion
import Derived.Test.YtbichedkajfmiaaGreatDoorGRef22
import Derived.Test.YtbichedkajfmiaaGreatDoorC
set_option maxRecDepth 100000
set_option maxHeartbeats 16000000
namespace Go.Proofs.YtbichedkajfmiaaGreatDoor
open Go.RowKit
theorem ZL (b k:Nat)(own:Own)(S:Doc.dB)(p:Nat)(d:List Doc.Tr)(c:Tc)(w:World)(H:dE w own k b S)(hfr:dH own w)(z:k≠0)(hw:Doc.fQ S)(I:ik w (fun J=>own J=0) 13 c (.list p d))(h0:0<d.length)(hwd:Doc.eu d<=800) :
 Calls Tryz.prog 139 #[.pointer (some ⟨b,0,none⟩),.agg #[.string ⟨c.x.toArray⟩,.bool c.bb,.slice c.ao c.m c.cap,.int .i64 c.p]] w fun bg w'=>jy w w' own k b S (Doc.pop S p d) bg:=by
 have hR:=fJ;have hcp:c.p=p:=by obtain⟨_,_,hc,_⟩:=I.kids;rw[hc]
 have K:Below w.heap.size w (w.alloc (.cells #[.string ⟨c.x.toArray⟩,.bool c.bb,.slice c.ao c.m c.cap,.int .i64 c.p] 138)):=ag;have HB0:=di K;have L:=di H;have M:=di hfr;have Ie:=di (Ep (fun J=>own J=0) p d c _ (I.below K) h0 hwd);have HP:Hid (Doc.pop S p d=match Doc.count p d with|.error A=>.error A|.ok n=>if n>S.levels.length then .error (10,p) else .ok (Doc.uk n S)):=rfl;have uf:=di (fun A=>Doc.Ho (p:=p) (ks:=d) (x:=A));have uL:=di (fun n=>Doc.count_le (p:=p) (ks:=d) (n:=n));have hnl:=hw.rY;generalize Doc.pop S p d=R at *;generalize Doc.count p d=RC at *;obtain⟨A,bb,ao,m,cap,N⟩:=c;simp only at hcp HB0 Ie;subst hcp;simp only;clear K I hwd;go_enter Tryz.func139,Tryz.ntmps139;go_wp2_with fail;refine Ie.o.mono ?_;rintro bg w1 ⟨rfl,O⟩;have P:=HB0.o.trans (O.mono aP);have j:=di P;have b3:=(O.cell (p:=⟨w.heap.size,3,none⟩) aP).trans (show _=some (.int .i64 N) by simp);obtain⟨o,q,s,t,u,v,aL,l,Q,T,U,B,g0,g0',g1,g1',g2,g2',g3,g3'⟩:=(H.below P).fields;clear O P H hfr;cases RC with
 | error V=>
  have hy:=uf.o V rfl;have x:Hid (R=.error V):=HP.o;have hen:((V.1:Int) !=0)=true:=by rw[hy];rfl
  clear hy;unfold wB;go_wp2_with fail;go_ret2;rw[x.o];exact⟨own,Fr.of_below k M.o j.o,rfl,L.o.below j.o⟩
 | ok n=>
  have hn5:=uL.o n rfl;have HR1:Hid (R=if n>S.levels.length then .error (10,N) else .ok (Doc.uk n S)):=HP.o;unfold wB
  by_cases h4:n>S.levels.length
  ·have x:Hid (R=.error (10,N)):=by show _=_;rw[HR1.o,if_pos h4]
   go_wp2_with fail;go_quiet (fail);go_wp2_with fail;go_ret2;rw[x.o];exact(jy.err (Fr.of_below k M.o j.o) (L.o.below j.o)).below (below_drewN af _)
  ·have x:Hid (R=.ok (Doc.uk n S)):=by show _=_;rw[HR1.o,if_neg h4]
   clear Q T U;go_wp2_with fail
   go_loopw [6] (fun W wr=>∃(r:Nat) (a:Doc.dB),W=.int .i64 r/\r<=a.levels.length/\a.levels.length<=4/\Doc.fQ a/\Doc.uk r a=Doc.uk n S/\Fr own own k w wr/\dE wr own k b a) (fun W _=>(intOf W).toNat)
   case atStart=>exact⟨n,S,rfl,aO,hnl,hw,rfl,Fr.of_below k M.o j.o,L.o.below j.o⟩
   case round=>
    obtain⟨r,a,rfl,hr,hl4,hwS,hpn,hf,f⟩:=hrel;have HPN:=di hpn;have X:=di hf;have HST:=di f;have BQ:=di hwS;clear hpn hf hwS
    by_cases hr0:0<r
    ·obtain⟨m,C⟩:∃m,a.levels.length=m+1:=⟨a.levels.length-1,aO⟩;have D:m<a.levels.length:=aO;obtain⟨o,q,s,t,u,v,aL,l,Q,T,U,B,g0,g0',g1,g1',g2,g2',g3,g3'⟩:=f.fields;obtain⟨vL,y,l2⟩:=f.levels;have Sz:vL=.slice aL a.levels.length l:=by rw[B]at y;injection y with y;exact y.symm
     subst Sz;obtain⟨aL',cL',hsv,_,_,hel⟩:=l2.sl;injection hsv with e1 e2 e3;subst e1 e3;obtain⟨e,rfl,_,abz⟩:=hel m D;obtain⟨cc,_,Y,E⟩:=abz D;have Y:cc=_:=Y;subst Y;have F:=E 0 _ aO rfl;have r1:=E 1 _ aO rfl;have r2:=E 2 _ aO rfl;have G:=BQ.o.yJ a.levels[m] (List.getElem_mem D);have q1:=G.a;have q2:=G.b;have q3:=G.c
     have Z:a.levels=a.levels.take m++[a.levels[m]]:=by
      have bn:=List.take_append_drop m a.levels;rw[List.drop_eq_getElem_cons D,List.drop_eq_nil_of_le aO]at bn;exact bn.symm
     have afl:Hid (Doc.OX a=Doc.back a a.levels[m] (a.levels.take m)):=Doc.FM Z;have aga:=di (Doc.Gb BQ.o (R:=[]) Z);have hlt:=f.lt;have hn1:b≠wr.heap.size:=aO;have hn2:=hn1.symm;have KG:=f.fr 0;have ahn:=f.fr 1;have hfr2:=f.fr 2;have FT:=f.fr 3;generalize hlv:a.levels[m]=lv at *;obtain⟨g,h,i⟩:=lv;simp only at F r1 r2 q1 q2 q3;rw[C]at B g3;have hm4:m<=3:=aO;have HM:=di C;have hgl:e<wr.heap.size:=ai F;have r0a:(wr.alloc (.cells #[.int .i64 0,.int .i64 0,.int .i64 0] 172)).cell? ⟨e,m*3+0,none⟩=some (.int .i64 g):=(dC _ _ ⟨e,m*3+0,none⟩ hgl).trans F;have r1a:(wr.alloc (.cells #[.int .i64 0,.int .i64 0,.int .i64 0] 172)).cell? ⟨e,m*3+1,none⟩=some (.int .i64 h):=(dC _ _ ⟨e,m*3+1,none⟩ hgl).trans r1;have r2a:(wr.alloc (.cells #[.int .i64 0,.int .i64 0,.int .i64 0] 172)).cell? ⟨e,m*3+2,none⟩=some (.int .i64 i):=(dC _ _ ⟨e,m*3+2,none⟩ hgl).trans r2;simp only[Nat.add_zero]at F r0a
     have HCH:Hid (Fr own own k wr ((((wr.setCell ⟨b,3,none⟩ (.slice (some ⟨e,0,none⟩) m l)).setCell ⟨b,0,none⟩ (.slice o g q)).setCell ⟨b,1,none⟩ (.slice s h t)).setCell ⟨b,2,none⟩ (.slice u i v))/\
      dE ((((wr.setCell ⟨b,3,none⟩ (.slice (some ⟨e,0,none⟩) m l)).setCell ⟨b,0,none⟩ (.slice o g q)).setCell ⟨b,1,none⟩ (.slice s h t)).setCell ⟨b,2,none⟩ (.slice u i v)) own k b (Doc.back a (g,h,i) (a.levels.take m))):=by
      obtain⟨y1,z1⟩:=HST.o.Tp (n:=m) (ao:=some ⟨e,0,none⟩) (cap:=l) X.o.fresh z (by rw[HM.o];exact B) (by have:=HM.o;omega);obtain⟨y2,z2⟩:=z1.Z9 (n:=g) (ao:=o) (cap:=q) y1.fresh z (setOther _ _ Q (.inr aP)) q1;obtain⟨y3,z3⟩:=z2.DX (n:=h) (ao:=s) (cap:=t) y2.fresh z (setOther _ _ (setOther _ _ T (.inr aP)) (.inr aP)) q2;obtain⟨y4,z4⟩:=z3.aaa (n:=i) (ao:=u) (cap:=v) y3.fresh z (setOther _ _ (setOther _ _ (setOther _ _ U (.inr aP)) (.inr aP)) (.inr aP)) q3;exact⟨((y1.trans y2).trans y3).trans y4,z4⟩
     clear hel abz E Z G y l2 f hlv C;go_wp2_with fail;go_region;go_wp2_with fail;go_region;go_wp2_with fail;go_region;go_wp2_with fail;go_region;go_wp2_with fail;go_region;go_wp2_with fail;go_roundw
     case rel=>
      obtain⟨c1,c2⟩:=HCH.o;have hbl:=((((((Below.refl _ ((((wr.setCell ⟨b,3,none⟩ (.slice (some ⟨e,0,none⟩) m l)).setCell ⟨b,0,none⟩ (.slice o g q)).setCell ⟨b,1,none⟩ (.slice s h t)).setCell ⟨b,2,none⟩ (.slice u i v))).alloc ae (.cells #[.int .i64 g,.int .i64 h,.int .i64 i] 172)).drew).drew).drew).drew).drew;have C:=HM.o;refine⟨r-1,Doc.back a (g,h,i) (a.levels.take m),bJ,by simp[Doc.back];omega,by simp[Doc.back];omega,aga.o,?_,(X.o.trans c1).trans (Fr.of_below k c1.fresh hbl),c2.below hbl⟩;rw[<-afl.o,<-HPN.o];obtain⟨r',rfl⟩:∃r',r=r'+1:=⟨r-1,aO⟩;rfl
     case measure=>exact akL
    ·have HRF:Hid (R=.ok a):=by
      show _=_;rw[x.o,<-HPN.o,show r=0 by omega];rfl
     clear f;go_wp2_with fail;go_ret2;rw[HRF.o];exact⟨own,X.o,rfl,HST.o⟩
end Go.Proofs.YtbichedkajfmiaaGreatDoor
