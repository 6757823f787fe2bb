import Derived.Test.YtbichedkajfmiaaGreatDoorGCert0
import Derived.Test.YtbichedkajfmiaaGreatDoorGKept2
import Derived.Test.YtbichedkajfmiaaGreatDoorGNode0
import Derived.Test.YtbichedkajfmiaaGreatDoorGSum0
import Derived.Test.YtbichedkajfmiaaGreatDoorGSum5
import Derived.Test.YtbichedkajfmiaaGreatDoorC
set_option maxRecDepth 100000
set_option maxHeartbeats 16000000
namespace Go.Proofs.YtbichedkajfmiaaGreatDoor
open Go.RowKit
variable {a:Option Addr}{f:List Int}{k m n:Nat}{v:Value}{w:World}
def Ea (i m:Nat)(e:Ending):Prop:=∃(j:Nat) (b:Bool),e=.returned (.tuple #[.int .i64 j,.bool b])/\(b=true->i<j/\j<=m)
theorem Ea.no:Ea n m (.returned (.tuple #[.int .i64 k,.bool false])):=⟨k,false,rfl,aP⟩
theorem vO {b:List S2}(j:mg w v b):∃c a,v=.slice c b.length a/\b.length<=a/\a<=2 ^ 63-1/\∀i s,b[i]?=some s->∃g,c=some ⟨g,0,none⟩/\w.cell? ⟨g,i*2,none⟩=some s.v/\w.cell? ⟨g,i*2+1,none⟩=some (.string ⟨(dn.dec s.c).toArray⟩)/\dV w s.v s.zs:=by
 obtain⟨⟨c,a,f,h,k,o,l⟩,m⟩:=j;rw[List.length_map]at f h;refine⟨c,a,f,h,by unfold maxLen at k;omega,fun i s d=>?_⟩;obtain⟨hi,d⟩:=List.getElem?_eq_some_iff.1 d;obtain⟨g,n,e⟩:=l i ahT;simp only[List.getElem_map,d]at e;exact⟨g,n,e 0 aO _ rfl,e 1 aO _ rfl,m s (by rw[<-d];exact List.getElem_mem hi)⟩
theorem Sd (h:dV w v f):∃a c,v=.slice a f.length c/\f.length<=c/\c<=2 ^ 63-1:=by
 obtain⟨a,c,b,d,e,_⟩:=h;exact⟨a,c,b,d,e⟩
theorem JP (h:dV w (.slice a n m) f):∀i z,f[i]?=some z->∃g,a=some ⟨g,0,none⟩/\w.cell? ⟨g,i,none⟩=some (.string ⟨(dn.dec z).toArray⟩):=by
 obtain⟨k,l,e,_,_,c⟩:=h;injection e with e _ _
 subst e;intro i z b;obtain⟨hi,b⟩:=List.getElem?_eq_some_iff.1 b;obtain⟨g,d,j⟩:=c i hi;exact⟨g,d,by rw[<-b];exact j hi⟩
theorem WZ (pb bb:Nat)(H:List dX)(held:List Nat)(cs:List (List Lit))(hts:H.length<=1000)(hwf:iU H)(qJ:wH H)(d:List Nd)(hds:∀bq∈d,BM bq)(Yl:fC d<=1000000000)(hdl:d.length<=700000) :
 ∀(bA i:Nat),bA=d.length-i->i<=d.length->∀(w:World) (vl vt:Value) (h:List S2),fT w pb bb H held cs->mg w vl h->lM w vt d->(∀s∈h,s.zs.length=H.length/\LB (10030+fC (d.take i)) s.zs s.c)->h.length<=200000+i->
 Calls Tryz.prog 150 #[.pointer (some ⟨pb,0,none⟩),vl,vt,.int .i64 i] w fun e C=>Ea i d.length e/\Below w.heap.size w C:=by
 intro bA
 induction bA using Nat.strongRecOn with
 | _ bA ih=>
 intro i hr hi w vl vt h hp hss hnd hlb hsl
 have IH:Hid (∀j,i<j->j<=d.length->∀(W:World) (bn:Value) (s2:List S2),Below w.heap.size w W->mg W bn s2->(∀s∈s2,s.zs.length=H.length/\LB (10030+fC (d.take j)) s.zs s.c)->s2.length<=200000+j->Calls Tryz.prog 150 #[.pointer (some ⟨pb,0,none⟩),bn,vt,.int .i64 j] W fun e C=>Ea j d.length e/\Below W.heap.size W C):=
  fun j m r W bn s2 D hs2 hl2 hsl2=>ih (d.length-j) aO j rfl r W bn vt s2 (hp.below D) hs2 (hnd.below D) hl2 hsl2
 have HOF:Hid (∀(j:Nat) (C:World),j<H.length->Below w.heap.size w C->Calls Tryz.prog 205 #[.pointer (some ⟨pb,0,none⟩),.int .i64 j] C fun e w''=>E9 H j w'' C.heap.size e/\Below C.heap.size C w''):=fun j C U hbw=>Sc pb bb H held cs hts hwf qJ j C (hp.below hbw) U;have AJ:=di hss;have Dm:=di hlb;obtain⟨al,yc,rfl,sl1,sl2,hsg⟩:=vO hss;obtain⟨an,aeP,rfl,nd1,nd2,hel⟩:=id hnd;unfold maxLen at nd2
 have YQ:Hid (∀W,Below w.heap.size w W->∀i s,h[i]?=some s->∃n,al=some ⟨n,0,none⟩/\W.cell? ⟨n,i*2,none⟩=some s.v/\W.cell? ⟨n,i*2+1,none⟩=some (.string ⟨(dn.dec s.c).toArray⟩)/\dV W s.v s.zs):=fun W D i s f=>by
  obtain⟨n,m,r,h3,h4⟩:=hsg i s f;exact⟨n,m,(D.cell (p:=⟨n,i*2,none⟩) (ai r)).trans r,(D.cell (p:=⟨n,i*2+1,none⟩) (ai h3)).trans h3,h4.below D⟩
 obtain⟨vT,hT0,hT1⟩:=hp.terms;obtain⟨aT,jZ,rfl,SK,hT3,Wy⟩:=hT1;unfold maxLen at hT3;have p0:=hp.book;have HP0:=di (fun W (t:Below w.heap.size w W)=>(t.cell (p:=⟨pb,0,none⟩) (ai p0)).trans p0);have HT0:=di (fun W (t:Below w.heap.size w W)=>(t.cell (p:=⟨bb,1,none⟩) (ai hT0)).trans hT0)
 have TY:Hid (∀j,j<H.length->∃n so,aT=some ⟨n,0,none⟩/\∀W,Below w.heap.size w W->W.cell? ⟨n,j*5+2,none⟩=some (.int .i64 (so:Nat))):=fun j U=>by
  obtain⟨n,hg,hc⟩:=Wy j U;have r:=(hc U).sort;exact⟨n,_,hg,fun W D=>(D.cell (p:=⟨n,j*5+2,none⟩) (ai r)).trans r⟩
 obtain⟨a,xy⟩:=aJ H.length;have wL:=di xy;obtain⟨NS,Bq⟩:=aJ h.length;have wM:=di Bq;obtain⟨ND,hND⟩:=aJ d.length;rw[xy]at hts SK HT0 TY HOF;rw[Bq]at sl1 hsl AJ ⊢;rw[hND]at hi nd1 hdl IH ⊢
 by_cases hlt:i<ND
 ·obtain⟨bq,hd⟩:∃bq,d[i]?=some bq:=⟨_,aD aO⟩;obtain⟨gn,rfl,hcn⟩:=hel i aO;have hcn:=hcn aO;rw[(List.getElem?_eq_some_iff.1 hd).2]at hcn;obtain⟨n0,⟨am,cm,n1,n2,n3,n4⟩,n5,n6⟩:=hcn;have HMU:=di (fun W (t:Below w.heap.size w W)=>JP (n4.below t));have hok:=hds bq (List.mem_of_getElem? hd);have Om:=di (JR hd);have HCM:=di (Ej d (i+1));obtain⟨J,u,N,nu⟩:=bq;simp only at n0 n1 n2 n5 n6 HMU hok Om;obtain⟨ok1,ok2,Sb⟩:=hok;simp only at ok1 ok2 Sb;have Uo:Hid (fC (d.take (i+1))=fC (d.take i)+(fI u+nu.length+30)/\fC (d.take (i+1))<=1000000000):=⟨Om.o,Nat.le_trans HCM.o Yl⟩;obtain⟨E,hNM⟩:=aJ u.length;have HNM:=di hNM;rw[hNM]at n1 n2;obtain⟨v,hW1⟩:∃v,w.alloc (.cells #[.int .u8 J,.slice am E cm,.int .i64 N,.string ⟨nu.toArray⟩] 267)=v:=⟨_,rfl⟩;have hb1:Below w.heap.size w v:=aiA;have hs1:v.heap.size=w.heap.size+1:=ahZ;have x0:v.cell? ⟨w.heap.size,0,none⟩=some (.int .u8 J):=ahZ;have x1:v.cell? ⟨w.heap.size,1,none⟩=some (.slice am E cm):=ahZ;have g:v.cell? ⟨w.heap.size,2,none⟩=some (.int .i64 N):=ahZ;have x3:v.cell? ⟨w.heap.size,3,none⟩=some (.string ⟨nu.toArray⟩):=ahZ
  have HX:Hid (Cells v [(⟨w.heap.size,0,none⟩,.int .u8 J),(⟨w.heap.size,1,none⟩,.slice am E cm),(⟨w.heap.size,2,none⟩,.int .i64 N),(⟨w.heap.size,3,none⟩,.string ⟨nu.toArray⟩)]):=fun F hq=>by
   simp only[List.mem_cons,List.not_mem_nil,or_false]at hq;rcases hq with rfl|rfl|rfl|rfl
   ·exact x0
   ·exact x1
   ·exact g
   ·exact x3
  have HB1:=di hb1;have z0:=HP0.o v hb1;have z1:=HT0.o v hb1;clear hp hss hnd hlb hsg hel hT0 Wy p0 n4 hd hds Om HCM hNM xy Bq hND ih hr Yl hwf qJ
  by_cases hk:J=115
  ·obtain⟨z,hz⟩:=Sb hk;subst hz;have tk:((J:Int)==115)=true:=bz;clear hk
   by_cases hv:N<a
   ·obtain⟨n,so,rfl,hso⟩:=TY.o N hv;have z2:=hso v hb1;have tv:decide ((a:Int)<=(N:Int))=false:=decide_eq_false aO;clear hb1 Sb hso
    by_cases hs2:so=2
    ·have ts2:((so:Int) !=2)=false:=by simp[hs2]
     clear hs2;go_enter Tryz.func150,Tryz.ntmps150;have HDZ:Hid ((dn.dec z).length<=1000000000):=by show _<=_;have:=Uo.o;omega
     go_upto_region 7 with (go_quiet (fail));have Au:=below_drewN HB1.o nq;have HXA:Hid (Cells (v.drewN nq) [(⟨w.heap.size,0,none⟩,.int .u8 J),(⟨w.heap.size,1,none⟩,.slice am E cm),(⟨w.heap.size,2,none⟩,.int .i64 N),(⟨w.heap.size,3,none⟩,.string ⟨(dn.dec z).toArray⟩)]):=HX.o.below (below_drewN af nq);clear x0 x1 g x3 z0 z1 z2 hW1 hs1;have y2:(v.drewN nq).cell? ⟨w.heap.size,2,none⟩=some (.int .i64 N):=HXA.o (⟨w.heap.size,2,none⟩,.int .i64 N) aP;generalize v.drewN nq=WA at *;go_wp2_with fail;refine(HOF.o N WA hv Au).mono ?_;rintro e c ⟨⟨l,K,hsp,Kw,hub,huc,_⟩,Z⟩;obtain⟨vu,rfl,hou⟩:=hsp.o;obtain⟨y,A,hvu,q1,q2,_⟩:=dQ hou;subst hvu;have hbw2:=Au.trans (Z.mono Au.size);have Uk:=di (dV.dW hou);have YB:Hid (LB 10002 l K):=⟨fun O hy=>Nat.le_trans (qP (hub O hy)) aO,Nat.le_trans (qP huc) aO⟩;have Fh:Hid (l.length=a):=by show _=_;rw[Kw];exact wL.o
     have hNU:l.length=a:=Fh.o;rw[hNU]at Uk q1 hou ⊢;have Fj:Hid (∀bg,(Value.slice y a A).ownBlock=some bg->bg<c.heap.size):=fun bg D=>(hou.lt bg D).2;obtain⟨w3,hw3⟩:∃w3,(c.alloc (.cells #[.slice y a A,.string ⟨(dn.dec K).toArray⟩] 264)).alloc (.cells #[.slice y a A,.string ⟨(dn.dec K).toArray⟩] 264)=w3:=⟨_,rfl⟩;have hb3:Below c.heap.size c w3:=by rw[<-hw3];exact ag.alloc aP _
     have hs3:w3.heap.size=c.heap.size+1+1:=by rw[<-hw3];simp
     have HV3:Hid (Cells w3 [(⟨w.heap.size,3,none⟩,.string ⟨(dn.dec z).toArray⟩),(⟨c.heap.size,0,none⟩,.slice y a A),(⟨c.heap.size,1,none⟩,.string ⟨(dn.dec K).toArray⟩),(⟨c.heap.size+1,0,none⟩,.slice y a A)]):=by
      intro F hq;simp only[List.mem_cons,List.not_mem_nil,or_false]at hq;rcases hq with rfl|rfl|rfl|rfl
      ·exact(HXA.o.below Z).below hb3 (⟨w.heap.size,3,none⟩,.string ⟨(dn.dec z).toArray⟩) aP
      ·rw[<-hw3];exact aP
      ·rw[<-hw3];exact aP
      ·rw[<-hw3];exact aP
     have r3:=HV3.o (⟨w.heap.size,3,none⟩,.string ⟨(dn.dec z).toArray⟩) aP;have r4:=HV3.o (⟨c.heap.size,1,none⟩,.string ⟨(dn.dec K).toArray⟩) aP;have r5:w3.cell? ⟨c.heap.size+1,1,none⟩=some (.string ⟨(dn.dec K).toArray⟩):=by rw[<-hw3];simp
     have r6:∀o,w3.frozen? ⟨c.heap.size+1,o,none⟩=false:=fun o=>by rw[<-hw3];simp
     have HB3:=di (hbw2.trans (hb3.mono hbw2.size));have afs:=di (Uk.o.below hb3);have hws:=hbw2.size;have BQ:Hid (w.heap.size<c.heap.size):=Nat.lt_of_lt_of_le (ai y2) Z.size;have ae8:=di (fun W=>Gd K z W (by have:=YB.o.c;omega) (by have:=HDZ.o;omega));clear Z hb3 hsp Kw hub huc hou Au hbw2 y2 hNU;go_wp2_with fail;refine(ae8.o _).mono ?_;rintro e R ⟨rfl,p⟩;obtain⟨G,hc1⟩:=aJ (K-z);have aeX:Hid ((dn.dec G).length<=10010+(dn.dec z).length):=by show _<=_;rw[<-hc1];have m:=xX K z;have r:=YB.o.c;omega
     rw[hc1];have s5:=(p.cell (p:=⟨c.heap.size+1,1,none⟩) (by show c.heap.size+1<_;omega)).trans r5;have s6:∀o,R.frozen? ⟨c.heap.size+1,o,none⟩=false:=fun o=>(p.frozen (p:=⟨c.heap.size+1,o,none⟩) (by show c.heap.size+1<_;omega)).trans (r6 o);obtain⟨L,jR⟩:∃L,R.setCell ⟨c.heap.size+1,1,none⟩ (.string ⟨(dn.dec G).toArray⟩)=L:=⟨_,rfl⟩;have hs4:=p.size;have rF:Hid (Below w.heap.size w L):=by rw[<-jR];exact(HB3.o.trans (p.mono HB3.o.size)).setCell (by show w.heap.size<=c.heap.size+1;have:=BQ.o;omega) _
     have HV5:Hid (Cells L [(⟨w.heap.size,3,none⟩,.string ⟨(dn.dec z).toArray⟩),(⟨c.heap.size,0,none⟩,.slice y a A),(⟨c.heap.size,1,none⟩,.string ⟨(dn.dec K).toArray⟩),(⟨c.heap.size+1,0,none⟩,.slice y a A)]):=by
      show Cells _ _;rw[<-jR];refine(HV3.o.below p).set ?_;intro F hq;have:=BQ.o;simp only[List.mem_cons,List.not_mem_nil,or_false]at hq;rcases hq with rfl|rfl|rfl|rfl
      ·intro e;injection e with e _;exact aO
      ·intro e;injection e with e _;exact aO
      ·intro e;injection e with e _;exact aO
      ·intro e;exact ajm
     have HL5:Hid (L.cell? ⟨c.heap.size+1,1,none⟩=some (.string ⟨(dn.dec G).toArray⟩)):=by show _=_;rw[<-jR];exact World.cell?_setCell_same _ _ _ s5
     have hs5:L.heap.size=R.heap.size:=by rw[<-jR];simp[World.setCell]
     have afr:Hid (dV L (.slice y a A) l):=by
      show dV _ _ _;rw[<-jR];exact(afs.o.below p).set (fun e=>by have:=Fj.o _ e;simp only at this;omega) _
     have t0:=HV5.o (⟨c.heap.size,0,none⟩,.slice y a A) aP;clear p r3 r4 r5 r6 hc1;go_wp2_with fail;refine(zi a L aO).mono ?_;rintro e V ⟨hz6,X⟩;obtain⟨vz,rfl,Ex⟩:=hz6.o;obtain⟨az,cz,hvz,qz1,qz2,_⟩:=dQ Ex;subst hvz;rw[List.length_replicate]at Ex qz1 ⊢;have oM:=rF.o.trans (X.mono rF.o.size);have LP:=di (dV.dW (zs:=List.replicate a 0) (by rw[List.length_replicate];exact Ex));obtain⟨w7,hw7⟩:∃w7,V.alloc (.cells #[.slice az a cz,.string ⟨(dn.dec 0).toArray⟩] 264)=w7:=⟨_,rfl⟩;have ED:Below V.heap.size V w7:=by rw[<-hw7];exact af.alloc ae _
     have HB7:=di (oM.trans (ED.mono oM.size));have P5:=X.trans (ED.mono X.size);have HV7:=di (HV5.o.below P5);have HL7:Hid (w7.cell? ⟨c.heap.size+1,1,none⟩=some (.string ⟨(dn.dec G).toArray⟩)):=(P5.cell (p:=⟨c.heap.size+1,1,none⟩) (ai HL5.o)).trans HL5.o;have acs:=di (afr.o.below P5);have afp:=di (LP.o.below ED);have v0:=HV7.o (⟨c.heap.size,0,none⟩,.slice y a A) aP;have v1:=HV7.o (⟨c.heap.size,1,none⟩,.string ⟨(dn.dec K).toArray⟩) aP;have u0:w7.cell? ⟨V.heap.size,0,none⟩=some (.slice az a cz):=by rw[<-hw7];simp
     have u1:w7.cell? ⟨V.heap.size,1,none⟩=some (.string ⟨(dn.dec 0).toArray⟩):=by rw[<-hw7];simp
     have PH:=Nt (k:=-1) (K:=2) afp.o acs.o (List.length_replicate) Fh.o aO (LB.zero a 1 aO) YB.o (by rw[dn.pg];simp) aO aO aO;rw[dn.pg]at PH;have Od:=di PH;clear X ED hz6 Ex oM PH t0 P5;go_wp2_with fail;refine Od.o.mono ?_;rintro e b ⟨⟨ys,c8,v8,rfl,SB,Yc,aa6⟩,EC⟩;obtain⟨a8,KY,hv8,p81,p82,_⟩:=dQ SB;subst hv8;rw[Yc]at SB p81 ⊢;have LB8:=di aa6;have HL8:=di Yc;have Wv:=HB7.o.trans (EC.mono HB7.o.size);obtain⟨P,Nz⟩:∃P,b.alloc (.cells #[.slice a8 a KY,.string ⟨(dn.dec c8).toArray⟩] 264)=P:=⟨_,rfl⟩;have Yr:Below b.heap.size b P:=by rw[<-Nz];exact af.alloc ae _
     have HB9:=di (Wv.trans (Yr.mono Wv.size));have PZ:=EC.trans (Yr.mono EC.size);have HV9:=di (HV7.o.below PZ);have HL9:Hid (P.cell? ⟨c.heap.size+1,1,none⟩=some (.string ⟨(dn.dec G).toArray⟩)):=(PZ.cell (p:=⟨c.heap.size+1,1,none⟩) (ai HL7.o)).trans HL7.o;have afq:=di (acs.o.below PZ);have afw:=di ((dV.dW (zs:=ys) (by rw[Yc];exact SB)).below Yr);have ae4:Hid (∀bg,(Value.slice a8 a KY).ownBlock=some bg->bg<b.heap.size):=fun bg D=>(SB.lt bg D).2;have j3:=HV9.o (⟨w.heap.size,3,none⟩,.string ⟨(dn.dec z).toArray⟩) aP;have k0:P.cell? ⟨b.heap.size,0,none⟩=some (.slice a8 a KY):=by rw[<-Nz];simp
     have k1:P.cell? ⟨b.heap.size,1,none⟩=some (.string ⟨(dn.dec c8).toArray⟩):=by rw[<-Nz];simp
     have kf:∀o,P.frozen? ⟨b.heap.size,o,none⟩=false:=fun o=>by rw[<-Nz];simp
     have ahM:Hid (P.heap.size=b.heap.size+1):=by show _=_;rw[<-Nz];simp
     have QO:Hid (c.heap.size+1<b.heap.size):=by show _<_;have m:=ai HL7.o;have r:=EC.size;simp only at m;omega
     have hadd:=fun W=>sM z 1 W (by have:=HDZ.o;omega) (by rw[dn.kS];simp);rw[dn.kS]at hadd;have wQ:=di hadd;clear EC Yr Yc aa6 SB Wv hadd v0 v1 u0 u1 PZ;go_wp2_with fail;refine(wQ.o _).mono ?_;rintro e Gq ⟨rfl,zS⟩;obtain⟨c9,hc9⟩:=aJ (z+1);have ab8:Hid ((dn.dec c9).length<=(dn.dec z).length+4):=by show _<=_;rw[<-hc9];have m:=sP z 1;rw[dn.kS]at m;have r:0<(dn.dec z).length:=List.length_pos_iff.2 (dn.ve z);simp only[List.length_cons,List.length_nil]at m;omega
     rw[hc9];have acM:=di (HB9.o.trans (zS.mono HB9.o.size));have ae1:=di (HV9.o.below zS);have acA:Hid (Gq.cell? ⟨c.heap.size+1,1,none⟩=some (.string ⟨(dn.dec G).toArray⟩)):=(zS.cell (p:=⟨c.heap.size+1,1,none⟩) (ai HL9.o)).trans HL9.o;have adn:=di (afq.o.below zS);have ads:=di (afw.o.below zS);have m0:=(zS.cell (p:=⟨b.heap.size,0,none⟩) (show b.heap.size<_ from World.block_lt_of_cell? P ⟨b.heap.size,0,none⟩ k0)).trans k0;have m1:=(zS.cell (p:=⟨b.heap.size,1,none⟩) (show b.heap.size<_ from World.block_lt_of_cell? P ⟨b.heap.size,0,none⟩ k0)).trans k1;have mf:∀o,Gq.frozen? ⟨b.heap.size,o,none⟩=false:=fun o=>(zS.frozen (p:=⟨b.heap.size,o,none⟩) (show b.heap.size<_ from World.block_lt_of_cell? P ⟨b.heap.size,0,none⟩ k0)).trans (kf o);have Zj:=di (fun W=>sM c8 c9 W (by have:=LB8.o.c;omega) (by have:=ab8.o;have:=HDZ.o;omega));have agP:Hid (b.heap.size<Gq.heap.size):=ai m0;clear zS k0 k1 kf j3 hc9 wQ Nz hw7 jR hw3;go_wp2_with fail;refine(Zj.o _).mono ?_;rintro e w11 ⟨rfl,zR⟩;obtain⟨c10,Wu⟩:=aJ (c8+c9);have adb:Hid ((dn.dec c10).length<=10020+(dn.dec z).length):=by show _<=_;rw[<-Wu];have m:=sP c8 c9;have r:=LB8.o.c;have h3:=ab8.o;omega
     rw[Wu];have o1:=(zR.cell (p:=⟨b.heap.size,1,none⟩) (show b.heap.size<_ from World.block_lt_of_cell? Gq ⟨b.heap.size,0,none⟩ m0)).trans m1;have of:=fun o=>(zR.frozen (p:=⟨b.heap.size,o,none⟩) (show b.heap.size<_ from World.block_lt_of_cell? Gq ⟨b.heap.size,0,none⟩ m0)).trans (mf o);have o0:=(zR.cell (p:=⟨b.heap.size,0,none⟩) (show b.heap.size<_ from World.block_lt_of_cell? Gq ⟨b.heap.size,0,none⟩ m0)).trans m0;obtain⟨M,zJ⟩:∃M,w11.setCell ⟨b.heap.size,1,none⟩ (.string ⟨(dn.dec c10).toArray⟩)=M:=⟨_,rfl⟩;have hbx:=acM.o.trans (zR.mono acM.o.size);have XR:Hid (Below w.heap.size w M):=by rw[<-zJ];exact hbx.setCell (by show w.heap.size<=b.heap.size;have:=QO.o;have:=BQ.o;omega) _
     have abJ:=(zR.cell (p:=⟨c.heap.size+1,1,none⟩) (ai acA.o)).trans acA.o;have abG:=ae1.o.below zR;have l1:M.cell? ⟨c.heap.size+1,1,none⟩=some (.string ⟨(dn.dec G).toArray⟩):=by rw[<-zJ];exact(ak (fun e=>by injection e with e _;have:=QO.o;omega)).trans abJ
     have l0:M.cell? ⟨c.heap.size+1,0,none⟩=some (.slice y a A):=by rw[<-zJ];exact(ak (fun e=>by injection e with e _;have:=QO.o;omega)).trans (abG (⟨c.heap.size+1,0,none⟩,.slice y a A) aP)
     have h0:M.cell? ⟨b.heap.size,0,none⟩=some (.slice a8 a KY):=by rw[<-zJ];exact(ak (fun e=>ajm)).trans o0
     have m:M.cell? ⟨b.heap.size,1,none⟩=some (.string ⟨(dn.dec c10).toArray⟩):=by rw[<-zJ];exact World.cell?_setCell_same _ _ _ o1
     have adm:Hid (dV M (.slice y a A) l):=by show dV _ _ _;rw[<-zJ];exact(adn.o.below zR).set (fun e=>by have:=Fj.o _ e;have:=QO.o;simp only at *;omega) _
     have adr:Hid (dV M (.slice a8 a KY) ys):=by show dV _ _ _;rw[<-zJ];exact(ads.o.below zR).set (fun e=>by have:=ae4.o _ e;simp only at this;omega) _
     have ahJ:Hid (M.heap.size=w11.heap.size):=by show _=_;rw[<-zJ];simp[World.setCell]
     have QH:=di (Dt (.slice al NS yc) h (.slice y a A) l G M (AJ.o.below XR.o) adm.o (by rw[wM.o];omega))
     have rO:Hid (∀(bn:Value) (S:List Int) (q:Int) (bB j:Nat),S.length=a->LB bB S q->bB<=10020+(dn.dec z).length->i<j->∀s∈h++[⟨bn,S,q⟩],s.zs.length=H.length/\LB (10030+fC (d.take j)) s.zs s.c):=fun bn S q bB j hl D hM U s f=>by
      have hmo:=vX d (show i<=j by omega);have ag9:=vX d (show i+1<=j by omega);have hmc:=Uo.o.1;rcases List.mem_append.1 f with f|f
      ·exact⟨(Dm.o s f).1,(Dm.o s f).2.mono aO⟩
      ·rw[List.mem_singleton.1 f];exact⟨by rw[wL.o];exact hl,D.mono aO⟩
     have QM:Hid (∀(s:S2) (j:Nat),i<j->(h++[s]).length<=200000+j):=fun s j U=>by rw[List.length_append,wM.o];simp only[List.length_cons,List.length_nil];omega
     clear zR hbx abJ abG m0 m1 mf Wu Zj;go_wp2_with fail;clear o0 o1 of;refine QH.o.mono ?_;rintro e Re ⟨⟨v13,rfl,DJ⟩,xR⟩;obtain⟨a13,aeO,Ku,_,_,_⟩:=vO DJ;obtain⟨N13,KQ⟩:∃I,(h++[(⟨.slice y a A,l,G⟩:S2)]).length=I:=⟨_,rfl⟩;rw[KQ]at Ku;subst Ku;clear KQ;have zQ:=XR.o.trans (xR.mono XR.o.size);have D8:=di zQ;have hcall:=(IH.o (i+1) aO aO Re _ _ zQ DJ (rO.o _ l G (10010+(dn.dec z).length) (i+1) Fh.o ⟨fun O hy=>by have:=YB.o.zs O hy;omega,aeX.o⟩ aO aO) (QM.o _ _ aO));rw[show((i+1:Nat):Int)=(i:Int)+1 by omega]at hcall;have kI:=di hcall;clear hcall;have g0:=(xR.cell (p:=⟨b.heap.size,0,none⟩) (show b.heap.size<_ from World.block_lt_of_cell? M ⟨b.heap.size,0,none⟩ h0)).trans h0;have g1:=(xR.cell (p:=⟨b.heap.size,1,none⟩) (show b.heap.size<_ from World.block_lt_of_cell? M ⟨b.heap.size,0,none⟩ h0)).trans m;have adq:=di (adr.o.below xR);clear DJ xR zQ l0 l1 h0 m zJ;go_wp2_with fail;refine kI.o.mono ?_;rintro e w14 ⟨⟨j,bb2,rfl,U⟩,KJ⟩;have HJ:=di U;have Yo:=D8.o.trans (KJ.mono D8.o.size);have Q6:=di Yo;have f0:=(KJ.cell (p:=⟨b.heap.size,0,none⟩) (show b.heap.size<_ from World.block_lt_of_cell? Re ⟨b.heap.size,0,none⟩ g0)).trans g0;have f1:=(KJ.cell (p:=⟨b.heap.size,1,none⟩) (show b.heap.size<_ from World.block_lt_of_cell? Re ⟨b.heap.size,0,none⟩ g0)).trans g1;have adp:=di (adq.o.below KJ);clear U KJ Yo g0 g1 kI;cases bb2
     ·go_wp2_with fail;go_ret2;exact⟨.no,Q6.o⟩
     ·obtain⟨hj1,hj2⟩:=HJ.o rfl;have acb:=di (Dt (.slice al NS yc) h (.slice a8 a KY) ys c10 w14 (AJ.o.below Q6.o) adp.o (by rw[wM.o];omega));go_wp2_with fail;refine acb.o.mono ?_;rintro e w15 ⟨⟨v15,rfl,Wd⟩,abE⟩;obtain⟨a15,ahF,aaP,_,_,_⟩:=vO Wd;obtain⟨N15,abI⟩:∃I,(h++[(⟨.slice a8 a KY,ys,c10⟩:S2)]).length=I:=⟨_,rfl⟩;rw[abI]at aaP;subst aaP;clear abI;have PX:=Q6.o.trans (abE.mono Q6.o.size);have acL:=di PX;have kI:=di (IH.o j aO hj2 w15 _ _ PX Wd (rO.o _ ys c10 (10020+(dn.dec z).length) j HL8.o ⟨fun O hy=>by have:=LB8.o.zs O hy;omega,adb.o⟩ aO aO) (QM.o _ _ aO));clear Wd abE PX f0 f1;go_wp2_with fail;refine kI.o.mono ?_;rintro e w16 ⟨⟨j2,bb3,rfl,KD⟩,KI⟩;have iQ:Hid (Ea i ND (.returned (.tuple #[.int .i64 (j2:Nat),.bool bb3]))):=⟨j2,bb3,rfl,fun t=>⟨by have:=KD t;omega,(KD t).2⟩⟩;have XQ:=di (acL.o.trans (KI.mono acL.o.size));clear KD KI kI;go_wp2_with fail;go_ret2;exact⟨iQ.o,XQ.o⟩
    ·have ts2:((so:Int) !=2)=true:=aZ;exact amj
   ·have tv:decide ((a:Int)<=(N:Int))=true:=decide_eq_true aO;clear hb1 Sb;exact amj
  ·have tk:((J:Int)==115)=false:=aj aO;clear hk Sb
   by_cases KA:E=NS
   ·subst KA;have afy:Hid (∀k,k<E->∃Q,u[k]?=some Q):=fun k hk=>⟨_,aD (by rw[HNM.o];exact hk)⟩;have afa:Hid (∀k,k<E->∃s,h[k]?=some s):=fun k hk=>⟨_,aD (by rw[wM.o];exact hk)⟩;have Un:Hid (∀k,10030+fC (d.take i)+fI (u.take k)<=1000020000/\fI (u.take k)<=fI u):=fun k=>by have m:=Uo.o;have r:=VC u k;omega
    obtain⟨Y,hMM⟩:=aJ (10030+fC (d.take i));rw[hMM]at Dm Un;have QV:=di hMM;clear hMM;go_enter Tryz.func150,Tryz.ntmps150;go_wp2_with fail;refine(zi a _ aO).mono ?_;rintro e c ⟨hz2,Z⟩;obtain⟨vz,rfl,Ex⟩:=hz2.o;obtain⟨az,cz,hvz,qz1,qz2,_⟩:=dQ Ex;subst hvz;have agr:=di (AS.start (w:=w) (NT:=a) (a:=az) (p:=cz) (zs:=List.replicate a 0) (c:=0) (by rw[List.length_replicate]at Ex ⊢;exact Ex) List.length_replicate (HB1.o.trans (Z.mono HB1.o.size)) (HX.o.below Z));rw[List.length_replicate];have ahP:Hid (w.heap.size<c.heap.size):=by show _<_;have:=Z.size;omega
    clear hz2 Z Ex z0 z1 x0 x1 g x3 hW1 hb1 hs1 qz1;go_wp2_with fail
    go_loopw [21] (fun F wr=>∃(k:Nat) (bC:Option Addr) (bD:Nat) (S:List Int) (q:Int),F=.int .i64 k/\k<=E/\AS w wr c.heap.size a bC bD S q [(⟨w.heap.size,0,none⟩,.int .u8 J),(⟨w.heap.size,1,none⟩,.slice am E cm),(⟨w.heap.size,2,none⟩,.int .i64 N),(⟨w.heap.size,3,none⟩,.string ⟨nu.toArray⟩)]/\LB (Y+fI (u.take k)) S q) (fun F _=>E-(intOf F).toNat)
    case atStart=>exact⟨0,az,cz,_,0,rfl,aO,agr.o,LB.zero a _ (by have:=QV.o;omega)⟩
    case round=>
     obtain⟨k,bC,bD,S,q,rfl,hk,B,hlb⟩:=hrel;have HAS:=di B;have acz:=di hlb;have K:=B.c0;have G:=B.c1;have cf:=B.fr;have y1:=B.cells (⟨w.heap.size,1,none⟩,.slice am E cm) aP;have y0:=B.cells (⟨w.heap.size,0,none⟩,.int .u8 J) aP;obtain⟨abZ,cap2⟩:=B.cap;clear hlb
     by_cases hkl:k<E
     ·obtain⟨Q,hm⟩:=afy.o k hkl;obtain⟨s,f⟩:=afa.o k hkl;obtain⟨gm,rfl,r1⟩:=HMU.o wr B.dG k Q hm;obtain⟨gs,rfl,r2,r3,r4⟩:=YQ.o wr B.dG k s f;obtain⟨q1,q2⟩:=Dm.o s (List.mem_of_getElem? f);obtain⟨sv,szs,sc⟩:=s;simp only at r2 r3 r4 q1 q2;obtain⟨sa,sp,rfl,e1,e2⟩:=Sd r4;have V6:szs.length=a:=by rw[q1];exact wL.o
      rw[V6]at r2 r4 e1;have HMS:=di (Ps hm);have hmm:=(Un.o (k+1)).1;have We:(dn.dec Q).length<=1000020000:=by have:=HMS.o;omega
      have Od:Hid (∀W,Below wr.heap.size wr W->Calls Tryz.prog 207 #[.agg #[.slice bC a bD,.string ⟨(dn.dec q).toArray⟩],.string ⟨(dn.dec Q).toArray⟩,.agg #[.slice sa a sp,.string ⟨(dn.dec sc).toArray⟩]] W fun e C=>Yz C W.heap.size a (max (Y+fI (u.take k)) ((dn.dec Q).length+Y+1)+2) e/\Below W.heap.size W C):=fun W hW=>
       Nt (B.nums.below hW) (r4.below hW) B.len V6 aO acz.o q2 ae (by have:=(Un.o k).1;omega) (by have:=(Un.o 0).1;omega) aO
      have HMX:Hid (max (Y+fI (u.take k)) ((dn.dec Q).length+Y+1)+2<=Y+fI (u.take (k+1))):=by show _<=_;have:=HMS.o;omega
      have Y3:Hid (gm<wr.heap.size/\gs<wr.heap.size):=⟨World.block_lt_of_cell? wr ⟨gm,k,none⟩ r1,World.block_lt_of_cell? wr ⟨gs,k*2,none⟩ r2⟩;clear hm f q1 q2 r4 B V6 hmm We;generalize dn.dec Q=dm at *;go_upto_region 26 with fail
      go_region_with (go_at_call 207;refine(Od.o _ af.drew).mono ?_;rintro e R ⟨⟨zs2,c2,v2,rfl,ho2,hl2,aa7⟩,p⟩;obtain⟨a2,p2,hv2,_,_,_⟩:=dQ ho2;subst hv2;rw[hl2]at ho2 ⊢;have T:Below wr.heap.size wr R:=af.drew.trans p;have d0:=(HAS.o.below T).c0;have d1:=(HAS.o.below T).c1;have df:=(HAS.o.below T).fr;have HST:=di (HAS.o.store (c':=c2) T (by rw[hl2];exact ho2) hl2 ae);have afG:=di (aa7.mono HMX.o);clear p T ho2 hl2 aa7)
      all_goals
       go_wp2_with fail;go_roundw
       case rel=>exact⟨k+1,a2,p2,zs2,c2,bJ,aO,HST.o,afG.o⟩
       case measure=>exact akL
     ·have YZ:Hid (LB (Y+fI u) S q):=acz.o.mono (by have:=(Un.o k).2;omega);have hmx:Y+fI u<=1000020000:=by have m:=Uo.o;have r:=QV.o;omega
      have acw:Hid (Y+fI u+20<=10030+fC (d.take (i+1))):=by show _<=_;have m:=Uo.o;have r:=QV.o;omega
      obtain⟨MX,hMX⟩:=aJ (Y+fI u);rw[hMX]at YZ hmx acw;have BP:=di B.len;have Og:=di (fun W (t:Below wr.heap.size wr W)=>JP (B.nums.below t));have HD0:Hid ([48]=dn.dec 0):=by show _=_;rw[dn.gH]
      clear hMX B;go_wp2_with fail
      go_loopw [22,23] (fun n F wx=>∃(j:Nat) (z:Int),F=.int .i64 j/\j<=a/\n=.string ⟨(dn.dec z).toArray⟩/\Zk MX z/\Below wr.heap.size wr wx) (fun _ F _=>a-(intOf F).toNat)
      case atStart=>exact⟨0,0,rfl,aO,by rw[<-HD0.o],⟨aO,.inl rfl⟩,af⟩
      case round=>
       obtain⟨j,z,rfl,U,rfl,hgo,hbj⟩:=hrel;rename World=>wj;have Oi:=di hgo;have qx:=di hbj;have FX:=HAS.o.below hbj;have Md:=di FX;have f0:=FX.c0;have f1:=FX.c1;have g0:=FX.cells (⟨w.heap.size,0,none⟩,.int .u8 J) aP;have hzl:=hgo.len;clear K G cf y1 y0 hgo
       by_cases hjl:j<a
       ·obtain⟨x,hx⟩:∃x,S[j]?=some x:=⟨_,aD (by rw[BP.o];exact hjl)⟩;obtain⟨gz,rfl,r1⟩:=Og.o wj hbj j x hx;have hxl:=YZ.o.zs x (List.mem_of_getElem? hx);have HC:=di (aao z x wj aO aO);have HG2:Hid (Zk MX ((Int.gcd z x:Nat):Int)):=⟨aO,ZX Oi.o.2 hxl⟩;clear hx hbj FX hxl;obtain⟨z2,hz2⟩:∃z2:Int,((Int.gcd z x:Nat):Int)=z2:=⟨_,rfl⟩;rw[hz2]at HC HG2;clear hz2;generalize dn.dec x=dx at *;go_wp2_with fail;refine HC.o.mono ?_;rintro e R ⟨rfl,p⟩;have uO:=di (qx.o.trans (p.mono qx.o.size));clear p;go_wp2_with fail;go_roundw
        case rel=>exact⟨j+1,z2,bJ,aO,rfl,HG2.o,uO.o⟩
        case measure=>exact akL
       ·have hbw:=Md.o.dG;have mo:=di hbw;have hcl:=YZ.o.c;clear hbj FX
        by_cases hf:J=102
        ·have tf:((J:Int)==102)=true:=bz;have aci:=di (Li q wj aO);have iQ:Hid (∀bb:Bool,Ea i ND (.returned (.tuple #[.int .i64 ((i:Int)+1),.bool bb]))):=fun bb=>⟨i+1,bb,by rw[show((i+1:Nat):Int)=(i:Int)+1 by omega],fun _=>⟨aO,aO⟩⟩;clear hf hbw;generalize dn.dec z=dz at *;generalize dn.dec q=dc at *;obtain⟨sg,hsg⟩:=aJ q.sign;rw[hsg]at aci;clear hsg;go_wp2_with fail;refine aci.o.mono ?_;rintro e R ⟨rfl,hw4⟩;have V4:=hw4.symm;subst V4;clear hw4;cases e0:(dz==[48])
         ·go_wp2_with fail;go_ret2;exact⟨iQ.o _,mo.o⟩
         ·go_wp2_with fail;go_ret2;exact⟨iQ.o _,mo.o⟩
        ·have tf:((J:Int)==102)=false:=aj aO;clear hf
         by_cases hz0:z=0
         ·have tz:(dn.dec z==[48])=true:=by rw[hz0,dn.gH];rfl
          clear hz0 hbw;generalize dn.dec z=dz at *;go_wp2_with fail;go_ret2;exact⟨.no,mo.o⟩
         ·have hzp:0<z:=by have:=Oi.o.1;omega
          have tz:(dn.dec z==[48])=false:=by
           rw[beq_eq_false_iff_ne];intro e;rw[HD0.o]at e;exact hz0 (dn.NF e)
          have Ze:=di (fun x (t:(dn.dec x).length<=MX) W=>XW x z W hzp aO aO);have Zd:Hid (∀x:Int,(dn.dec x).length<=MX->(dn.dec (-(-x / z))).length<=MX+1):=fun x t=>by have:=NU (WX (x:=x) hzp);omega
          clear hz0 hzp hzl hbw;generalize dn.dec z=dz at *;go_wp2_with fail;refine(zi a wj aO).mono ?_;rintro e R ⟨hz4,p⟩;obtain⟨vt4,rfl,hot⟩:=hz4.o;obtain⟨at4,NG,hvt,_,_,_⟩:=dQ hot;subst hvt;have Xu:=di (TS.start (wx:=wj) (NT:=a) (a:=at4) (p:=NG) (us:=List.replicate a 0) (c:=0) (by rw[List.length_replicate]at hot ⊢;exact hot) List.length_replicate p);rw[List.length_replicate];have adf:Hid (∀O∈List.replicate a (0:Int),(dn.dec O).length<=MX+1):=fun O hy=>by rw[(List.mem_replicate.1 hy).2,dn.gH];simp
          have b0:=Xu.o.c0;have b1:=(Md.o.below Xu.o.dG).c0;clear hz4 p hot f0 f1 g0;go_wp2_with fail;clear b0 b1
          go_loopw [26] (fun F wy=>∃(k:Nat) (l:List Int),F=.int .i64 k/\k<=a/\TS wj wy R.heap.size a at4 NG l 0/\∀O∈l,(dn.dec O).length<=MX+1) (fun F _=>a-(intOf F).toNat)
          case atStart=>exact⟨0,_,rfl,aO,Xu.o,adf.o⟩
          case round=>
           obtain⟨k3,l,rfl,hk3,zK,Kw⟩:=hrel;rename World=>wy;have TY:=di zK;have acd:=di Kw;have KM:=Md.o.below zK.dG;have ahS:=di KM;have b0:=zK.c0;have b1:=zK.c1;have bf:=zK.fr;have d0:=KM.c0;have d1:=KM.c1;obtain⟨tc1,tc2,OC⟩:=zK.cell;have agj:=di (qx.o.trans (zK.dG.mono qx.o.size));clear Kw
           by_cases aa9:k3<a
           ·obtain⟨x,hx⟩:∃x,S[k3]?=some x:=⟨_,aD (by rw[BP.o];exact aa9)⟩;obtain⟨gz,rfl,r1⟩:=Og.o wy agj.o k3 x hx;have hxl:=YZ.o.zs x (List.mem_of_getElem? hx);obtain⟨gt,uo,rfl,r2,r3⟩:=OC k3 aa9;have HC:=di (Ze.o x hxl);have BV:=di (Zd.o x hxl);obtain⟨g,hx2⟩:=aJ (-(-x / z));rw[hx2]at HC BV;clear hx hxl hx2 OC zK KM;generalize dn.dec x=dx at *;go_upto_region 41 with fail
            go_region_with (go_at_call 211;refine(HC.o _).mono ?_;rintro e L ⟨rfl,T⟩;have X:Below wy.heap.size wy L:=af.drew.trans T;have k2:=(X.cell (p:=⟨gt,k3,none⟩) (ai r2)).trans r2;have kf:=fun o=>(X.frozen (p:=⟨gt,o,none⟩) (World.block_lt_of_cell? wy ⟨gt,k3,none⟩ r2)).trans (r3 o);have k0:=(X.cell (p:=⟨R.heap.size,0,none⟩) (ai b0)).trans b0;have HT5:=di ((TY.o.below X).U7 k3 g);clear T X)
            all_goals
             go_wp2_with fail;go_roundw
             case rel=>exact⟨k3+1,l.set k3 g,bJ,aO,HT5.o,U6 acd.o BV.o⟩
             case measure=>exact akL
           ·have HC:=di (Ze.o q hcl);have BV:=di (Zd.o q hcl);obtain⟨g,hx2⟩:=aJ (-(-q / z));rw[hx2]at HC BV;clear hx2 OC zK KM;generalize dn.dec q=dc at *;go_wp2_with fail;refine(HC.o _).mono ?_;rintro e L ⟨rfl,T⟩;have PG:=TY.o.below T;have e1:=PG.c1;have ef:=PG.fr;obtain⟨V,Aq⟩:∃V,L.setCell ⟨R.heap.size,1,none⟩ (.string ⟨(dn.dec g).toArray⟩)=V:=⟨_,rfl⟩;have Bi:=PG.Jr g;rw[Aq]at Bi;have ahK:=di Bi;have e2:=Bi.c0;have e3:=Bi.c1;have UB:Hid (Below w.heap.size w V):=Md.o.dG.trans (Bi.dG.mono Md.o.dG.size);have QH:=di (Dt (.slice al E yc) h (.slice at4 a NG) l g V (AJ.o.below UB.o) (by have:=dV.dW Bi.own;exact this) (by rw[wM.o];omega));have ae2:=di Bi.len
            have rO:Hid (∀s∈h++[(⟨.slice at4 a NG,l,g⟩:S2)],s.zs.length=H.length/\LB (10030+fC (d.take (i+1))) s.zs s.c):=fun s f=>by
             have hmo:=vX d (show i<=i+1 by omega);have m:=QV.o;have r:=acw.o;rcases List.mem_append.1 f with f|f
             ·exact⟨(Dm.o s f).1,(Dm.o s f).2.mono aO⟩
             ·rw[List.mem_singleton.1 f];exact⟨by rw[wL.o];exact ae2.o,⟨fun O hy=>by have:=acd.o O hy;omega,by show(dn.dec g).length<=_;have:=BV.o;omega⟩⟩
            have QM:Hid ((h++[(⟨.slice at4 a NG,l,g⟩:S2)]).length<=200000+(i+1)):=by show _<=_;rw[List.length_append,wM.o];simp only[List.length_cons,List.length_nil];omega
            clear PG Bi T b0 b1 bf d0 d1;go_wp2_with fail;clear e1 ef Aq;refine QH.o.mono ?_;rintro e Re ⟨⟨v13,rfl,DJ⟩,xR⟩;obtain⟨a13,aeO,Ku,_,_,_⟩:=vO DJ;obtain⟨N13,KQ⟩:∃I,(h++[(⟨.slice at4 a NG,l,g⟩:S2)]).length=I:=⟨_,rfl⟩;rw[KQ]at Ku;subst Ku;clear KQ;have zQ:=UB.o.trans (xR.mono UB.o.size);have D8:=di zQ;have hcall:=(IH.o (i+1) aO aO Re _ _ zQ DJ rO.o QM.o);rw[show((i+1:Nat):Int)=(i:Int)+1 by omega]at hcall;have kI:=di hcall;clear hcall DJ xR zQ e2 e3;go_wp2_with fail;refine kI.o.mono ?_;rintro e w16 ⟨⟨j2,bb3,rfl,KD⟩,KI⟩;have iQ:Hid (Ea i ND (.returned (.tuple #[.int .i64 (j2:Nat),.bool bb3]))):=⟨j2,bb3,rfl,fun t=>⟨by have:=KD t;omega,(KD t).2⟩⟩;have XQ:=di (D8.o.trans (KI.mono D8.o.size));clear KD KI kI;go_wp2_with fail;go_ret2;exact⟨iQ.o,XQ.o⟩
   ·have tn:((E:Int) !=(NS:Int))=true:=aZ;go_enter Tryz.func150,Tryz.ntmps150;go_wp2_with fail;go_ret2;exact⟨.no,HB1.o⟩
 ·clear hel hsg Wy hnd;go_enter Tryz.func150,Tryz.ntmps150;go_wp2_with fail;go_ret2;exact⟨.no,af⟩
end Go.Proofs.YtbichedkajfmiaaGreatDoor
namespace Go.Proofs.YtbichedkajfmiaaGreatDoor
open Doc
variable {g:List Sym}{l:List Nat}{n:Nat}{q:List Term}{s:Str}
theorem xz:∀f∈forms,f.most<=4/\(f.op=3\/f.op=15->f.least=1/\f.most=1)/\(f.op=6\/f.op=7\/f.op=8\/f.op=10\/f.op=11\/f.op=17\/f.op=18->f.least=2/\f.most=2)/\(f.op=12->f.least=3/\f.most=3)/\(f.sort=0->f.op=12/\f.args=0/\f.from_=1)/\(f.sort=0\/f.sort=1\/f.sort=2)/\1<=f.least/\(f.op≠3->f.op≠15->2<=f.least):=aR
theorem Bu {f:Doc.Form}(h:fits q f l=some n):(f.sort≠0/\n=f.sort)\/(f.sort=0/\n=f.want q l):=by
 unfold fits at h;split at h
 ·cases h
 ·split at h
  ·cases h
  ·split at h
   ·cases h
   ·split at h
    ·cases h
    ·split at h
     ·injection h with h;exact .inr ⟨by assumption,h.symm⟩
     ·injection h with h;exact .inl ⟨by assumption,h.symm⟩
theorem Tk (h:digits s=true):∃z:Int,s=dn.dec z/\s.length<=8:=by
 obtain⟨b,d,a,f⟩:=qh h
 obtain⟨z,g⟩:=dn.qi (t:=s) (by
  unfold dn.Is;rcases a with rfl|a
  ·rfl
  ·have i:s.head?≠some 45:=by
    cases s with
    | nil=>simp
    | cons c l=>
     intro e;have:=b c aP;simp at e;subst e
     revert this
     exact aR
   simp only[if_neg i];have j:(s.all (fun c=>48<=c&&c<=57))=true:=dn.Cg.2 b
   have k:s.isEmpty=false:=by cases s with
    | nil=>exact absurd rfl d
    | cons c l=>rfl
   have m:(s.head? !=some 48)=true:=by
    cases s with
    | nil=>exact absurd rfl d
    | cons c l=>
     simp;intro e;subst e;exact a rfl
   rw[j,k,m];simp)
 exact⟨z,g,f⟩
theorem Zw (c:gP g q):∀k (h:k<q.length),q[k].sort=1\/q[k].sort=2\/q[k].sort=3:=by
 intro k
 induction k using Nat.strongRecOn with
 | _ k m=>
  intro h;have d:=c.terms k h;cases d.made with
  | bool _ _ a _=>exact .inl a
  | num _ _ a _ _=>exact .inr (.inl a)
  | app _ e _ a=>
   rw[a,iN,aD e];exact(c.syms _ (List.getElem_mem e)).sort
  | form f i _ _ j _ _=>
   obtain⟨_,_,_,_,n,u,_⟩:=xz f i;have v:=jr j;rcases Bu j with ⟨l,b⟩|⟨l,b⟩
   ·rw[b];exact aO
   ·obtain⟨o,p,r⟩:=n l;obtain⟨w,_⟩:=(xz f i).2.2.2.1 o;rw[b,Doc.Form.want,if_pos p,r];have s:1<q[k].args.length:=aO;have t:q[k].args.getD 1 0<k:=d.args _ (sD s);have:=m _ t aO;rw[dF,aD aO];exact this
theorem zl (b:gP g q):iU q:=by
 intro k h;have c:=b.terms k h;have l:=Zw b k h;have m:=yH c.made;refine⟨c.args,?_,l,m,?_,?_,?_,?_⟩
 all_goals
  cases c.made with
  | bool d a _ _=>simp[a];try omega
  | num d a _ _ n=>
   first
   | (simp[a];omega)
   | (intro _;exact Tk n)
   | simp[a]
  | app d e a _=>
   have f:=congrArg List.length a;rw[List.length_map,gK,aD e]at f;have s:=(b.syms _ (List.getElem_mem e)).few;simp only at f
   first
   | omega
   | (intro h;omega)
  | form i j d _ a _ _=>
   obtain⟨t,o,p,r,_,_,_⟩:=xz i j;obtain⟨u,v,w,x,_⟩:=jS i j;have y:=jr a
   first
   | omega
   | (intro h;omega)
   | (intro h;have:=o aO;omega)
   | (intro h;have:=p aO;omega)
   | (intro h;have:=r aO;omega)
theorem GU (l:gP g q):wH q:=by
 intro i h w;have n:=l.terms i h;have e:=zl l;have r:=(e i h).two aO
 obtain⟨j,k,f⟩:∃j k,q[i].args=[j,k]:=by
  match a:q[i].args,r with
  | [j,k],_=>exact⟨j,k,rfl⟩
 refine⟨j,k,f,?_⟩;have b:j<q.length:=Nat.lt_trans (n.args j (by rw[f];simp)) h;refine⟨b,?_⟩;cases n.made with
 | bool d _ _ _=>omega
 | num d _ _ _ _=>omega
 | app d _ _ _=>omega
 | form x y z _ _ _ a=>
  have o:=a aO;rw[f]at o;have c:(if mY q j=15 then mY q ((om q j).getD 0 0)==14 else mY q j==14)=true:=o;have s:mY q j=q[j].op:=by rw[mY,aD b]
  have t:om q j=q[j].args:=by rw[om,aD b]
  rw[s,t]at c;split at c
  ·rename_i u;have d:=(e j b).one aO
   obtain⟨m,a⟩:∃m,q[j].args=[m]:=by
    match a:q[j].args,d with
    | [m],_=>exact⟨m,rfl⟩
   have p:m<q.length:=Nat.lt_trans ((e j b).args m (by rw[a];simp)) b;rw[a]at c;have v:mY q m=q[m].op:=by rw[mY,aD p]
   refine .inr ⟨u,m,p,a,?_⟩;have:=beq_iff_eq.1 c;rw[<-v];exact this
  ·exact .inl (beq_iff_eq.1 c)
theorem Qv (c:gP g q):zg q:=by
 have b:∀i (h:i<q.length),q[i].op=13->q[i].args.length=(gK g q[i].sym).length:=by
  intro i h n;cases (c.terms i h).made with
  | bool a _ _ _=>omega
  | num a _ _ _ _=>omega
  | app _ o d _=>rw[<-d,List.length_map]
  | form f e p _ _ _ _=>have:=jS f e;omega
 intro i j hi k a l m;rw[b i hi a,b j k l,m]
end Go.Proofs.YtbichedkajfmiaaGreatDoor
namespace Go.Proofs.YtbichedkajfmiaaGreatDoor
open Go.RowKit
variable {J:List Lit}{N i j k m n:Nat}{W w:World}{a d:Option Addr}
structure yX (w:World)(sb k a b:Nat)(aL:Option Addr)(nL cL:Nat)(aT:Option Addr)(nT cT:Nat)(ls:List Lit):Prop where
 c0:w.cell? ⟨sb,0,none⟩=some (.int .u8 k)
 c1:w.cell? ⟨sb,1,none⟩=some (.int .i64 a)
 c2:w.cell? ⟨sb,2,none⟩=some (.int .i64 b)
 c3:w.cell? ⟨sb,3,none⟩=some (.slice aL nL cL)
 c4:w.cell? ⟨sb,4,none⟩=some (.slice aT nT cT)
 lits:eP w (.slice aL nL cL) ls
theorem yX.below {b c:Nat}(h:yX w n m k i a j N d b c J)(e:Below w.heap.size w W):yX W n m k i a j N d b c J:=
 have t:∀{p:Addr} {v:Value},w.cell? p=some v->W.cell? p=some v:=fun f=>(e.cell (ai f)).trans f
 ⟨t h.c0,t h.c1,t h.c2,t h.c3,t h.c4,h.lits.below e⟩
theorem p9 {ts:List dX}{a:Nat}(h:iy ts a≠0):a<ts.length:=by
 unfold iy at h;split at h
 ·assumption
 ·exact absurd rfl h
theorem qH {a:List dX}{l:Lit}(h:kR a l=true):l.a<a.length/\(l.kind≠84->l.b<a.length):=by
 unfold kR at h;split at h
 ·rename_i b;have c:=of_decide_eq_true h;exact⟨p9 aO,fun h=>absurd b h⟩
 ·split at h
  ·simp only[Bool.and_eq_true,decide_eq_true_eq]at h;exact⟨p9 aO,fun _=>p9 aO⟩
  ·simp only[Bool.and_eq_true,Bool.or_eq_true,decide_eq_true_eq]at h;exact⟨p9 aO,fun _=>p9 aO⟩
theorem RN (g J:Nat)(b:List dX)(held:List Nat)(u:List (List Lit))(o k f j:Nat)(x:Option Addr)(n C:Nat)(aT:Option Addr)(nT cT:Nat)(i:List Lit)(w:World)(hp:fT w g J b held u)(y:yX w o k f j x n C aT nT cT i)(hn:i.length=n)
 (hts:b.length<=1000) (U:iU b) (qJ:wH b) (has:zg b) (Yf:held.length<=1000000) (hsm:∀bA∈u,bA.length<=1000000) (hT:u.flatten.length<=1000000000) (hls:n<=100000)
 (X7:k=65->∃K:List Nd,lM w (.slice aT nT cT) K/\(∀bB∈K,BM bB)/\fC K<=1000000000/\K.length<=700000) :
 Calls Tryz.prog 104 #[.pointer (some ⟨g,0,none⟩),.pointer (some ⟨o,0,none⟩)] w fun e d=>gL e/\Below w.heap.size w d:=by
 have L:=di (fun W (h:Below w.heap.size w W)=>hp.below h);have HS:=di (fun W (h:Below w.heap.size w W)=>y.below h);have HN:=di hn;have BU:=di (fun l W h=>Px g J b held u l W (L.o W h));have YO:=di (fun R W h=>Dv g J b held u R W (L.o W h));obtain⟨aL',cL',D,DR,DN,hel⟩:=id y.lits;injection D with V e2 e3
 subst V e3;clear e2;unfold maxLen at DN;rw[hn]at DR
 have HLG:Hid (∀W,Below w.heap.size w W->∀q l,i[q]?=some l->∃p,x=some ⟨p,0,none⟩/\eG W p (q*4) l):=fun W c q l m=>by
  obtain⟨S,hl'⟩:=List.getElem?_eq_some_iff.1 m;obtain⟨ao,cap,D,_,_,sw⟩:=(y.lits.below c);injection D with V _ _
  subst V;obtain⟨p,hg,hc⟩:=sw q S;exact⟨p,hg,by have:=hc S;rw[hl']at this;exact this⟩
 obtain⟨vh,hh0,KF⟩:=hp.held;obtain⟨ah,ch,hvh,aey,aex,_⟩:=id KF;subst hvh;unfold maxLen at aex;have HH0:=di (fun W (h:Below w.heap.size w W)=>(h.cell (p:=⟨g,1,none⟩) (ai hh0)).trans hh0)
 have HHI:Hid (∀W,Below w.heap.size w W->∀q,q<held.length->∃p E,ah=some ⟨p,0,none⟩/\W.cell? ⟨p,q,none⟩=some (.int .i64 (E:Nat))):=fun W c q S=>by
  obtain⟨ao,cap,D,_,_,sw⟩:=KF.below c;injection D with V _ _
  subst V;obtain⟨p,hg,hc⟩:=sw q S;exact⟨p,_,hg,hc S⟩
 obtain⟨NH,Av⟩:=aJ held.length;rw[Av]at HH0 HHI aey Yf;have af2:Hid (∀W,Below w.heap.size w W->f<b.length->Calls Tryz.prog 146 #[.pointer (some ⟨g,0,none⟩),.int .i64 f,.slice x n C] W fun e d=>gL e/\Below W.heap.size W d):=fun W c ha=>M7 g J b held u f _ i W (L.o W c) (y.lits.below c) ha U;have afA:Hid (∀W,Below w.heap.size w W->f<j->Calls Tryz.prog 147 #[.pointer (some ⟨g,0,none⟩),.int .i64 f,.int .i64 j,.slice x n C] W fun e d=>gL e/\Below W.heap.size W d):=fun W c ha=>Sk g f j _ i W (y.lits.below c) ha;have ae3:Hid ((∀l∈i,kR b l=true)->∀W,Below w.heap.size w W->Calls Tryz.prog 148 #[.pointer (some ⟨g,0,none⟩),.slice x n C] W fun e d=>gL e/\Below W.heap.size W d):=fun m W c=>OA g J b held u _ i W (L.o W c) (y.lits.below c) hts U has aO (fun l h=>⟨fun hk=>⟨(qH (m l h)).1,(qH (m l h)).2 aO⟩,fun _=>(qH (m l h)).1⟩);have afO:Hid ((∀l∈i,kR b l=true)->∀W,Below w.heap.size w W->Calls Tryz.prog 149 #[.pointer (some ⟨g,0,none⟩),.slice x n C] W fun e d=>Ip d b.length (2*i.length) e/\Below W.heap.size W d):=fun m W c=>SV g J b held u hts U qJ _ i W (L.o W c) (y.lits.below c) aO (fun l h hk=>⟨(qH (m l h)).1,(qH (m l h)).2 hk⟩)
 have wQ:Hid (k=65->∀W (X:Value) (F:List S2),Below w.heap.size w W->mg W X F->(∀M∈F,M.zs.length=b.length/\(∀E∈M.zs,E.natAbs<=big 1000)/\M.c.natAbs<=big 1000)->F.length<=2*i.length->Calls Tryz.prog 150 #[.pointer (some ⟨g,0,none⟩),X,.slice aT nT cT,.int .i64 0] W fun e d=>(∃(bg:Nat) (j:Bool),e=.returned (.tuple #[.int .i64 bg,.bool j]))/\Below W.heap.size W d):=fun h65 W X F c Y hb m=>by
  obtain⟨K,d1,d2,d3,d4⟩:=X7 h65;refine(WZ g J b held u hts U qJ K d2 d3 d4 K.length 0 aO aO W X _ F (L.o W c) Y (d1.below c) (fun M h=>⟨(hb M h).1,⟨fun E hz=>Nat.le_trans (qP ((hb M h).2.1 E hz)) (by simp[fC]),Nat.le_trans (qP (hb M h).2.2) (by simp[fC])⟩⟩) aO).mono ?_;rintro e d ⟨⟨bg,j,he,_⟩,hb'⟩;exact⟨⟨bg,j,he⟩,hb'⟩
 have afV:Hid (∀W,Below w.heap.size w W->Calls Tryz.prog 151 #[.pointer (some ⟨g,0,none⟩),.slice x n C] W fun e d=>gL e/\Below W.heap.size W d):=fun W c=>by
  obtain⟨vc,h1,h2⟩:=(L.o W c).cls;exact M4 u i g _ vc W (y.lits.below c) h2 h1 hsm aO hT
 clear hp y U qJ has hsm hT X7 hel hh0 KF Av hn;go_enter Tryz.func104,Tryz.ntmps104;go_wp2_with fail
 go_loopw [5] (fun N wr=>∃q:Nat,N=.int .i64 q/\q<=n/\Below w.heap.size w wr/\∀l∈i.take q,kR b l=true) (fun N _=>n-(intOf N).toNat)
 case atStart=>exact⟨0,rfl,aO,af,aP⟩
 case round=>
  obtain⟨q,rfl,S,z,hall⟩:=hrel;have a:=di z;have yu:=di hall;obtain⟨O,r,A,s,P,_⟩:=HS.o wr z;have h0:=HH0.o wr z;clear z hall
  by_cases hlt:q<n
  ·obtain⟨l,m⟩:∃l,i[q]?=some l:=⟨_,aD (by rw[HN.o];exact hlt)⟩;obtain⟨p,rfl,r1,r2,r3,r4⟩:=HLG.o wr a.o q l m;have G:=di (BU.o l wr a.o)
   have jO:Hid (kR b l=true->∀R∈i.take (q+1),kR b R=true):=fun h R T=>by
    rw[List.take_add_one,m]at T;rcases List.mem_append.1 T with T|T
    ·exact yu.o R T
    ·have:R=l:=by simpa using T
     rw[this];exact h
   obtain⟨lb,hlb⟩:=aJ (kR b l);rw[hlb]at G jO;clear m hlb;go_wp2_with fail;refine G.o.mono ?_;rintro e Q ⟨rfl,t⟩;have B:=di (a.o.trans (t.mono a.o.size));clear t O r A s P h0 r1 r2 r3 r4;cases lb
   ·go_wp2_with fail;go_ret;exact⟨⟨_,rfl⟩,B.o⟩
   ·go_wp2_with fail;go_roundw
    case rel=>exact⟨q+1,bJ,aO,B.o,by first|exact jO.o rfl|exact jO.o trivial|exact jO.o⟩
    case measure=>exact akL
  ·have HL:Hid (∀l∈i,kR b l=true):=fun l m=>yu.o l (by rw[List.take_of_length_le aiC];exact m);have Ua:=di (YO.o f wr a.o);have LF:=di (YO.o j wr a.o);have acO:=di (p9 (ts:=b) (a:=f));obtain⟨H,hsa⟩:=aJ (iy b f);obtain⟨Z,hso⟩:=aJ (iy b j);rw[hsa]at Ua acO;rw[hso]at LF;clear hsa hso;go_wp2_with fail;refine Ua.o.mono ?_;rintro e Q ⟨rfl,hw2⟩;have zI:=hw2.symm;subst zI;clear hw2;go_wp2_with fail;refine LF.o.mono ?_;rintro e Q ⟨rfl,hw2⟩;have zI:=hw2.symm;subst zI;clear hw2
   by_cases k70:k=70
   ·have t70:((k:Int)==70)=true:=bz;clear k70;go_wp2_with fail
    go_loopw [9] (fun N wx=>∃q:Nat,N=.int .i64 q/\q<=NH/\Below w.heap.size w wx) (fun N _=>NH-(intOf N).toNat)
    case atStart=>exact⟨0,rfl,aO,a.o⟩
    case round=>
     obtain⟨bq,rfl,hp,z⟩:=hrel;rename World=>wj;have qx:=di z;clear O r A s P h0;obtain⟨O,r,A,s,P,_⟩:=HS.o wj z;have h0:=HH0.o wj z;clear z
     by_cases hpl:bq<NH
     ·obtain⟨p,E,rfl,r1⟩:=HHI.o wj qx.o bq hpl
      by_cases hz:E=f
      ·subst hz;go_wp2_with (go_quiet (fail));go_ret;exact⟨⟨_,rfl⟩,below_drewN qx.o _⟩
      ·have tz:((E:Int)==(f:Int))=false:=aj aO;clear hz;go_wp2_with (go_quiet (fail));go_roundw
       case rel=>exact⟨bq+1,bJ,aO,below_drewN qx.o _⟩
       case measure=>exact akL
     ·go_wp2_with fail;go_ret;exact⟨⟨_,rfl⟩,qx.o⟩
   have t70:((k:Int)==70)=false:=aj aO;clear k70
   by_cases k68:k=68
   ·have t68:((k:Int)==68)=true:=bz;clear k68
    by_cases V9:H=0
    ·have ta:((H:Int) !=0)=false:=aim;clear V9;exact alz
    ·have ta:((H:Int) !=0)=true:=aZ;have HD:=di (fun W c=>af2.o W c (acO.o V9));clear V9;go_wp2_with fail;go_region_held3 (fun d=>d.cell? ⟨o,1,none⟩=some (.int .i64 (f:Int))/\d.cell? ⟨o,3,none⟩=some (.slice x n C)) (go_keep) (first|(go_at_call 146;refine(HD.o _ (by first|exact a.o|exact a.o.drew)).mono ?_;rintro e w4 ⟨⟨rb,rfl⟩,v⟩;have s0:=(Below.cell v (p:=⟨o,1,none⟩) (ai r)).trans r;have s1:=(Below.cell v (p:=⟨o,3,none⟩) (ai s)).trans s));exact amc
   have t68:((k:Int)==68)=false:=aj aO;clear k68
   by_cases k81:k=81
   ·have t81:((k:Int)==81)=true:=bz;clear k81
    by_cases hs1:H=2
    ·have ta:((H:Int)==2)=true:=bz;clear hs1
     by_cases hs2:Z=2
     ·have tb:((Z:Int)==2)=true:=bz;clear hs2
      by_cases hab:f<j
      ·have tc:decide ((f:Int)<(j:Int))=true:=decide_eq_true aO;have tc2:decide (f<j)=true:=decide_eq_true hab;have HD:=di (fun W c=>afA.o W c hab);go_wp2_with fail;go_region_held3 (fun d=>d.cell? ⟨o,1,none⟩=some (.int .i64 (f:Int))/\d.cell? ⟨o,2,none⟩=some (.int .i64 (j:Int))/\d.cell? ⟨o,3,none⟩=some (.slice x n C)) (go_keep) (first|(go_at_call 147;refine(HD.o _ (by first|exact a.o|exact a.o.drew)).mono ?_;rintro e w4 ⟨⟨rb,rfl⟩,v⟩;have s0:=(Below.cell v (p:=⟨o,1,none⟩) (ai r)).trans r;have s2:=(Below.cell v (p:=⟨o,2,none⟩) (ai A)).trans A;have s1:=(Below.cell v (p:=⟨o,3,none⟩) (ai s)).trans s));exact amc
      ·have tc:decide ((f:Int)<(j:Int))=false:=decide_eq_false aO;exact alz
     ·have tb:((Z:Int)==2)=false:=aj aO;clear hs2;exact alz
    ·have ta:((H:Int)==2)=false:=aj aO;clear hs1;exact alz
   have t81:((k:Int)==81)=false:=aj aO;clear k81
   by_cases k85:k=85
   ·have t85:((k:Int)==85)=true:=bz;have G:=di (ae3.o HL.o wr a.o);clear k85;exact alM
   have t85:((k:Int)==85)=false:=aj aO;clear k85
   by_cases k65:k=65
   ·have t65:((k:Int)==65)=true:=bz;have G:=di (afO.o HL.o wr a.o);have HA:=di (wQ.o k65);clear k65;go_wp2_with fail;refine G.o.mono ?_;rintro e Q ⟨⟨X,F,rfl,Y,hsl,hsb⟩,t⟩;have I:=a.o.trans (t.mono a.o.size);have B:=di I;obtain⟨av,cv,D,_,_,_⟩:=vO Y;obtain⟨NV,SN⟩:=aJ F.length;rw[SN]at D;subst D;have jB:=di (HA.o Q _ F I Y hsb hsl);clear O r A s P h0;obtain⟨O,r,A,s,P,_⟩:=HS.o Q I;clear Y hsl hsb t I SN;go_wp2_with fail;refine jB.o.mono ?_;rintro e w3 ⟨⟨bg,rb,rfl⟩,hb3⟩;have I:=B.o.trans (hb3.mono B.o.size);have HB3:=di I;clear O r A s P;obtain⟨O,r,A,s,P,_⟩:=HS.o w3 I;clear hb3 I;cases rb
    ·go_wp2_with fail;go_ret;exact⟨⟨_,rfl⟩,HB3.o⟩
    ·go_wp2_with fail;go_ret;exact⟨⟨_,rfl⟩,HB3.o⟩
   have t65:((k:Int)==65)=false:=aj aO;have G:=di (afV.o wr a.o);clear k65;exact alM
end Go.Proofs.YtbichedkajfmiaaGreatDoor
