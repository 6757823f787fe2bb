import Derived.Test.YtjiagbaaikifpaaGreatDoorGLit0
import Derived.Test.YtjiagbaaikifpaaGreatDoorGWfX
set_option maxRecDepth 100000
set_option maxHeartbeats 16000000
namespace Go.Proofs.YtjiagbaaikifpaaGreatDoor
open Go.RowKit Go.Proofs.Tryz
variable {J:List Lit}{N i j k m n:Nat}{V v y:Value}{W w:World}{a d:eu}{f:List Int}
def GK (i m:Nat)(e:Ending):Prop:=∃(j:Nat) (b:Bool),e=dF (dM #[dw j,.bool b])/\(b=true->i<j/\j<=m)
theorem GK.no:GK n m (dF (dM #[dw k,dP])):=⟨k,false,rfl,aW⟩
theorem yF {b:List S2}(j:oN w v b):∃c a,v=.slice c b.length a/\b.length<=a/\a<=2 ^ 63-1/\∀i s,b[i]?=some s->∃g,c=some (dA g 0)/\w.cell? (dA g (i*2))=some s.v/\w.cell? (dA g (i*2+1))=some (dD (dC.dec s.c))/\fA w s.v s.zs:=by
 obtain⟨⟨c,a,f,h,k,o,l⟩,m⟩:=j;rw[List.length_map]at f h;refine⟨c,a,f,h,by unfold maxLen at k;omega,λi s d=>?_⟩;obtain⟨hi,d⟩:=aG d;obtain⟨g,n,e⟩:=l i di;simp only[List.getElem_map,d]at e;exact⟨g,n,e 0 aR _ rfl,e 1 aR _ rfl,m s (by rw[<-d];exact List.getElem_mem hi)⟩
theorem Wy (h:fA w v f):∃a c,v=.slice a f.length c/\f.length<=c/\c<=2 ^ 63-1:=by
 obtain⟨a,c,b,d,e,_⟩:=h;exact⟨a,c,b,d,e⟩
theorem MV (h:fA w (.slice a n m) f):∀i z,f[i]?=some z->∃g,a=some (dA g 0)/\w.cell? (dA g i)=some (dD (dC.dec z)):=by
 obtain⟨k,l,e,_,_,c⟩:=h;injection e with e _ _
 subst e;intro i z b;obtain⟨hi,b⟩:=aG b;obtain⟨g,d,j⟩:=c i hi;exact⟨g,d,by rw[<-b];exact j hi⟩
theorem aa7 (pb bb:Nat)(E:List fB)(held:List Nat)(cs:List (List Lit))(hts:E.length<=1000)(hwf:jQ E)(ru:zg E)(d:List Nd)(hds:∀bn∈d,Ep bn)(aco:gM d<=1000000000)(hdl:d.length<=700000) :
 ∀(bq i:Nat),bq=d.length-i->i<=d.length->∀(w:World) (vl vt:Value) (h:List S2),iE w pb bb E held cs->oN w vl h->nQ w vt d->(∀s∈h,s.zs.length=E.length/\LB (10030+gM (d.take i)) s.zs s.c)->h.length<=200000+i->
 dH 152 #[dK pb 0,vl,vt,dw i] w λe F=>GK i d.length e/\dB w F:=by
 intro bq
 induction bq using Nat.strongRecOn with
 | _ bq ih=>
 intro i hr hi w vl vt h hp hss hnd hlb hsl
 have IH:Hid (∀j,i<j->j<=d.length->∀(W:World) (bg:Value) (s2:List S2),dB w W->oN W bg s2->(∀s∈s2,s.zs.length=E.length/\LB (10030+gM (d.take j)) s.zs s.c)->s2.length<=200000+j->dH 152 #[dK pb 0,bg,vt,dw j] W λe F=>GK j d.length e/\dB W F):=
  λj m G W bg s2 A hs2 hl2 hsl2=>ih (d.length-j) aR j rfl G W bg vt s2 (hp.below A) hs2 (hnd.below A) hl2 hsl2
 have HOF:Hid (∀(j:Nat) (F:World),j<E.length->dB w F->dH 210 #[dK pb 0,dw j] F λe w''=>IM E j w'' F.heap.size e/\dB F w''):=λj F T hbw=>Wx pb bb E held cs hts hwf ru j F (hp.below hbw) T;have Dn:=dn hss;have wR:=dn hlb;obtain⟨al,Az,rfl,sl1,sl2,hsg⟩:=yF hss;obtain⟨an,aiD,rfl,nd1,nd2,hel⟩:=id hnd;unfold maxLen at nd2
 have HSG:Hid (∀W,dB w W->∀i s,h[i]?=some s->∃H,al=some (dA H 0)/\W.cell? (dA H (i*2))=some s.v/\W.cell? (dA H (i*2+1))=some (dD (dC.dec s.c))/\fA W s.v s.zs):=λW A i s f=>by
  obtain⟨H,m,G,h3,h4⟩:=hsg i s f;exact⟨H,m,(A.eT G),(A.eT h3),h4.below A⟩
 obtain⟨vT,hT0,hT1⟩:=hp.terms;obtain⟨aT,lL,rfl,Ob,hT3,aaE⟩:=hT1;unfold maxLen at hT3;have p0:=hp.book;have HP0:=dn (λW (q:dB w W)=>(q.eT p0));have HT0:=dn (λW (q:dB w W)=>(q.eT hT0))
 have Ym:Hid (∀j,j<E.length->∃H so,aT=some (dA H 0)/\∀W,dB w W->W.cell? (dA H (j*5+2))=some (dw (so:Nat))):=λj T=>by
  obtain⟨H,hg,hc⟩:=aaE j T;have G:=(hc T).sort;exact⟨H,_,hg,λW A=>(A.eT G)⟩
 obtain⟨a,uP⟩:=aK E.length;have uT:=dn uP;obtain⟨NS,yR⟩:=aK h.length;have uI:=dn yR;obtain⟨ND,hND⟩:=aK d.length;rw[uP]at hts Ob HT0 Ym HOF;rw[yR]at sl1 hsl Dn ⊢;rw[hND]at hi nd1 hdl IH ⊢
 by_cases hlt:i<ND
 ·obtain⟨bn,hd⟩:∃bn,d[i]?=some bn:=⟨_,aF aR⟩;obtain⟨gn,rfl,hcn⟩:=hel i aR;have hcn:=hcn aR;rw[(aG hd).2]at hcn;obtain⟨n0,⟨am,cm,n1,n2,n3,n4⟩,n5,n6⟩:=hcn;have HMU:=dn (λW (q:dB w W)=>MV (n4.below q));have hok:=hds bn (List.mem_of_getElem? hd);have Jc:=dn (MZ hd);have HCM:=dn (G6 d (i+1));obtain⟨J,r,M,nu⟩:=bn;simp only at n0 n1 n2 n5 n6 HMU hok Jc;obtain⟨ok1,ok2,Ww⟩:=hok;simp only at ok1 ok2 Ww;have YA:Hid (gM (d.take (i+1))=gM (d.take i)+(ib r+nu.length+30)/\gM (d.take (i+1))<=1000000000):=⟨Jc.o,Nat.le_trans HCM.o aco⟩;obtain⟨B,hNM⟩:=aK r.length;have HNM:=dn hNM;rw[hNM]at n1 n2;obtain⟨t,hW1⟩:∃t,w.alloc (.cells #[.int .u8 J,.slice am B cm,dw M,dD nu] 277)=t:=⟨_,rfl⟩;have hb1:dB w t:=amH;have hs1:t.heap.size=w.heap.size+1:=alZ;have x0:t.cell? (dA w.heap.size 0)=some (.int .u8 J):=alZ;have x1:t.cell? (dA w.heap.size 1)=some (.slice am B cm):=alZ;have g:t.cell? (dA w.heap.size 2)=some (dw M):=alZ;have x3:t.cell? (dA w.heap.size 3)=some (dD nu):=alZ
  have HX:Hid (Cells t [((dA w.heap.size 0),.int .u8 J),((dA w.heap.size 1),.slice am B cm),((dA w.heap.size 2),dw M),((dA w.heap.size 3),dD nu)]):=λC hq=>by
   simp only[List.mem_cons,List.not_mem_nil,or_false]at hq;rcases hq with rfl|rfl|rfl|rfl
   ·exact x0
   ·exact x1
   ·exact g
   ·exact x3
  have HB1:=dn hb1;have z0:=HP0.o t hb1;have z1:=HT0.o t hb1;clear hp hss hnd hlb hsg hel hT0 aaE p0 n4 hd hds Jc HCM hNM uP yR hND ih hr aco hwf ru
  by_cases hk:J=115
  ·obtain⟨z,hz⟩:=Ww hk;subst hz;have tk:((J:Int)==115)=true:=bM;clear hk
   by_cases hv:M<a
   ·obtain⟨H,so,rfl,hso⟩:=Ym.o M hv;have z2:=hso t hb1;have tv:decide ((a:Int)<=(M:Int))=false:=decide_eq_false aR;clear hb1 Ww hso
    by_cases hs2:so=2
    ·have ts2:((so:Int) !=2)=false:=by simp[hs2]
     clear hs2;go_enter func152,ntmps152;have HDZ:Hid ((dC.dec z).length<=1000000000):=by show _<=_;have:=YA.o;omega
     go_upto_region 7 with (go_quiet (fail));have D6:=below_drewN HB1.o nq;have HXA:Hid (Cells (t.drewN nq) [((dA w.heap.size 0),.int .u8 J),((dA w.heap.size 1),.slice am B cm),((dA w.heap.size 2),dw M),((dA w.heap.size 3),dD (dC.dec z))]):=HX.o.below (below_drewN af nq);clear x0 x1 g x3 z0 z1 z2 hW1 hs1;have y2:(t.drewN nq).cell? (dA w.heap.size 2)=some (dw M):=HXA.o ((dA w.heap.size 2),dw M) aW;generalize t.drewN nq=WA at *;go_wp2_with fail;refine(HOF.o M WA hv D6).mono ?_;rintro e c ⟨⟨l,K,hsp,NG,hub,huc,_⟩,X⟩;obtain⟨vu,rfl,hou⟩:=hsp.o;obtain⟨u,v,hvu,q1,q2,_⟩:=eZ hou;subst hvu;have hbw2:=D6.dW X;have Yy:=dn (fA.fq hou);have LBU:Hid (LB 10002 l K):=⟨λN Y=>Nat.le_trans (uy (hub N Y)) aR,Nat.le_trans (uy huc) aR⟩;have IX:Hid (l.length=a):=by show _=_;rw[NG];exact uT.o
     have hNU:l.length=a:=IX.o;rw[hNU]at Yy q1 hou ⊢;have IY:Hid (∀Z,(Value.slice u a v).ownBlock=some Z->Z<c.heap.size):=λZ A=>(hou.lt Z A).2;obtain⟨w3,hw3⟩:∃w3,(c.alloc (.cells #[.slice u a v,dD (dC.dec K)] 274)).alloc (.cells #[.slice u a v,dD (dC.dec K)] 274)=w3:=⟨_,rfl⟩;have hb3:dB c w3:=by rw[<-hw3];exact ai.alloc aW _
     have hs3:w3.heap.size=c.heap.size+1+1:=by rw[<-hw3];simp
     have Yk:Hid (Cells w3 [((dA w.heap.size 3),dD (dC.dec z)),((dA c.heap.size 0),.slice u a v),((dA c.heap.size 1),dD (dC.dec K)),((dA (c.heap.size+1) 0),.slice u a v)]):=by
      intro C hq;simp only[List.mem_cons,List.not_mem_nil,or_false]at hq;rcases hq with rfl|rfl|rfl|rfl
      ·exact(HXA.o.below X).below hb3 ((dA w.heap.size 3),dD (dC.dec z)) aW
      ·rw[<-hw3];exact aW
      ·rw[<-hw3];exact aW
      ·rw[<-hw3];exact aW
     have r3:=Yk.o ((dA w.heap.size 3),dD (dC.dec z)) aW;have r4:=Yk.o ((dA c.heap.size 1),dD (dC.dec K)) aW;have r5:w3.cell? (dA (c.heap.size+1) 1)=some (dD (dC.dec K)):=by rw[<-hw3];simp
     have r6:∀o,w3.frozen? (dA (c.heap.size+1) o)=false:=λo=>by rw[<-hw3];simp
     have HB3:=dn (hbw2.dW hb3);have ajj:=dn (Yy.o.below hb3);have hws:=hbw2.size;have zi:Hid (w.heap.size<c.heap.size):=Nat.lt_of_lt_of_le (aj y2) X.size;have aiW:=dn (λW=>JR K z W (aP LBU.o.c) (aP HDZ.o));clear X hb3 hsp NG hub huc hou D6 hbw2 y2 hNU;go_wp2_with fail;refine(aiW.o _).dX λU n=>?_;obtain⟨D,hc1⟩:=aK (K-z);have aiL:Hid ((dC.dec D).length<=10010+(dC.dec z).length):=by show _<=_;rw[<-hc1];have m:=vX K z;have G:=LBU.o.c;omega
     rw[hc1];have s5:=n.dL r5 (by show c.heap.size+1<_;omega);have s6:∀o,U.frozen? (dA (c.heap.size+1) o)=false:=λo=>(n.gq (r6 o) (by show c.heap.size+1<_;omega));obtain⟨O,lW⟩:=aK (U.setCell (dA (c.heap.size+1) 1) (dD (dC.dec D)));have hs4:=n.size;have BI:Hid (dB w O):=by rw[<-lW];exact(HB3.o.dW n).setCell (by show w.heap.size<=c.heap.size+1;have:=zi.o;omega) _
     have HV5:Hid (Cells O [((dA w.heap.size 3),dD (dC.dec z)),((dA c.heap.size 0),.slice u a v),((dA c.heap.size 1),dD (dC.dec K)),((dA (c.heap.size+1) 0),.slice u a v)]):=by
      show Cells _ _;rw[<-lW];refine(Yk.o.below n).set ?_;intro C hq;have:=zi.o;simp only[List.mem_cons,List.not_mem_nil,or_false]at hq;rcases hq with rfl|rfl|rfl|rfl
      ·intro e;injection e with e _;exact aR
      ·intro e;injection e with e _;exact aR
      ·intro e;injection e with e _;exact aR
      ·intro e;exact ano
     have HL5:Hid (O.cell? (dA (c.heap.size+1) 1)=some (dD (dC.dec D))):=by show _=_;rw[<-lW];exact aC s5
     have hs5:O.heap.size=U.heap.size:=by rw[<-lW];simp[World.setCell]
     have aji:Hid (fA O (.slice u a v) l):=by
      show fA _ _ _;rw[<-lW];exact(ajj.o.below n).set (λe=>by have:=IY.o _ e;simp only at this;omega) _
     have t0:=HV5.o ((dA c.heap.size 0),.slice u a v) aW;clear n r3 r4 r5 r6 hc1;go_wp2_with fail;refine(BM a O aR).mono ?_;rintro e w6 ⟨hz6,hb6⟩;obtain⟨vz,rfl,Hr⟩:=hz6.o;obtain⟨az,cz,hvz,qz1,qz2,_⟩:=eZ Hr;subst hvz;rw[List.length_replicate]at Hr qz1 ⊢;have sG:=BI.o.dW hb6;have zq:=dn (fA.fq (zs:=List.replicate a 0) (by rw[List.length_replicate];exact Hr));obtain⟨w7,hw7⟩:∃w7,w6.alloc (.cells #[.slice az a cz,dD (dC.dec 0)] 274)=w7:=⟨_,rfl⟩;have H8:dB w6 w7:=by rw[<-hw7];exact af.alloc ae _
     have HB7:=dn (sG.dW H8);have Ua:=hb6.dW H8;have HV7:=dn (HV5.o.below Ua);have HL7:Hid (w7.cell? (dA (c.heap.size+1) 1)=some (dD (dC.dec D))):=Ua.eT HL5.o;have agh:=dn (aji.o.below Ua);have ajg:=dn (zq.o.below H8);have v0:=HV7.o ((dA c.heap.size 0),.slice u a v) aW;have v1:=HV7.o ((dA c.heap.size 1),dD (dC.dec K)) aW;have u0:w7.cell? (dA w6.heap.size 0)=some (.slice az a cz):=by rw[<-hw7];simp
     have u1:w7.cell? (dA w6.heap.size 1)=some (dD (dC.dec 0)):=by rw[<-hw7];simp
     have TF:=Q7 (k:=-1) (K:=2) ajg.o agh.o (List.length_replicate) IX.o aR (LB.zero a 1 aR) LBU.o (by rw[dC.rQ];simp) aR aR aR;rw[dC.rQ]at TF;have K3:=dn TF;clear hb6 H8 hz6 Hr sG TF t0 Ua;go_wp2_with fail;refine K3.o.mono ?_;rintro e b ⟨⟨ys,c8,v8,rfl,WY,hl8,aeX⟩,KD⟩;obtain⟨a8,Ot,hv8,p81,p82,_⟩:=eZ WY;subst hv8;rw[hl8]at WY p81 ⊢;have LB8:=dn aeX;have HL8:=dn hl8;have afp:=HB7.o.dW KD;obtain⟨Q,Rj⟩:∃Q,b.alloc (.cells #[.slice a8 a Ot,dD (dC.dec c8)] 274)=Q:=⟨_,rfl⟩;have hb9:dB b Q:=by rw[<-Rj];exact af.alloc ae _
     have HB9:=dn (afp.dW hb9);have T9:=KD.dW hb9;have HV9:=dn (HV7.o.below T9);have HL9:Hid (Q.cell? (dA (c.heap.size+1) 1)=some (dD (dC.dec D))):=T9.eT HL7.o;have ajh:=dn (agh.o.below T9);have ajn:=dn ((fA.fq (zs:=ys) (by rw[hl8];exact WY)).below hb9);have aiS:Hid (∀Z,(Value.slice a8 a Ot).ownBlock=some Z->Z<b.heap.size):=λZ A=>(WY.lt Z A).2;have j3:=HV9.o ((dA w.heap.size 3),dD (dC.dec z)) aW;have k0:Q.cell? (dA b.heap.size 0)=some (.slice a8 a Ot):=by rw[<-Rj];simp
     have k1:Q.cell? (dA b.heap.size 1)=some (dD (dC.dec c8)):=by rw[<-Rj];simp
     have kf:∀o,Q.frozen? (dA b.heap.size o)=false:=λo=>by rw[<-Rj];simp
     have alL:Hid (Q.heap.size=b.heap.size+1):=by show _=_;rw[<-Rj];simp
     have U2:Hid (c.heap.size+1<b.heap.size):=by show _<_;have m:=aj HL7.o;have G:=KD.size;simp only at m;omega
     have hadd:=λW=>vQ z 1 W (aP HDZ.o) (by rw[dC.lD];simp);rw[dC.lD]at hadd;have uM:=dn hadd;clear KD hb9 hl8 aeX WY afp hadd v0 v1 u0 u1 T9;go_wp2_with fail;refine(uM.o _).dX λMd Cw=>?_;obtain⟨c9,hc9⟩:=aK (z+1);have afW:Hid ((dC.dec c9).length<=(dC.dec z).length+4):=by show _<=_;rw[<-hc9];have m:=mX z 1;rw[dC.lD]at m;have G:0<(dC.dec z).length:=List.length_pos_iff.2 (dC.xW z);simp only[List.length_cons,List.length_nil]at m;omega
     rw[hc9];have akl:=dn (HB9.o.dW Cw);have aiP:=dn (HV9.o.below Cw);have ajA:Hid (Md.cell? (dA (c.heap.size+1) 1)=some (dD (dC.dec D))):=Cw.eT HL9.o;have ag9:=dn (ajh.o.below Cw);have ahe:=dn (ajn.o.below Cw);have m0:=Cw.dL k0 (show b.heap.size<_ from World.block_lt_of_cell? Q (dA b.heap.size 0) k0);have m1:=Cw.dL k1 (show b.heap.size<_ from World.block_lt_of_cell? Q (dA b.heap.size 0) k0);have mf:∀o,Md.frozen? (dA b.heap.size o)=false:=λo=>(Cw.gq (kf o) (show b.heap.size<_ from World.block_lt_of_cell? Q (dA b.heap.size 0) k0));have acT:=dn (λW=>vQ c8 c9 W (aP LB8.o.c) (aQ afW.o HDZ.o));have akG:Hid (b.heap.size<Md.heap.size):=aj m0;clear Cw k0 k1 kf j3 hc9 uM Rj hw7 lW hw3;go_wp2_with fail;refine(acT.o _).dX λw11 Cv=>?_;obtain⟨c10,aaA⟩:=aK (c8+c9);have ag0:Hid ((dC.dec c10).length<=10020+(dC.dec z).length):=by show _<=_;rw[<-aaA];have m:=mX c8 c9;have G:=LB8.o.c;have h3:=afW.o;omega
     rw[aaA];have o1:=Cv.dL m1 (show b.heap.size<_ from World.block_lt_of_cell? Md (dA b.heap.size 0) m0);have of:=λo=>(Cv.gq (mf o) (show b.heap.size<_ from World.block_lt_of_cell? Md (dA b.heap.size 0) m0));have o0:=Cv.dL m0 (show b.heap.size<_ from World.block_lt_of_cell? Md (dA b.heap.size 0) m0);obtain⟨L,Cm⟩:=aK (w11.setCell (dA b.heap.size 1) (dD (dC.dec c10)));have hbx:=akl.o.dW Cv;have agC:Hid (dB w L):=by rw[<-Cm];exact hbx.setCell (by show w.heap.size<=b.heap.size;have:=U2.o;have:=zi.o;omega) _
     have afz:=Cv.eT ajA.o;have afw:=aiP.o.below Cv;have l1:L.cell? (dA (c.heap.size+1) 1)=some (dD (dC.dec D)):=by rw[<-Cm];exact(ax (λe=>by injection e with e _;have:=U2.o;omega)).trans afz
     have l0:L.cell? (dA (c.heap.size+1) 0)=some (.slice u a v):=by rw[<-Cm];exact(ax (λe=>by injection e with e _;have:=U2.o;omega)).trans (afw ((dA (c.heap.size+1) 0),.slice u a v) aW)
     have h0:L.cell? (dA b.heap.size 0)=some (.slice a8 a Ot):=by rw[<-Cm];exact(ax (λe=>ano)).trans o0
     have m:L.cell? (dA b.heap.size 1)=some (dD (dC.dec c10)):=by rw[<-Cm];exact aC o1
     have ag8:Hid (fA L (.slice u a v) l):=by show fA _ _ _;rw[<-Cm];exact(ag9.o.below Cv).set (λe=>by have:=IY.o _ e;have:=U2.o;simp only at *;omega) _
     have ahd:Hid (fA L (.slice a8 a Ot) ys):=by show fA _ _ _;rw[<-Cm];exact(ahe.o.below Cv).set (λe=>by have:=aiS.o _ e;simp only at this;omega) _
     have alH:Hid (L.heap.size=w11.heap.size):=by show _=_;rw[<-Cm];simp[World.setCell]
     have UU:=dn (F6 (.slice al NS Az) h (.slice u a v) l D L (Dn.o.below agC.o) ag8.o (by rw[uI.o];omega))
     have rW:Hid (∀(bg:Value) (R:List Int) (p:Int) (bA j:Nat),R.length=a->LB bA R p->bA<=10020+(dC.dec z).length->i<j->∀s∈h++[⟨bg,R,p⟩],s.zs.length=E.length/\LB (10030+gM (d.take j)) s.zs s.c):=λbg R p bA j hl A _ T s f=>by
      have hmo:=yM d (show i<=j by omega);have ak0:=yM d (show i+1<=j by omega);have hmc:=YA.o.1;rcases List.mem_append.1 f with f|f
      ·exact⟨(wR.o s f).1,(wR.o s f).2.mono aR⟩
      ·rw[List.mem_singleton.1 f];exact⟨by rw[uT.o];exact hl,A.mono aR⟩
     have U0:Hid (∀(s:S2) (j:Nat),i<j->(h++[s]).length<=200000+j):=λs j T=>by rw[List.length_append,uI.o];simp only[List.length_cons,List.length_nil];omega
     clear Cv hbx afz afw m0 m1 mf aaA acT;go_wp2_with fail;clear o0 o1 of;refine UU.o.mono ?_;rintro e Vr ⟨⟨v13,rfl,Gn⟩,Ao⟩;obtain⟨a13,aiC,NC,_,_,_⟩:=yF Gn;obtain⟨N13,Og⟩:∃I,(h++[(⟨.slice u a v,l,D⟩:S2)]).length=I:=⟨_,rfl⟩;rw[Og]at NC;subst NC;clear Og;have Cu:=agC.o.dW Ao;have PS:=dn Cu;have hcall:=(IH.o (i+1) aR aR Vr _ _ Cu Gn (rW.o _ l D (10010+(dC.dec z).length) (i+1) IX.o ⟨λN Y=>aP (LBU.o.zs N Y),aiL.o⟩ aR aR) (U0.o _ _ aR));rw[show((i+1:Nat):Int)=(i:Int)+1 by omega]at hcall;have mq:=dn hcall;clear hcall;have g0:=Ao.dL h0 (show b.heap.size<_ from World.block_lt_of_cell? L (dA b.heap.size 0) h0);have g1:=Ao.dL m (show b.heap.size<_ from World.block_lt_of_cell? L (dA b.heap.size 0) h0);have ahc:=dn (ahd.o.below Ao);clear Gn Ao Cu l0 l1 h0 m Cm;go_wp2_with fail;refine mq.o.mono ?_;rintro e w14 ⟨⟨j,bb2,rfl,T⟩,N8⟩;have HJ:=dn T;have acs:=PS.o.dW N8;have abZ:=dn acs;have f0:=N8.dL g0 (show b.heap.size<_ from World.block_lt_of_cell? Vr (dA b.heap.size 0) g0);have f1:=N8.dL g1 (show b.heap.size<_ from World.block_lt_of_cell? Vr (dA b.heap.size 0) g0);have ahb:=dn (ahc.o.below N8);clear T N8 acs g0 g1 mq;cases bb2
     ·go_wp2;go_ret2;exact⟨.no,abZ.o⟩
     ·obtain⟨hj1,hj2⟩:=HJ.o rfl;have af0:=dn (F6 (.slice al NS Az) h (.slice a8 a Ot) ys c10 w14 (Dn.o.below abZ.o) ahb.o (by rw[uI.o];omega));go_wp2_with fail;refine af0.o.mono ?_;rintro e w15 ⟨⟨v15,rfl,aan⟩,aft⟩;obtain⟨a15,alD,aeF,_,_,_⟩:=yF aan;obtain⟨N15,afy⟩:∃I,(h++[(⟨.slice a8 a Ot,ys,c10⟩:S2)]).length=I:=⟨_,rfl⟩;rw[afy]at aeF;subst aeF;clear afy;have TZ:=abZ.o.dW aft;have akk:=dn TZ;have mq:=dn (IH.o j aR hj2 w15 _ _ TZ aan (rW.o _ ys c10 (10020+(dC.dec z).length) j HL8.o ⟨λN Y=>aP (LB8.o.zs N Y),ag0.o⟩ aR aR) (U0.o _ _ aR));clear aan aft TZ f0 f1;go_wp2_with fail;refine mq.o.mono ?_;rintro e w16 ⟨⟨j2,bb3,rfl,NP⟩,N7⟩;have iP:Hid (GK i ND (dF (dM #[dw (j2:Nat),.bool bb3]))):=⟨j2,bb3,rfl,λq=>⟨aP (NP q),(NP q).2⟩⟩;have abY:=dn (akk.o.dW N7);clear NP N7 mq;go_wp2;go_ret2;exact⟨iP.o,abY.o⟩
    ·have ts2:((so:Int) !=2)=true:=bJ;exact aqJ
   ·have tv:decide ((a:Int)<=(M:Int))=true:=decide_eq_true aR;clear hb1 Ww;exact aqJ
  ·have tk:((J:Int)==115)=false:=ak aR;clear hk Ww
   by_cases NM:B=NS
   ·subst NM;have ajq:Hid (∀k,k<B->∃P,r[k]?=some P):=λk hk=>⟨_,aF (by rw[HNM.o];exact hk)⟩;have aiY:Hid (∀k,k<B->∃s,h[k]?=some s):=λk hk=>⟨_,aF (by rw[uI.o];exact hk)⟩;have Yz:Hid (∀k,10030+gM (d.take i)+ib (r.take k)<=1000020000/\ib (r.take k)<=ib r):=λk=>by have m:=YA.o;have G:=ZU r k;omega
    obtain⟨V,hMM⟩:=aK (10030+gM (d.take i));rw[hMM]at wR Yz;have U9:=dn hMM;clear hMM;go_enter func152,ntmps152;go_wp2_with fail;refine(BM a _ aR).mono ?_;rintro e c ⟨hz2,X⟩;obtain⟨vz,rfl,Hr⟩:=hz2.o;obtain⟨az,cz,hvz,qz1,qz2,_⟩:=eZ Hr;subst hvz;have akn:=dn (AS.start (w:=w) (NT:=a) (a:=az) (p:=cz) (zs:=List.replicate a 0) (c:=0) (by rw[List.length_replicate]at Hr ⊢;exact Hr) List.length_replicate (HB1.o.dW X) (HX.o.below X));rw[List.length_replicate];have alO:Hid (w.heap.size<c.heap.size):=by show _<_;have:=X.size;omega
    clear hz2 X Hr z0 z1 x0 x1 g x3 hW1 hb1 hs1 qz1;go_wp2_with fail
    go_loopw [21] (fun C wr=>∃(k:Nat) (bB:eu) (bC:Nat) (R:List Int) (p:Int),C=dw k/\k<=B/\AS w wr c.heap.size a bB bC R p [((dA w.heap.size 0),.int .u8 J),((dA w.heap.size 1),.slice am B cm),((dA w.heap.size 2),dw M),((dA w.heap.size 3),dD nu)]/\LB (V+ib (r.take k)) R p) (fun C _=>B-(intOf C).toNat)
    ·exact⟨0,az,cz,_,0,rfl,aR,akn.o,LB.zero a _ (aP U9.o)⟩
    case round=>
     obtain⟨k,bB,bC,R,p,rfl,hk,y,hlb⟩:=hrel;have HAS:=dn y;have agl:=dn hlb;have K:=y.c0;have D:=y.c1;have cf:=y.fr;have y1:=y.cells ((dA w.heap.size 1),.slice am B cm) aW;have y0:=y.cells ((dA w.heap.size 0),.int .u8 J) aW;obtain⟨afO,cap2⟩:=y.cap;clear hlb
     by_cases hkl:k<B
     ·obtain⟨P,hm⟩:=ajq.o k hkl;obtain⟨s,f⟩:=aiY.o k hkl;obtain⟨gm,rfl,r1⟩:=HMU.o wr y.ek k P hm;obtain⟨gs,rfl,r2,r3,r4⟩:=HSG.o wr y.ek k s f;obtain⟨q1,q2⟩:=wR.o s (List.mem_of_getElem? f);obtain⟨sv,szs,sc⟩:=s;simp only at r2 r3 r4 q1 q2;obtain⟨sa,sp,rfl,e1,e2⟩:=Wy r4;have aaj:szs.length=a:=by rw[q1];exact uT.o
      rw[aaj]at r2 r4 e1;have HMS:=dn (Tp hm);have hmm:=(Yz.o (k+1)).1;have aao:(dC.dec P).length<=1000020000:=aP HMS.o
      have K3:Hid (∀W,dB wr W->dH 212 #[.agg #[.slice bB a bC,dD (dC.dec p)],dD (dC.dec P),.agg #[.slice sa a sp,dD (dC.dec sc)]] W λe F=>acz F W.heap.size a (max (V+ib (r.take k)) ((dC.dec P).length+V+1)+2) e/\dB W F):=λW hW=>
       Q7 (y.nums.below hW) (r4.below hW) y.len aaj aR agl.o q2 ae (aP ((Yz.o k).1)) (aP ((Yz.o 0).1)) aR
      have HMX:Hid (max (V+ib (r.take k)) ((dC.dec P).length+V+1)+2<=V+ib (r.take (k+1))):=by show _<=_;have:=HMS.o;omega
      have PG:Hid (gm<wr.heap.size/\gs<wr.heap.size):=⟨World.block_lt_of_cell? wr (dA gm k) r1,World.block_lt_of_cell? wr (dA gs (k*2)) r2⟩;clear hm f q1 q2 r4 y aaj hmm aao;generalize dC.dec P=dm at *;go_upto_region 26 with fail
      go_region_with (go_at_call 212;refine(K3.o _ af.drew).mono ?_;rintro e U ⟨⟨zs2,c2,v2,rfl,ho2,hl2,aeY⟩,n⟩;obtain⟨a2,p2,hv2,_,_,_⟩:=eZ ho2;subst hv2;rw[hl2]at ho2 ⊢;have S:dB wr U:=af.drew.trans n;have d0:=(HAS.o.below S).c0;have d1:=(HAS.o.below S).c1;have df:=(HAS.o.below S).fr;have HST:=dn (HAS.o.store (c':=c2) S (by rw[hl2];exact ho2) hl2 ae);have ajz:=dn (aeY.mono HMX.o);clear n S ho2 hl2 aeY)
      all_goals
       go_wp2;go_roundw
       ·exact⟨k+1,a2,p2,zs2,c2,bL,aR,HST.o,ajz.o⟩
       ·exact aph
     ·have K5:Hid (LB (V+ib r) R p):=agl.o.mono (aP ((Yz.o k).2));have hmx:V+ib r<=1000020000:=by have m:=YA.o;have G:=U9.o;omega
      have agj:Hid (V+ib r+20<=10030+gM (d.take (i+1))):=by show _<=_;have m:=YA.o;have G:=U9.o;omega
      obtain⟨MX,hMX⟩:=aK (V+ib r);rw[hMX]at K5 hmx agj;have zh:=dn y.len;have FU:=dn (λW (q:dB wr W)=>MV (y.nums.below q));have HD0:Hid ([48]=dC.dec 0):=by show _=_;rw[dC.gV]
      clear hMX y;go_wp2_with fail
      go_loopw [22,23] (fun H C wx=>∃(j:Nat) (z:Int),C=dw j/\j<=a/\H=dD (dC.dec z)/\GOk MX z/\dB wr wx) (fun _ C _=>a-(intOf C).toNat)
      ·exact⟨0,0,rfl,aR,by rw[<-HD0.o],⟨aR,.inl rfl⟩,af⟩
      case round=>
       obtain⟨j,z,rfl,T,rfl,hgo,hbj⟩:=hrel;rename World=>wj;have RP:=dn hgo;have oh:=dn hbj;have JE:=HAS.o.below hbj;have Vh:=dn JE;have f0:=JE.c0;have f1:=JE.c1;have g0:=JE.cells ((dA w.heap.size 0),.int .u8 J) aW;have hzl:=hgo.len;clear K D cf y1 y0 hgo
       by_cases hjl:j<a
       ·obtain⟨x,hx⟩:∃x,R[j]?=some x:=⟨_,aF (by rw[zh.o];exact hjl)⟩;obtain⟨gz,rfl,r1⟩:=FU.o wj hbj j x hx;have hxl:=K5.o.zs x (List.mem_of_getElem? hx);have HC:=dn (ad6 z x wj aR aR);have HG2:Hid (GOk MX ((Int.gcd z x:Nat):Int)):=⟨aR,adD RP.o.2 hxl⟩;clear hx hbj JE hxl;obtain⟨z2,hz2⟩:∃z2:Int,((Int.gcd z x:Nat):Int)=z2:=⟨_,rfl⟩;rw[hz2]at HC HG2;clear hz2;generalize dC.dec x=dx at *;go_wp2_with fail;refine HC.o.dX λU n=>?_;have rz:=dn (oh.o.dW n);clear n;go_wp2;go_roundw
        ·exact⟨j+1,z2,bL,aR,rfl,HG2.o,rz.o⟩
        ·exact aph
       ·have hbw:=Vh.o.ek;have jG:=dn hbw;have hcl:=K5.o.c;clear hbj JE
        by_cases hf:J=102
        ·have tf:((J:Int)==102)=true:=bM;have af6:=dn (OP p wj aR);have iP:Hid (∀bb:Bool,GK i ND (dF (dM #[dw ((i:Int)+1),.bool bb]))):=λbb=>⟨i+1,bb,by rw[show((i+1:Nat):Int)=(i:Int)+1 by omega],λ_=>⟨aR,aR⟩⟩;clear hf hbw;generalize dC.dec z=dz at *;generalize dC.dec p=dc at *;obtain⟨sg,hsg⟩:=aK p.sign;rw[hsg]at af6;clear hsg;go_wp2_with fail;refine af6.o.dX λU hw4=>?_;have aah:=hw4.symm;subst aah;clear hw4;cases e0:(dz==[48])
         ·go_wp2;go_ret2;exact⟨iP.o _,jG.o⟩
         ·go_wp2;go_ret2;exact⟨iP.o _,jG.o⟩
        ·have tf:((J:Int)==102)=false:=ak aR;clear hf
         by_cases hz0:z=0
         ·have tz:(dC.dec z==[48])=true:=by rw[hz0,dC.gV];rfl
          clear hz0 hbw;generalize dC.dec z=dz at *;go_wp2;go_ret2;exact⟨.no,jG.o⟩
         ·have hzp:0<z:=aP RP.o.1
          have tz:(dC.dec z==[48])=false:=by
           rw[beq_eq_false_iff_ne];intro e;rw[HD0.o]at e;exact hz0 (dC.JK e)
          have acP:=dn (λx (q:(dC.dec x).length<=MX) W=>ab5 x z W hzp aR aR);have acO:Hid (∀x:Int,(dC.dec x).length<=MX->(dC.dec (-(-x / z))).length<=MX+1):=λx q=>aP (Ry (aa5 (x:=x) hzp));clear hz0 hzp hzl hbw;generalize dC.dec z=dz at *;go_wp2_with fail;refine(BM a wj aR).mono ?_;rintro e U ⟨hz4,n⟩;obtain⟨vt4,rfl,hot⟩:=hz4.o;obtain⟨at4,Rn,hvt,_,_,_⟩:=eZ hot;subst hvt;have abA:=dn (TS.start (wx:=wj) (NT:=a) (a:=at4) (p:=Rn) (us:=List.replicate a 0) (c:=0) (by rw[List.length_replicate]at hot ⊢;exact hot) List.length_replicate n);rw[List.length_replicate];have ag2:Hid (∀N∈List.replicate a (0:Int),(dC.dec N).length<=MX+1):=λN Y=>by rw[(List.mem_replicate.1 Y).2,dC.gV];simp
          have b0:=abA.o.c0;have b1:=(Vh.o.below abA.o.ek).c0;clear hz4 n hot f0 f1 g0;go_wp2_with fail;clear b0 b1
          go_loopw [26] (fun C wy=>∃(k:Nat) (l:List Int),C=dw k/\k<=a/\TS wj wy U.heap.size a at4 Rn l 0/\∀N∈l,(dC.dec N).length<=MX+1) (fun C _=>a-(intOf C).toNat)
          ·exact⟨0,_,rfl,aR,abA.o,ag2.o⟩
          case round=>
           obtain⟨k3,l,rfl,hk3,Cn,NG⟩:=hrel;rename World=>wy;have Ym:=dn Cn;have af1:=dn NG;have Oa:=Vh.o.below Cn.ek;have alR:=dn Oa;have b0:=Cn.c0;have b1:=Cn.c1;have bf:=Cn.fr;have d0:=Oa.c0;have d1:=Oa.c1;obtain⟨tc1,tc2,Sm⟩:=Cn.cell;have ake:=dn (oh.o.dW Cn.ek);clear NG
           by_cases ae0:k3<a
           ·obtain⟨x,hx⟩:∃x,R[k3]?=some x:=⟨_,aF (by rw[zh.o];exact ae0)⟩;obtain⟨gz,rfl,r1⟩:=FU.o wy ake.o k3 x hx;have hxl:=K5.o.zs x (List.mem_of_getElem? hx);obtain⟨gt,uo,rfl,r2,r3⟩:=Sm k3 ae0;have HC:=dn (acP.o x hxl);have Eu:=dn (acO.o x hxl);obtain⟨g,hx2⟩:=aK (-(-x / z));rw[hx2]at HC Eu;clear hx hxl hx2 Sm Cn Oa;generalize dC.dec x=dx at *;go_upto_region 41 with fail
            go_region_with (go_at_call 216;refine(HC.o _).dX fun O S=>?_;have hb6:dB wy O:=af.drew.trans S;have k2:=hb6.eT r2;have kf:=fun o=>(hb6.gq (r3 o) (World.block_lt_of_cell? wy (dA gt k3) r2));have k0:=hb6.eT b0;have HT5:=dn ((Ym.o.below hb6).Zg k3 g);clear S hb6)
            all_goals
             go_wp2;go_roundw
             ·exact⟨k3+1,l.set k3 g,bL,aR,HT5.o,Zf af1.o Eu.o⟩
             ·exact aph
           ·have HC:=dn (acP.o p hcl);have Eu:=dn (acO.o p hcl);obtain⟨g,hx2⟩:=aK (-(-p / z));rw[hx2]at HC Eu;clear hx2 Sm Cn Oa;generalize dC.dec p=dc at *;go_wp2_with fail;refine(HC.o _).dX λO S=>?_;have TE:=Ym.o.below S;have e1:=TE.c1;have ef:=TE.fr;obtain⟨w6,zQ⟩:=aK (O.setCell (dA U.heap.size 1) (dD (dC.dec g)));have DW:=TE.Mt g;rw[zQ]at DW;have alJ:=dn DW;have e2:=DW.c0;have e3:=DW.c1;have R6:Hid (dB w w6):=Vh.o.ek.dW DW.ek;have UU:=dn (F6 (.slice al B Az) h (.slice at4 a Rn) l g w6 (Dn.o.below R6.o) (by have:=fA.fq DW.own;exact this) (by rw[uI.o];omega));have aiQ:=dn DW.len
            have rW:Hid (∀s∈h++[(⟨.slice at4 a Rn,l,g⟩:S2)],s.zs.length=E.length/\LB (10030+gM (d.take (i+1))) s.zs s.c):=λs f=>by
             have hmo:=yM d (show i<=i+1 by omega);have m:=U9.o;have G:=agj.o;rcases List.mem_append.1 f with f|f
             ·exact⟨(wR.o s f).1,(wR.o s f).2.mono aR⟩
             ·rw[List.mem_singleton.1 f];exact⟨by rw[uT.o];exact aiQ.o,⟨λN Y=>aP (af1.o N Y),by show(dC.dec g).length<=_;have:=Eu.o;omega⟩⟩
            have U0:Hid ((h++[(⟨.slice at4 a Rn,l,g⟩:S2)]).length<=200000+(i+1)):=by show _<=_;rw[List.length_append,uI.o];simp only[List.length_cons,List.length_nil];omega
            clear TE DW S b0 b1 bf d0 d1;go_wp2_with fail;clear e1 ef zQ;refine UU.o.mono ?_;rintro e Vr ⟨⟨v13,rfl,Gn⟩,Ao⟩;obtain⟨a13,aiC,NC,_,_,_⟩:=yF Gn;obtain⟨N13,Og⟩:∃I,(h++[(⟨.slice at4 a Rn,l,g⟩:S2)]).length=I:=⟨_,rfl⟩;rw[Og]at NC;subst NC;clear Og;have Cu:=R6.o.dW Ao;have PS:=dn Cu;have hcall:=(IH.o (i+1) aR aR Vr _ _ Cu Gn rW.o U0.o);rw[show((i+1:Nat):Int)=(i:Int)+1 by omega]at hcall;have mq:=dn hcall;clear hcall Gn Ao Cu e2 e3;go_wp2_with fail;refine mq.o.mono ?_;rintro e w16 ⟨⟨j2,bb3,rfl,NP⟩,N7⟩;have iP:Hid (GK i ND (dF (dM #[dw (j2:Nat),.bool bb3]))):=⟨j2,bb3,rfl,λq=>⟨aP (NP q),(NP q).2⟩⟩;have abY:=dn (PS.o.dW N7);clear NP N7 mq;go_wp2;go_ret2;exact⟨iP.o,abY.o⟩
   ·have tn:((B:Int) !=(NS:Int))=true:=bJ;go_enter func152,ntmps152;go_wp2;go_ret2;exact⟨.no,HB1.o⟩
 ·clear hel hsg aaE hnd;go_enter func152,ntmps152;go_wp2;go_ret2;exact⟨.no,af⟩
structure Bz (w:World)(sb k a b:Nat)(aL:eu)(nL cL:Nat)(aT:eu)(nT cT:Nat)(ls:List Lit):Prop where
 c0:w.cell? (dA sb 0)=some (.int .u8 k)
 c1:w.cell? (dA sb 1)=some (dw a)
 c2:w.cell? (dA sb 2)=some (dw b)
 c3:w.cell? (dA sb 3)=some (.slice aL nL cL)
 c4:w.cell? (dA sb 4)=some (.slice aT nT cT)
 lits:fK w (.slice aL nL cL) ls
theorem Bz.below {b c:Nat}(h:Bz w n m k i a j N d b c J)(e:dB w W):Bz W n m k i a j N d b c J:=
 have t:∀{p:Addr} {v:Value},w.cell? p=some v->W.cell? p=some v:=λf=>(e.cell (aj f)).trans f
 ⟨t h.c0,t h.c1,t h.c2,t h.c3,t h.c4,h.lits.below e⟩
theorem sQ {ts:List fB}{a:Nat}(h:jk ts a≠0):a<ts.length:=by
 unfold jk at h;split at h
 ·assumption
 ·exact absurd rfl h
theorem ui {a:List fB}{l:Lit}(h:mH a l=true):l.a<a.length/\(l.kind≠84->l.b<a.length):=by
 unfold mH at h;split at h
 ·rename_i b;have c:=of_decide_eq_true h;exact⟨sQ aR,λh=>absurd b h⟩
 ·split at h
  ·simp only[Bool.and_eq_true,decide_eq_true_eq]at h;exact⟨sQ aR,λ_=>sQ aR⟩
  ·simp only[Bool.and_eq_true,Bool.or_eq_true,decide_eq_true_eq]at h;exact⟨sQ aR,λ_=>sQ aR⟩
theorem V6 (g J:Nat)(a:List fB)(held:List Nat)(u:List (List Lit))(o k f j:Nat)(x:eu)(n B:Nat)(aT:eu)(nT cT:Nat)(i:List Lit)(w:World)(hp:iE w g J a held u)(y:Bz w o k f j x n B aT nT cT i)(hn:i.length=n)
 (hts:a.length<=1000) (U:jQ a) (ru:zg a) (has:BK a) (aci:held.length<=1000000) (hsm:∀bA∈u,bA.length<=1000000) (hT:u.flatten.length<=1000000000) (hls:n<=100000)
 (acd:k=65->∃K:List Nd,nQ w (.slice aT nT cT) K/\(∀bB∈K,Ep bB)/\gM K<=1000000000/\K.length<=700000) :
 dH 105 #[dK g 0,dK o 0] w λe d=>iY e/\dB w d:=by
 have L:=dn (λW (h:dB w W)=>hp.below h);have HS:=dn (λW (h:dB w W)=>y.below h);have HN:=dn hn;have xu:=dn (λl W h=>Ty g J a held u l W (L.o W h));have acG:=dn (λR W h=>F9 g J a held u R W (L.o W h));obtain⟨aL',cL',C,Gt,Gs,hel⟩:=id y.lits;injection C with V e2 e3
 subst V e3;clear e2;unfold maxLen at Gs;rw[hn]at Gt
 have HLG:Hid (∀W,dB w W->∀q l,i[q]?=some l->∃p,x=some (dA p 0)/\fI W p (q*4) l):=λW b q l m=>by
  obtain⟨S,hl'⟩:=aG m;obtain⟨ao,cap,C,_,_,Ct⟩:=(y.lits.below b);injection C with V _ _
  subst V;obtain⟨p,hg,hc⟩:=Ct q S;exact⟨p,hg,by have:=hc S;rw[hl']at this;exact this⟩
 obtain⟨vh,hh0,Fw⟩:=hp.held;obtain⟨ah,ch,hvh,aim,ail,_⟩:=id Fw;subst hvh;unfold maxLen at ail;have HH0:=dn (λW (h:dB w W)=>(h.eT hh0))
 have HHI:Hid (∀W,dB w W->∀q,q<held.length->∃p D,ah=some (dA p 0)/\W.dQ p q=some (dw (D:Nat))):=λW b q S=>by
  obtain⟨ao,cap,C,_,_,Ct⟩:=Fw.below b;injection C with V _ _
  subst V;obtain⟨p,hg,hc⟩:=Ct q S;exact⟨p,_,hg,hc S⟩
 obtain⟨NH,xC⟩:=aK held.length;rw[xC]at HH0 HHI aim aci;have ajY:Hid (∀W,dB w W->f<a.length->dH 148 #[dK g 0,dw f,.slice x n B] W λe d=>iY e/\dB W d):=λW b ha=>QK g J a held u f _ i W (L.o W b) (y.lits.below b) ha U;have ajs:Hid (∀W,dB w W->f<j->dH 149 #[dK g 0,dw f,dw j,.slice x n B] W λe d=>iY e/\dB W d):=λW b ha=>WI g f j _ i W (y.lits.below b) ha;have aiR:Hid ((∀l∈i,mH a l=true)->∀W,dB w W->dH 150 #[dK g 0,.slice x n B] W λe d=>iY e/\dB W d):=λm W b=>Sa g J a held u _ i W (L.o W b) (y.lits.below b) hts U has aR (λl h=>⟨λhk=>⟨(ui (m l h)).1,(ui (m l h)).2 aR⟩,λ_=>(ui (m l h)).1⟩);have ajK:Hid ((∀l∈i,mH a l=true)->∀W,dB w W->dH 151 #[dK g 0,.slice x n B] W λe d=>Ld d a.length (2*i.length) e/\dB W d):=λm W b=>Xj g J a held u hts U ru _ i W (L.o W b) (y.lits.below b) aR (λl h hk=>⟨(ui (m l h)).1,(ui (m l h)).2 hk⟩)
 have uM:Hid (k=65->∀W (X:Value) (E:List S2),dB w W->oN W X E->(∀M∈E,M.zs.length=a.length/\(∀D∈M.zs,D.natAbs<=big 1000)/\M.c.natAbs<=big 1000)->E.length<=2*i.length->dH 152 #[dK g 0,X,.slice aT nT cT,dw 0] W λe d=>(∃(bg:Nat) (j:Bool),e=dF (dM #[dw bg,.bool j]))/\dB W d):=λh65 W X E b Y hb m=>by
  obtain⟨K,d1,d2,d3,d4⟩:=acd h65;refine(aa7 g J a held u hts U ru K d2 d3 d4 K.length 0 aR aR W X _ E (L.o W b) Y (d1.below b) (λM h=>⟨(hb M h).1,⟨λD hz=>Nat.le_trans (uy ((hb M h).2.1 D hz)) (by simp[gM]),Nat.le_trans (uy (hb M h).2.2) (by simp[gM])⟩⟩) aR).mono ?_;rintro e d ⟨⟨bg,j,he,_⟩,hb'⟩;exact⟨⟨bg,j,he⟩,hb'⟩
 have ajR:Hid (∀W,dB w W->dH 153 #[dK g 0,.slice x n B] W λe d=>iY e/\dB W d):=λW b=>by
  obtain⟨vc,h1,h2⟩:=(L.o W b).cls;exact QJ u i g _ vc W (y.lits.below b) h2 h1 hsm aR hT
 clear hp y U ru has hsm hT acd hel hh0 Fw xC hn;go_enter func105,ntmps105;go_wp2_with fail
 go_loopw [5] (fun N wr=>∃q:Nat,N=dw q/\q<=n/\dB w wr/\∀l∈i.take q,mH a l=true) (fun N _=>n-(intOf N).toNat)
 ·exact⟨0,rfl,aR,af,aW⟩
 case round=>
  obtain⟨q,rfl,S,z,hall⟩:=hrel;have c:=dn z;have rF:=dn hall;obtain⟨O,r,A,s,P,_⟩:=HS.o wr z;have h0:=HH0.o wr z;clear z hall
  by_cases hlt:q<n
  ·obtain⟨l,m⟩:∃l,i[q]?=some l:=⟨_,aF amS⟩;obtain⟨p,rfl,r1,r2,r3,r4⟩:=HLG.o wr c.o q l m;have F:=dn (xu.o l wr c.o)
   have jF:Hid (mH a l=true->∀R∈i.take (q+1),mH a R=true):=λh R T=>by
    rw[List.take_add_one,m]at T;rcases List.mem_append.1 T with T|T
    ·exact rF.o R T
    ·have:R=l:=by simpa using T
     rw[this];exact h
   obtain⟨lb,hlb⟩:=aK (mH a l);rw[hlb]at F jF;clear m hlb;go_wp2_with fail;refine F.o.dX λQ t=>?_;have G:=dn (c.o.dW t);clear t O r A s P h0 r1 r2 r3 r4;cases lb
   ·go_wp2;go_ret;exact⟨⟨_,rfl⟩,G.o⟩
   ·go_wp2;go_roundw
    ·exact⟨q+1,bL,aR,G.o,by first|exact jF.o rfl|exact jF.o trivial|exact jF.o⟩
    ·exact aph
  ·have HL:Hid (∀l∈i,mH a l=true):=λl m=>rF.o l (by rw[List.take_of_length_le ame];exact m);have FQ:=dn (acG.o f wr c.o);have Ph:=dn (acG.o j wr c.o);have agG:=dn (sQ (ts:=a) (a:=f));obtain⟨H,hsa⟩:=aK (jk a f);obtain⟨Z,hso⟩:=aK (jk a j);rw[hsa]at FQ agG;rw[hso]at Ph;clear hsa hso;go_wp2_with fail;refine FQ.o.dX λQ hw2=>?_;have yP:=hw2.symm;subst yP;clear hw2;go_wp2_with fail;refine Ph.o.dX λQ hw2=>?_;have yP:=hw2.symm;subst yP;clear hw2
   by_cases k70:k=70
   ·have t70:((k:Int)==70)=true:=bM;clear k70;go_wp2_with fail
    go_loopw [9] (fun N wx=>∃q:Nat,N=dw q/\q<=NH/\dB w wx) (fun N _=>NH-(intOf N).toNat)
    ·exact⟨0,rfl,aR,c.o⟩
    case round=>
     obtain⟨bq,rfl,hp,z⟩:=hrel;rename World=>wj;have oh:=dn z;clear O r A s P h0;obtain⟨O,r,A,s,P,_⟩:=HS.o wj z;have h0:=HH0.o wj z;clear z
     by_cases hpl:bq<NH
     ·obtain⟨p,D,rfl,r1⟩:=HHI.o wj oh.o bq hpl
      by_cases hz:D=f
      ·subst hz;go_wp2_with (go_quiet (fail));go_ret;exact⟨⟨_,rfl⟩,below_drewN oh.o _⟩
      ·have tz:((D:Int)==(f:Int))=false:=ak aR;clear hz;go_wp2_with (go_quiet (fail));go_roundw
       ·exact⟨bq+1,bL,aR,below_drewN oh.o _⟩
       ·exact aph
     ·go_wp2;go_ret;exact⟨⟨_,rfl⟩,oh.o⟩
   have t70:((k:Int)==70)=false:=ak aR;clear k70
   by_cases k68:k=68
   ·have t68:((k:Int)==68)=true:=bM;clear k68
    by_cases aam:H=0
    ·have ta:((H:Int) !=0)=false:=amt;clear aam;exact apT
    ·have ta:((H:Int) !=0)=true:=bJ;have HD:=dn (λW b=>ajY.o W b (agG.o aam));clear aam;go_wp2_with fail;go_region_held3 (fun d=>d.dQ o 1=some (dw (f:Int))/\d.dQ o 3=some (.slice x n B)) (go_keep) (first|(go_at_call 148;refine(HD.o _ (by first|exact c.o|exact c.o.drew)).mono ?_;rintro e w4 ⟨⟨rb,rfl⟩,v⟩;have s0:=(Below.cell v (p:=dA o 1) (aj r)).trans r;have s1:=(Below.cell v (p:=dA o 3) (aj s)).trans s));exact aqz
   have t68:((k:Int)==68)=false:=ak aR;clear k68
   by_cases k81:k=81
   ·have t81:((k:Int)==81)=true:=bM;clear k81
    by_cases hs1:H=2
    ·have ta:((H:Int)==2)=true:=bM;clear hs1
     by_cases hs2:Z=2
     ·have tb:((Z:Int)==2)=true:=bM;clear hs2
      by_cases hab:f<j
      ·have tc:decide ((f:Int)<(j:Int))=true:=decide_eq_true aR;have tc2:decide (f<j)=true:=decide_eq_true hab;have HD:=dn (λW b=>ajs.o W b hab);go_wp2_with fail;go_region_held3 (fun d=>d.dQ o 1=some (dw (f:Int))/\d.dQ o 2=some (dw (j:Int))/\d.dQ o 3=some (.slice x n B)) (go_keep) (first|(go_at_call 149;refine(HD.o _ (by first|exact c.o|exact c.o.drew)).mono ?_;rintro e w4 ⟨⟨rb,rfl⟩,v⟩;have s0:=(Below.cell v (p:=dA o 1) (aj r)).trans r;have s2:=(Below.cell v (p:=dA o 2) (aj A)).trans A;have s1:=(Below.cell v (p:=dA o 3) (aj s)).trans s));exact aqz
      ·have tc:decide ((f:Int)<(j:Int))=false:=decide_eq_false aR;exact apT
     ·have tb:((Z:Int)==2)=false:=ak aR;clear hs2;exact apT
    ·have ta:((H:Int)==2)=false:=ak aR;clear hs1;exact apT
   have t81:((k:Int)==81)=false:=ak aR;clear k81
   by_cases k85:k=85
   ·have t85:((k:Int)==85)=true:=bM;have F:=dn (aiR.o HL.o wr c.o);clear k85;exact aqi
   have t85:((k:Int)==85)=false:=ak aR;clear k85
   by_cases k65:k=65
   ·have t65:((k:Int)==65)=true:=bM;have F:=dn (ajK.o HL.o wr c.o);have HA:=dn (uM.o k65);clear k65;go_wp2_with fail;refine F.o.mono ?_;rintro e Q ⟨⟨X,E,rfl,Y,hsl,hsb⟩,t⟩;have I:=c.o.dW t;have G:=dn I;obtain⟨av,cv,C,_,_,_⟩:=yF Y;obtain⟨NV,Xh⟩:=aK E.length;rw[Xh]at C;subst C;have jl:=dn (HA.o Q _ E I Y hsb hsl);clear O r A s P h0;obtain⟨O,r,A,s,P,_⟩:=HS.o Q I;clear Y hsl hsb t I Xh;go_wp2_with fail;refine jl.o.mono ?_;rintro e w3 ⟨⟨bg,rb,rfl⟩,hb3⟩;have I:=G.o.dW hb3;have HB3:=dn I;clear O r A s P;obtain⟨O,r,A,s,P,_⟩:=HS.o w3 I;clear hb3 I;cases rb
    ·go_wp2;go_ret;exact⟨⟨_,rfl⟩,HB3.o⟩
    ·go_wp2;go_ret;exact⟨⟨_,rfl⟩,HB3.o⟩
   have t65:((k:Int)==65)=false:=ak aR;have F:=dn (ajR.o wr c.o);clear k65;exact aqi
theorem X7:(prog.info? 161).map (λi=>(i.zero,i.size,i.bytes))=some (some (dE),1,24):=bR
def PZ (w:World)(v:Value):Prop:=∀g,v.ownBlock=some g->∃a n c,w.cell? (dA g 0)=some (.slice a n c)
theorem fK.aca (i:fK w v J)(j:∀g,(∃k:Bool,w.cell? (dA g 0)=some (.bool k))->W.heap[g]?=w.heap[g]?):fK W v J:=by
 obtain⟨l,m,n,p,q,c⟩:=i;refine⟨l,m,n,p,q,λr hi=>?_⟩;obtain⟨g,d,s⟩:=c r hi;refine⟨g,d,λu=>?_⟩;have b:=s u;obtain⟨a,f,x⟩:=c 0 aR;have y:a=g:=by rw[d]at f;injection f with e;injection e with e;exact e.symm
 subst y;have h:=(x aR).neg;simp only[Nat.zero_mul]at h;have z:=j a ⟨_,h⟩;have t:∀o,W.cell? (dA a o)=w.cell? (dA a o):=λo=>World.cell?_of_block (a:=dA a o) z;exact ard
structure xJ (w1 wr:World)(pb:Nat)(bp hv vc:Value)(cs:List (List Lit)):Prop where
 c0:wr.cell? (dA pb 0)=some bp
 c1:wr.cell? (dA pb 1)=some hv
 c2:wr.cell? (dA pb 2)=some vc
 fr:∀o,wr.frozen? (dA pb o)=false
 ek:Below pb w1 wr
 row:∃vals:List Value,wr.ownsRow (pb+1) 161 1 vc cs.length vals/\iw (fK wr) vals cs
 nil:cs=[]->vc=dE
theorem xJ.lt {wr:World}{a:List (List Lit)}(h:xJ w wr n v V y a):n<wr.heap.size:=World.block_lt_of_cell? wr (dA n 0) h.c0
theorem xJ.below {wr:World}{c:List (List Lit)}(h:xJ w wr n v V y c)(a:dB wr W):xJ w W n v V y c:=by
 have b:=h.lt;obtain⟨vals,d,e⟩:=h.row;exact⟨(a.dL h.c0 b),(a.dL h.c1 b),(a.dL h.c2 b),λo=>(a.gq (h.fr o) b),h.ek.trans (a.mono aR),⟨vals,ownsRow_below d a,e.imp (λ_ _ f=>f.below a)⟩,h.nil⟩
theorem XU {a b:Type}{C:a->b->Prop}{c:List a}{d:List b}{e:a}{f:b}(h:iw C c d)(g:C e f):iw C (c++[e]) (d++[f]):=h.app (.cons g .nil)
theorem PZ.of {a:List (List Lit)}{vals:List Value}(h:w.ownsRow n 161 1 v a.length vals)(c:iw (fK w) vals a)(d:a=[]->v=dE):PZ w v:=by
 intro g b;cases c with
 | nil=>rw[d rfl]at b;simp[Value.ownBlock]at b
 | @cons x e r a f _=>
  obtain⟨s,t,i,_,_,j⟩:=eZ h;obtain⟨k,l,m,_⟩:=j 0 aW;rw[i,l]at b;have:k=g:=by simpa[Value.ownBlock] using b
  subst this;obtain⟨o,p,q,_⟩:=f;exact⟨o,e.length,p,by rw[m];simp[q]⟩
theorem xJ.app {wr:World}{j:Addr}{h:Value}{b:List (List Lit)}{vals:List Value}(X:Obj)(k:xJ w wr n (.pointer (some j)) v V b)(r:wr.ownsRow (n+1) 161 1 V b.length vals)(s:iw (fK wr) vals b)(t:fK wr h J)(a:mo (wr.alloc X) W n 2 (n+1) 161 1 V y (b.length+1) (vals++[h])):xJ w W n (.pointer (some j)) v y (b++[J]):=by
 have f:dB wr (wr.alloc X):=af.alloc ae X;have c:=k.below f;have u:=ownsRow_below r f;have l:iw (fK (wr.alloc X)) vals b:=s.imp (λm x i=>i.below f);have z:=PZ.of u l k.nil
 have p:∀g,(∃q:Bool,(wr.alloc X).cell? (dA g 0)=some (.bool q))->W.heap[g]?=(wr.alloc X).heap[g]?:=λg ⟨q,d⟩=>by
  refine a.block g (aj d) ?_ ?_
  ·intro e;subst e;rw[c.c0]at d;cases d
  ·intro e;obtain⟨B,C,m,A⟩:=z g e.symm;rw[A]at d;cases d
 refine⟨(a.cells 0 aR).trans c.c0,(a.cells 1 aR).trans c.c1,a.cell,λo=>(a.frozen o).trans (c.fr o),c.ek.trans a.below,⟨vals++[h],?_,?_⟩,λe=>by simp at e⟩
 ·rw[List.length_append];exact a.own
 ·exact XU (l.imp (λm x i=>i.aca p)) ((t.below f).aca p)
theorem xJ.proof {wr:World}{a:List (List Lit)}{b:List fB}{held:List Nat}(h:xJ w wr n (dK m 0) v V a)(d:oU wr m b)(e:eX wr v held):iE wr n m b held a:=by
 obtain⟨vals,f,c⟩:=h.row;have g:=c.len;refine⟨h.c0,d,⟨v,h.c1,e⟩,V,h.c2,?_⟩;obtain⟨j,k,l,o,u,p⟩:=eZ f;refine⟨j,k,l,o,bz,λi hi=>?_⟩;obtain⟨q,r,s,_⟩:=p i hi;refine⟨q,r,λt=>⟨vals[i]' aR,by rw[s];simp[g,hi],c.get i aR t⟩⟩
theorem Zc {a:List Sp}{s:Sp}(h:s∈a):s.m+1<=qg a:=xM (List.mem_map_of_mem (f:=λs:Sp=>s.m+1) h)
theorem VU {a:List Sp}{s:Sp}(h:a[n]?=some s):qg (a.take (n+1))=qg (a.take n)+(s.m+1):=by
 unfold qg;rw[List.take_add_one,h];exact aW
theorem ac4 (a:List Sp)(i:Nat):qg (a.take i)<=qg a:=by
 have h:a=a.take i++a.drop i:=(List.take_append_drop i a).symm
 have e:qg a=qg (a.take i)+qg (a.drop i):=by
  conv=>lhs;rw[h]
  unfold qg;rw[List.map_append,List.sum_append]
 exact aR
theorem Zd (a:List Sp):a.length<=qg a:=by
 unfold qg
 induction a with
 | nil=>simp
 | cons s a b=>simp only[List.length_cons,List.map_cons,List.sum_cons];omega
theorem QW (j k z:Nat)(A:eu)(B:List fB)(held:List Nat)(bq:dN)(C:World)(hb:oU C j B)(hh:eX C (.slice A k z) held)(hn:held.length=k)(aci:k<=1000000)(hts:B.length<=1000)(hwf:jQ B)(ru:zg B)(has:BK B)(S:bq.length<=90000) :
 dH 44 #[dK j 0,.slice A k z,dD bq] C λe w'=>iY e/\dB C w':=by
 obtain⟨i0,hi0,hz0,hz1,hz2⟩:=info_parts X7;have ajZ:=dn (Vk bq C S);have EC:=dn (λW (h:dB C W)=>hb.below h);have HHD:=dn (λW (h:dB C W)=>hh.below h)
 have Ab:Hid (∀(W:World) (pb:Nat) (b:List (List Lit)) (sb:Nat) (s:Sp),iE W pb j B held b->Bz W sb s.k s.a s.b s.aL s.nL s.cL s.aT s.nT s.cT s.ls->xk W s->s.m+1<=90001->(∀d∈b,d.length<=1000000)->b.flatten.length<=1000000000->dH 105 #[dK pb 0,dK sb 0] W λe w'=>iY e/\dB W w'):=λW pb b sb s h1 r T h4 h5 h6=>
  V6 pb j B held b sb s.k s.a s.b s.aL s.nL s.cL s.aT s.nT s.cT s.ls W h1 r T.len hts hwf ru has aR h5 h6 (aQ T.few T.len) (λD=>by obtain⟨ds,e1,e2,e3,e4⟩:=T.tree D;exact⟨ds,e1,e2,aR,aR⟩)
 clear hb hh hn hwf ru has;go_enter func44,ntmps44;go_wp2_with fail;refine ajZ.o.mono ?_;rintro e a ⟨⟨bA,m,d,bB,rfl,hd⟩,hb1⟩;have HD:=dn hd;have HB1:=dn hb1;clear hd hb1;cases bB
 ·go_wp2;go_ret;exact⟨⟨_,rfl⟩,HB1.o⟩
 ·obtain⟨L,hm,hrow,hok,hsl⟩:=HD.o rfl;have FP:=dn hsl;have HM:=dn hm;have oP:=dn hok;obtain⟨ao,cap,hv,r1,r2,r3,r4⟩:=hrow;injection hv with e1 e2 e3
  subst e1 e3;unfold maxLen at r2;have hm9:m<=90001:=aP (Zd L)
  have af3:Hid (∀W,dB a W->∀i s,L[i]?=some s->∃g,bA=some (dA g 0)/\W.cell? (dA g (i*5))=some (.int .u8 s.k)/\W.cell? (dA g (i*5+1))=some (dw s.a)/\W.cell? (dA g (i*5+2))=some (dw s.b)/\W.cell? (dA g (i*5+3))=some (.slice s.aL s.nL s.cL)/\W.cell? (dA g (i*5+4))=some (.slice s.aT s.nT s.cT)):=λW hW i s l=>by
   obtain⟨hi,hs'⟩:=aG l;obtain⟨g,hg,M⟩:=r4 i di;simp only[List.getElem_map,hs']at M
   have t:∀N (hj:N<5) bg,s.cells[N]?=some bg->W.cell? (dA g (i*5+N))=some bg:=λN hj bg hu=>by
    have:=M N hj bg hu;rw[hW.cell (p:=dA g (i*5+N)) (aj this)];exact this
   exact⟨g,hg,t 0 aR _ rfl,t 1 aR _ rfl,t 2 aR _ rfl,t 3 aR _ rfl,t 4 aR _ rfl⟩
  have hcm:m<=d:=by rw[List.length_map]at r1;omega
  have FY:Hid (xJ a (a.alloc (.cells #[dK j 0,.slice A k z,dE] 160)) a.heap.size (dK j 0) (.slice A k z) (dE) []):=
   ⟨aW,aW,aW,λo=>aW,ai,⟨[],World.ownsRow_nil _ _ _ _,.nil⟩,λ_=>rfl⟩
  clear hm hok hsl r1 r3 r4 e2 HD;go_wp2_with fail
  go_loopw [10] (fun q wr=>∃(t:Nat) (u:eu) (f:Nat) (b:List (List Lit)),q=dw t/\t<=m/\xJ a wr a.heap.size (dK j 0) (.slice A k z) (.slice u t f) b/\b.length=t/\b.flatten.length<=qg (L.take t)/\(∀d∈b,d.length<=90001)/\t<=f/\f<=2 ^ 63-1) (fun q _=>m-(intOf q).toNat)
  ·exact⟨0,none,0,[],rfl,aR,FY.o,rfl,by simp[qg],aW,aR,aR⟩
  case round=>
   obtain⟨t,u,f,b,rfl,ht,hst,hcl,hfl,hcc,aik,alj⟩:=hrel;have HST:=dn hst;have v:=dn hcl;have xE:=dn hfl;have xH:=dn hcc;have jG:=dn (HB1.o.dW hst.ek);have ab2:=dn hst.ek;clear hst hcl hfl hcc
   by_cases htl:t<m
   ·obtain⟨s,l⟩:∃s,L[t]?=some s:=⟨_,aF (by rw[HM.o];exact htl)⟩;have hsm:=List.mem_of_getElem? l;have hsl2:=Zc hsm;have Dn:=dn (VU l);obtain⟨g,rfl,c0,c1,c2,c3,c4⟩:=af3.o wr ab2.o t s l;have uH:=dn ((oP.o s hsm).below ab2.o);have hm1:s.m+1<=90001:=aP FP.o;obtain⟨w,x⟩:∃w,wr.alloc (.cells #[.int .u8 s.k,dw s.a,dw s.b,.slice s.aL s.nL s.cL,.slice s.aT s.nT s.cT] 164)=w:=⟨_,rfl⟩;have O:dB wr w:=by rw[<-x];exact af.alloc ae _
    have HB2:=dn O;have JX:=dn (jG.o.dW O);have lq:=dn (HST.o.below O);have FQ:Hid (Bz w wr.heap.size s.k s.a s.b s.aL s.nL s.cL s.aT s.nT s.cT s.ls):=⟨am8,am8,am8,am8,am8,uH.o.lits.below O⟩;have HC:=dn (Ab.o w a.heap.size b wr.heap.size s (lq.o.proof (EC.o w JX.o) (HHD.o w JX.o)) FQ.o (uH.o.below O) hm1 (λd h=>aP (xH.o d h)) (by have h1:=xE.o;have r:=ac4 L t;have T:=FP.o;omega));have FO:Hid (wr.heap.size<w.heap.size):=by show _<_;rw[<-x];simp
    clear l hsm hsl2 O;go_wp2_with fail;refine HC.o.mono ?_;rintro e y ⟨⟨rb,rfl⟩,hb3⟩;have P:=dn (lq.o.below hb3);have Q:=FQ.o.below hb3;have alK:=dn Q;have EA:=dn (JX.o.dW hb3);have d0:=Q.c0;have d1:=Q.c1;have d3:=Q.c3;have pK:=dn Q.lits;have HNL:=dn uH.o.len;have agr:=dn uH.o.few;clear hb3 Q c0 c1 c2 c3 c4 x;cases rb
    ·go_wp2;go_ret;exact⟨⟨_,rfl⟩,EA.o⟩
    ·by_cases D:s.k=70
     ·have tk:((s.k:Int)==70)=true:=bM;obtain⟨R,U⟩:∃R,y.alloc (.cells #[dP,.int .u8 84,dw (s.a:Int),dw 0] 168)=R:=⟨_,rfl⟩;have hb4:dB y R:=by rw[<-U];exact af.alloc ae _
      have V:=dn (P.o.below hb4)
      have YC:Hid (fK R (dJ y.heap.size 1 1) [⟨false,84,s.a,0⟩]):=by
       refine⟨some (dA y.heap.size 0),1,rfl,ae,bz,λi hi=>⟨y.heap.size,rfl,λhl=>?_⟩⟩;have h0:i=0:=by simp at hl;omega
       subst h0;exact⟨by rw[<-U];simp,by rw[<-U];simp,by rw[<-U];simp,by rw[<-U];simp⟩
      clear D hb4;obtain⟨vals,E,X⟩:=V.o.row;rw[v.o]at E;have n:=dn E;have UX:=dn X;have k2:=V.o.c2;have kf:=V.o.fr;have Y:=dn k2;have rX:=dn kf;have c:Hid (a.heap.size<R.heap.size):=V.o.lt;have Z:Hid (∀q,(Value.slice u t f).ownBlock=some q->a.heap.size+1<=q):=λq hq=>(n.o.lt q hq).1;clear E X;go_wp2_with (at_builtin;refine dU rfl (.tmp 53) (.tmp 55) 158 rfl (a.heap.size+1) 161 i0 (dE) 1 24 underlying158 hi0 hz0 hz1 hz2 rfl aY (.slice u t f) t vals rfl (by exact n.o.alloc _) (dA R.heap.size 0) 1 [dJ y.heap.size 1 1] rfl rfl bP bX bz aR amm ?_;intro F G H I p hg1 hg2;have y1:H.cell? (dA a.heap.size 2)=some (.slice u t f):=((eY p (a:=dA a.heap.size 2) amm (λe=>amq)).trans (dV _ _ _ c.o)).trans Y.o;have y2:H.frozen? (dA a.heap.size 2)=false:=((fo p (a:=dA a.heap.size 2) amm (λe=>amq)).trans (eF _ _ _ c.o)).trans (rX.o 2);obtain⟨J,zQ⟩:=aK (H.setCell (dA a.heap.size 2) (dJ F (t+1) G));have K:=gK (eb:=a.heap.size) (f:=2) aR (n.o.alloc _) amm ((dV _ _ _ c.o).trans Y.o) I p hg2;rw[zQ]at K;have Pj:Hid (xJ a J a.heap.size (dK j 0) (.slice A k z) (dJ F (t+1) G) (b++[[⟨false,84,s.a,0⟩]])):=xJ.app _ V.o (by rw[v.o];exact n.o) UX.o YC.o (by rw[v.o];exact K);have hcp:=oG I;clear K I p hg1 hg2);go_roundw
      ·exact⟨t+1,some (dA F 0),G,b++[[⟨false,84,s.a,0⟩]],bL,aR,Pj.o,by rw[List.length_append,v.o];rfl,by rw[Dn.o,List.flatten_append,List.length_append];have h1:=xE.o;have r:([[⟨false,84,s.a,0⟩]]:List (List Lit)).flatten.length<=s.m+1:=aW;omega,λd M=>by(rcases List.mem_append.1 M with h|h;exact xH.o d h;rw[List.mem_singleton.1 h];have r:([[⟨false,84,s.a,0⟩]]:List (List Lit)).flatten.length<=s.m+1:=aW;simp only[List.flatten_cons,List.flatten_nil,List.append_nil]at r;omega),hcp.1,hcp.2⟩
      ·exact aph
     ·have tk:((s.k:Int)==70)=false:=ak aR;clear D;obtain⟨vals,E,X⟩:=P.o.row;rw[v.o]at E;have n:=dn E;have UX:=dn X;have k2:=P.o.c2;have kf:=P.o.fr;have Y:=dn k2;have rX:=dn kf;have c:Hid (a.heap.size<y.heap.size):=P.o.lt;have Z:Hid (∀q,(Value.slice u t f).ownBlock=some q->a.heap.size+1<=q):=λq hq=>(n.o.lt q hq).1;clear E X;go_wp2_with (at_builtin;refine dU rfl (.tmp 53) (.tmp 55) 158 rfl (a.heap.size+1) 161 i0 (dE) 1 24 underlying158 hi0 hz0 hz1 hz2 rfl aY (.slice u t f) t vals rfl (by exact n.o.alloc _) (dA y.heap.size 0) 1 [.slice s.aL s.nL s.cL] rfl rfl bP bX bz aR amm ?_;intro F G H I p hg1 hg2;have y1:H.cell? (dA a.heap.size 2)=some (.slice u t f):=((eY p (a:=dA a.heap.size 2) amm (λe=>amq)).trans (dV _ _ _ c.o)).trans Y.o;have y2:H.frozen? (dA a.heap.size 2)=false:=((fo p (a:=dA a.heap.size 2) amm (λe=>amq)).trans (eF _ _ _ c.o)).trans (rX.o 2);obtain⟨J,zQ⟩:=aK (H.setCell (dA a.heap.size 2) (dJ F (t+1) G));have K:=gK (eb:=a.heap.size) (f:=2) aR (n.o.alloc _) amm ((dV _ _ _ c.o).trans Y.o) I p hg2;rw[zQ]at K;have Pj:Hid (xJ a J a.heap.size (dK j 0) (.slice A k z) (dJ F (t+1) G) (b++[s.ls])):=xJ.app _ P.o (by rw[v.o];exact n.o) UX.o pK.o (by rw[v.o];exact K);have hcp:=oG I;clear K I p hg1 hg2);go_roundw
      ·exact⟨t+1,some (dA F 0),G,b++[s.ls],bL,aR,Pj.o,by rw[List.length_append,v.o];rfl,by rw[Dn.o,List.flatten_append,List.length_append];have h1:=xE.o;have r:([s.ls]:List (List Lit)).flatten.length<=s.m+1:=anB;omega,λd M=>by(rcases List.mem_append.1 M with h|h;exact xH.o d h;rw[List.mem_singleton.1 h];have r:([s.ls]:List (List Lit)).flatten.length<=s.m+1:=anB;simp only[List.flatten_cons,List.flatten_nil,List.append_nil]at r;omega),hcp.1,hcp.2⟩
      ·exact aph
   ·by_cases hm0:m=0
    ·have tm:¬((0:Int)<(m:Int)):=aR;have tm2:¬(0<m):=aR;go_wp2;go_ret;exact⟨⟨_,rfl⟩,jG.o⟩
    ·obtain⟨bn,hM⟩:∃bn,m=bn+1:=⟨m-1,aR⟩;subst hM;obtain⟨s,l⟩:∃s,L[bn]?=some s:=⟨_,aF (by rw[HM.o];omega)⟩;obtain⟨g,rfl,c0,c1,c2,c3,c4⟩:=af3.o wr ab2.o bn s l;clear l hm0
     by_cases D:s.k=82
     ·have tk:((s.k:Int)==82)=true:=bM;clear D;go_wp2;go_ret;exact⟨⟨_,rfl⟩,jG.o⟩
     ·have tk:((s.k:Int)==82)=false:=ak aR;clear D;go_wp2;go_ret;exact⟨⟨_,rfl⟩,jG.o⟩
