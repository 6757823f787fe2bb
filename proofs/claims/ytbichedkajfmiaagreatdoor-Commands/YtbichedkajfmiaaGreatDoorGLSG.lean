import Derived.Test.YtbichedkajfmiaaGreatDoorGLON
import Derived.Test.YtbichedkajfmiaaGreatDoorGLW13
import Derived.Test.YtbichedkajfmiaaGreatDoorC
set_option maxRecDepth 100000
set_option maxHeartbeats 16000000
namespace Go.Proofs.YtbichedkajfmiaaGreatDoor
open Go.RowKit
variable {n:Nat}{w:World}
theorem stepG (g:Nat)(own:Own)(M:jv)(d i j C:Int)(u D:List UInt8)(p:Nat)(w:World)(k:eT w own g M)(O:dH own w)(s:gD p M)(Y:p+1<=100000)(E:pX ⟨d,i,j,C,u,D⟩) :
 Calls Tryz.prog 21 #[.pointer (some ⟨g,0,none⟩),.agg #[.int .i64 d,.int .i64 i,.int .i64 j,.int .i64 C,.string ⟨u.toArray⟩,.string ⟨D.toArray⟩],.bool false] w fun e n=>qV d e/\ic w n own g (p+1):=by
 obtain⟨⟨uD,uC⟩,⟨mR,qd⟩,⟨xg,xe⟩,hos,hot⟩:=id E;simp only at uD uC mR qd xg xe hos hot;obtain⟨a,hW1⟩:∃a,w.alloc (.cells #[.int .i64 d,.int .i64 i,.int .i64 j,.int .i64 C,.string ⟨u.toArray⟩,.string ⟨D.toArray⟩] 33)=a:=⟨_,rfl⟩;have v:Below w.heap.size w a:=aiA;have hsz1:w.heap.size<a.heap.size:=ahZ;have o:=k.up v;have P:=O.up v;have pM:=o.lt;have xQ:=k.lt;have HB1:=di v
 have Z:Hid (∀W,Below a.heap.size a W->W.cell? ⟨w.heap.size,0,none⟩=some (.int .i64 d)/\W.cell? ⟨w.heap.size,1,none⟩=some (.int .i64 i)/\W.cell? ⟨w.heap.size,2,none⟩=some (.int .i64 j)/\W.cell? ⟨w.heap.size,3,none⟩=some (.int .i64 C)/\W.cell? ⟨w.heap.size,4,none⟩=some (.string ⟨u.toArray⟩)/\W.cell? ⟨w.heap.size,5,none⟩=some (.string ⟨D.toArray⟩)):=fun W c=>by
  have x:∀bg,W.cell? ⟨w.heap.size,bg,none⟩=a.cell? ⟨w.heap.size,bg,none⟩:=fun bg=>c.cell (p:=⟨w.heap.size,bg,none⟩) hsz1;rw[x,x,x,x,x,x,<-hW1];exact aP
 obtain⟨f0,f1,f2,f3,f4,f5⟩:=Z.o a af
 by_cases hk1:d=1
 ·subst hk1;exact(step1 g own M i j C u D p w k O s Y E).mono fun e n x=>⟨by rw[x.1];exact qV.tt _,x.2⟩
 by_cases Q:7<=d/\d<=14
 ·have HO:=di (R5 g own M d i j C u D p a o P s Y E Q);have HQ:Hid (∀W,ic a W own g (p+1)->ic w W own g (p+1)):=fun W l=>l.from HB1.o;clear k O s E o P v Q hk1;go_enter Tryz.func21,Tryz.ntmps21;go_wp2_with fail;refine HO.o.mono ?_;rintro e F ⟨rfl,l⟩;have y:=di (HQ.o _ l);exact alT
 have HO:=di (R6 g own M d i j C u D p a o P s Y E aO);have I:Hid (∀W,Below a.heap.size a W->ic w W own g (p+1)):=fun W c=>⟨M,s.mono aO Y,gJ.below k O (v.trans (c.mono v.size))⟩;have HKD:Hid (d<7\/14<d):=by show _\/_;omega
 have t1:(d==1)=false:=aj hk1;clear Q hk1
 by_cases hs0:M.dM.length=0
 ·obtain⟨v0,G,b0⟩:=o.s;obtain⟨bB,cp,rfl,p1,p2⟩:=b0.form;rw[hs0]at G;have A:Hid (∀W,Below a.heap.size a W->W.cell? ⟨g,0,none⟩=some (.slice bB 0 cp)):=fun W c=>(c.cell (p:=⟨g,0,none⟩) pM).trans G;clear k O s E o P v b0 G hs0;go_enter Tryz.func21,Tryz.ntmps21;go_wp2_with fail;refine HO.o.mono ?_;rintro e F ⟨rfl,q⟩;have e0:=A.o F q;obtain⟨r0,r1,r2,r3,r4,r5⟩:=Z.o F q;have y:=di (I.o F q);clear q;go_wp2_with fail;go_ret;exact⟨qV.tt _,y.o⟩
 have Bl:0<M.dM.length:=aO;clear hs0;obtain⟨v0,G,b0⟩:=o.s;have hls:M.dM.length<=100000:=by have:=s.dM;have:=s.lim;omega
 have hpk:=l6 i Bl;obtain⟨⟨bA,R,S⟩,hs⟩:∃bC,M.dM[pk i M.dM.length]?=some bC:=⟨_,aD hpk⟩;have HC:=di (fun W=>jo i M.dM.length W uD uC Bl aO);obtain⟨B,cp,hv,k1,k2,og,T,d1⟩:=Js o G hs;subst hv;obtain⟨t,Q⟩:=aJ (pk i M.dM.length);rw[Q]at HC hpk T d1 hs;simp only at T d1;have m:Hid (Ctx w a own g p M t bA R S):=⟨o,P,v,s,Y,hs⟩;have HOG:=di og;have hg1:B<a.heap.size:=ai T;obtain⟨bq,hN⟩:=aJ M.dM.length;rw[hN]at HC hpk G hls Bl k1;have hkk:(t:Int)<(bq:Int):=aO;have A:Hid (∀W,Below a.heap.size a W->W.cell? ⟨g,0,none⟩=some (.slice (some ⟨B,0,none⟩) bq cp)/\W.cell? ⟨B,t*2,none⟩=some (.pointer (some ⟨bA,0,none⟩))/\W.cell? ⟨B,t*2+1,none⟩=some (.pointer (some ⟨R,0,none⟩))):=fun W c=>⟨(c.cell (p:=⟨g,0,none⟩) pM).trans G,(c.cell (p:=⟨B,t*2,none⟩) hg1).trans T,(c.cell (p:=⟨B,t*2+1,none⟩) hg1).trans d1⟩;have HCM:Hid (∀(W:World) (bn:List UInt8) (bu:Int),Below a.heap.size a W->bn.length<=1000000->Calls Tryz.prog 40 #[.pointer (some ⟨g,0,none⟩),.pointer (some ⟨B,t*2,none⟩),.string ⟨bn.toArray⟩,.int .i64 bu,.bool false] W fun e n=>e=.returned (.bool true)/\ic w n own g (p+1)):=fun W bn bu c hl=>(m.o.more c).command HOG.o (A.o W c).2.1 (A.o W c).2.2 bn bu hl;have rP:=di (fun W (c:Below a.heap.size a W)=>(m.o.more c).long ⟨d,i,j,C,u,D⟩ E);simp only at rP;have LH:=di (fun(z:Nat) W (o:0<z) (h2:z<=1000000)=>jo j z W mR qd o aO);clear E;clear k O s o P v b0 hs Q hN og T d1 G;go_enter Tryz.func21,Tryz.ntmps21;go_wp2_with fail;refine HO.o.mono ?_;rintro e F ⟨rfl,q⟩;obtain⟨e0,T,d1⟩:=A.o F q;obtain⟨r0,r1,r2,r3,r4,r5⟩:=Z.o F q;have b:=di q;have H9:=di (m.o.more q);have hs2:=q.size;clear q;go_wp2_with fail;go_region_held3 (fun n=>n.cell? ⟨g,0,none⟩=some (.slice (some ⟨B,0,none⟩) bq cp)/\n.cell? ⟨w.heap.size,1,none⟩=some (.int .i64 i)) (go_keep) (first|(go_at_call 37;refine(HC.o _).mono ?_;rintro e w3 ⟨rfl,hw3⟩;subst hw3))
 by_cases h2:d=2
 ·subst h2;go_wp2_with fail;refine(HCM.o _ u j bQ aO).mono ?_;rintro e h ⟨rfl,l⟩;have y:=di l;exact alT
 have t2:(d==2)=false:=aj h2;clear h2
 by_cases Aw:d=15
 ·subst Aw;go_wp2_with fail;refine(rP.o _ bQ).mono ?_;rintro e h ⟨⟨J,rfl,hy⟩,r⟩;have f:Hid (Below a.heap.size a h):=(by first|exact b.o.drew|exact b.o|exact below_drewN b.o _:Below a.heap.size a _).trans (r.mono (by first|exact b.o.drew|exact b.o|exact below_drewN b.o _:Below a.heap.size a _).size);obtain⟨r0,r1,r2,r3,r4,r5⟩:=Z.o h f.o;clear r;go_wp2_with fail;refine(BB J _ aO).mono ?_;rintro e K ⟨⟨bH,U,rfl,hown,hpos,hlen,hcnt⟩,hb5⟩;have rF:Hid (Below a.heap.size a K):=f.o.trans (hb5.mono f.o.size);obtain⟨ao,cap,rfl,m1,m2,hel⟩:=dQ hown;have Ar:=l6 j hpos;have rR:=di (fun W=>LH.o U.length W hpos aO);obtain⟨g5,rfl,CV,_⟩:=hel _ Ar;obtain⟨L,hj⟩:=aJ (pk j U.length);rw[hj]at rR Ar CV;have hyl:=hlen (U[L]) (List.getElem_mem _);have hc6:K.cell? ⟨g5,L,none⟩=some (.string ⟨(U[L]).toArray⟩):=by rw[CV,List.getElem?_map,aD Ar];rfl
  obtain⟨q0,q1,q2,q3,q4,q5⟩:=Z.o K rF.o;obtain⟨tx,htx⟩:=aJ (U[L]);rw[htx]at hc6 hyl;obtain⟨NW,SL⟩:=aJ U.length;rw[SL]at rR Ar m1 hpos hcnt ⊢;have hjj:(L:Int)<(NW:Int):=aO;clear hb5 hown hel hlen hj CV htx SL;go_wp2_with fail;refine(rR.o _).mono ?_;rintro e N ⟨rfl,Aq⟩;subst Aq;go_wp2_with fail;refine(HCM.o _ tx 400 rF.o aO).mono ?_;rintro e w7 ⟨rfl,l⟩;have y:=di l;exact alT
 have t15:(d==15)=false:=aj Aw;clear Aw
 by_cases h16:d=16
 ·subst h16;exact amB
 have t16:(d==16)=false:=aj h16;clear h16
 by_cases h3:d=3
 ·subst h3;obtain⟨aH,cH,aL,cL,H⟩:=m.o.fields;obtain⟨NH,Av⟩:=aJ S.held.length;simp only[Av]at H;have uK:Hid (∀W,Below a.heap.size a W->W.cell? ⟨R,2,none⟩=some (.slice aH NH cH)):=fun W c=>(H W c).1;have y9:Hid (∀W,Below a.heap.size a W->∀J:List UInt8,J.length<=90000->Calls Tryz.prog 43 #[.pointer (some ⟨R,0,none⟩),.slice aH NH cH,.string ⟨J.toArray⟩] W fun e n=>gL e/\Below W.heap.size W n):=fun W c=>(H W c).2.2.2.2.2.2;clear Av H;go_wp2_with fail;refine(rP.o _ bQ).mono ?_;rintro e h ⟨⟨J,rfl,hy⟩,r⟩;have f:Hid (Below a.heap.size a h):=(by first|exact b.o.drew|exact b.o|exact below_drewN b.o _:Below a.heap.size a _).trans (r.mono (by first|exact b.o.drew|exact b.o|exact below_drewN b.o _:Below a.heap.size a _).size);obtain⟨e4,d4,d5⟩:=A.o h f.o;have z4:=uK.o h f.o;clear r;go_wp2_with fail;refine(Ju _ J _).mono ?_;rintro e K ⟨rfl,jR⟩;subst jR;go_wp2_with fail;go_region_held3 (fun n=>n.cell? ⟨B,t*2+1,none⟩=some (.pointer (some ⟨R,0,none⟩))/\n.cell? ⟨R,2,none⟩=some (.slice aH NH cH)) (go_keep) (first|(go_at_call 43;refine(y9.o _ (by first|exact f.o.drew|exact f.o) J hy).mono ?_;rintro e N ⟨⟨rb,rfl⟩,V⟩;have X:Hid (Below a.heap.size a N):=(by first|exact f.o.drew.trans (V.mono f.o.drew.size)|exact f.o.trans (V.mono f.o.size));obtain⟨e6,d6,d7⟩:=A.o N X.o;have z6:=uK.o N X.o;clear V));go_wp2_with fail;go_ret;exact⟨⟨_,rfl,fun k _=>absurd rfl k⟩,I.o _ X.o⟩
 have t3:(d==3)=false:=aj h3;clear h3
 by_cases h4:d=4
 ·subst h4;have Ur:=di (fun W (c:Below a.heap.size a W)=>(m.o.more c).adV j mR qd);have HHO:=di (fun W (c:Below a.heap.size a W)=>(m.o.more c).holds);go_wp2_with fail;refine(Ur.o _ bQ).mono ?_;rintro e h ⟨⟨av,nv,cv,bD,bF,nl,bG,rfl,hE,hnl,hEB⟩,r⟩;have f:Hid (Below a.heap.size a h):=(by first|exact b.o.drew|exact b.o|exact below_drewN b.o _:Below a.heap.size a _).trans (r.mono (by first|exact b.o.drew|exact b.o|exact below_drewN b.o _:Below a.heap.size a _).size);obtain⟨e4,d4,d5⟩:=A.o h f.o;have HH4:=di (HHO.o h f.o bD bF nl bG hE hnl hEB);clear r hE hnl hEB;go_wp2_with fail;refine(OP _ _ _).mono ?_;rintro e K ⟨rfl,jR⟩;subst jR;go_wp2_with fail;refine HH4.o.mono ?_;rintro e N ⟨⟨rb,rn,rfl⟩,V⟩;have X:Hid (Below a.heap.size a N):=f.o.trans (V.mono f.o.size);clear V;cases rb with
  | true=>
   exact amU
  | false=>
   exact amU
 have t4:(d==4)=false:=aj h4;clear h4
 by_cases h5:d=5
 ·subst h5;have Ib:=di (fun W (c:Below a.heap.size a W)=>(m.o.more c).print);have Oc:=di (fun W (c:Below a.heap.size a W)=>(m.o.more c).aaz);have HWO:=di (fun W (c:Below a.heap.size a W)=>(m.o.more c).word (Doc.print S) (RY m.o.wf));generalize Doc.print S=tx at Ib Oc HWO;go_wp2_with fail;refine(Ib.o _ bQ).mono ?_;rintro e h ⟨rfl,r⟩;have f:Hid (Below a.heap.size a h):=(by first|exact b.o.drew|exact b.o|exact below_drewN b.o _:Below a.heap.size a _).trans (r.mono (by first|exact b.o.drew|exact b.o|exact below_drewN b.o _:Below a.heap.size a _).size);obtain⟨e4,d4,d5⟩:=A.o h f.o;clear r;go_wp2_with fail;refine(Oc.o _ f.o).mono ?_;rintro e K ⟨rfl,hb5⟩;have rF:Hid (Below a.heap.size a K):=f.o.trans (hb5.mono f.o.size);clear hb5;go_wp2_with fail;refine(HWO.o _ rF.o).mono ?_;rintro e N ⟨rfl,l⟩;have y:=di l;exact alT
 have t5:(d==5)=false:=aj h5;clear h5
 by_cases h6:d=6
 ·subst h6;have HDE:=di (fun W (c:Below a.heap.size a W)=>(m.o.more c).depth);have Oh:=di (fun W (c:Below a.heap.size a W)=>(m.o.more c).held);obtain⟨aH,cH,aL,cL,H⟩:=m.o.fields;obtain⟨NH,Av⟩:=aJ S.held.length;obtain⟨NV,SN⟩:=aJ S.levels.length;simp only[Av,SN]at HDE Oh H;obtain⟨z2,z3,_⟩:=H F b.o;clear Av SN H;go_wp2_with fail;refine(HDE.o _ bQ).mono ?_;rintro e h ⟨rfl,hw4⟩;subst hw4;go_wp2_with fail;refine(Oh.o _ bQ).mono ?_;rintro e h ⟨rfl,hw4⟩;subst hw4;exact amB
 have t6:(d==6)=false:=aj h6;clear h6;exact amB
theorem U1 (a:Nat)(own:Own)(M:jv)(o:iK)(n:Nat)(w:World)(h:eT w own a M)(b:dH own w)(c:gD n M)(d:n+1<=100000)(e:pX o) :
 Calls Tryz.prog 21 #[.pointer (some ⟨a,0,none⟩),o.val,.bool false] w fun f g=>qV o.kind f/\ic w g own a (n+1):=by
 obtain⟨i,j,k,l,m,p⟩:=o;exact stepG a own M i j k l m p n w h b c d e
def oP (w wr:World)(i:Nat):Prop:=∃own M,eT wr own w.heap.size M/\dH own wr/\gD i M/\(∀b,b<w.heap.size->wr.heap[b]?=w.heap[b]?/\own b=0)/\w.heap.size<=wr.heap.size/\Same w wr
theorem oP.below {wr:World}(h:oP w wr n):Below w.heap.size w wr:=by
 obtain⟨own,M,_,_,_,b,c,a⟩:=h;exact⟨a.1,a.2.1,a.2.2,c,fun d e=>(b d e).1⟩
theorem oP.zero (d:eU w):oP w (w.alloc (.cells #[.slice none 0 0,.slice none 0 0,.slice none 0 0,.slice none 0 0,.slice none 0 0,.int .i64 0,.int .i64 0,.int .i64 0] 48)) 0:=by
 have a:Below w.heap.size w (w.alloc (.cells #[.slice none 0 0,.slice none 0 0,.slice none 0 0,.slice none 0 0,.slice none 0 0,.int .i64 0,.int .i64 0,.int .i64 0] 48)):=ag;refine⟨_,_,eT.new d,fun c b=>?_,gD.zero,fun c b=>⟨a.block c b,?_⟩,a.size,Same.below a⟩
 ·simp at b;unfold dw;rw[if_neg aO]
 ·unfold dw;rw[if_neg aO]
structure Round (w wr:World)(i:Nat)(o:iK):Prop where
 part:Calls Tryz.prog 20 #[.pointer (some ⟨w.heap.size,0,none⟩),.agg #[.int .i64 o.kind,.int .i64 o.a,.int .i64 o.b,.int .i64 o.c,.string ⟨o.s.toArray⟩,.string ⟨o.t.toArray⟩]] wr fun e w'=>pG o.kind e/\Below wr.heap.size wr w'
 step:∀w1,Below wr.heap.size wr w1->Calls Tryz.prog 21 #[.pointer (some ⟨w.heap.size,0,none⟩),.agg #[.int .i64 o.kind,.int .i64 o.a,.int .i64 o.b,.int .i64 o.c,.string ⟨o.s.toArray⟩,.string ⟨o.t.toArray⟩],.bool false] w1 fun e w'=>qV o.kind e/\oP w w' (i+1)
theorem oP.round {wr:World}{o:iK}(i:oP w wr n)(hi:n+1<=100000)(e:pX o):Round w wr n o:=by
 obtain⟨own,M,f,j,g,c,v,k⟩:=i;refine⟨Vk w.heap.size own M o n wr f g e,fun l a=>?_⟩;refine(U1 w.heap.size own M o n l (f.up a) (j.up a) g hi e).mono ?_;rintro x y ⟨m,p,q,r,s,t,h,z,u⟩;have A:=a.size;exact⟨m,r,p,t,s,q,fun b d=>⟨((h b aO (c b d).2).1.trans (a.block b aO)).trans (c b d).1,(h b aO (c b d).2).2⟩,aO,(k.trans (Same.below a)).trans u⟩
theorem oP.looks {wr:World}(i:oP w wr n)(hi:n<=100000):Calls Tryz.prog 22 #[.pointer (some ⟨w.heap.size,0,none⟩)] wr fun e c=>e=.returned (.bool true)/\oP w c n:=by
 obtain⟨own,M,d,j,f,g,m,k⟩:=i;refine(Sn w.heap.size own M wr d (by have:=f.ls;omega)).mono ?_;rintro e c ⟨rfl,l⟩;have a:=l.below;have o:=a.size;exact⟨rfl,own,M,d.up a,j.up a,f,fun b h=>⟨(a.block b aO).trans (g b h).1,(g b h).2⟩,aO,k.trans (Same.below a)⟩
end Go.Proofs.YtbichedkajfmiaaGreatDoor
