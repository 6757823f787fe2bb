import Derived.Test.YtjiagbaaikifpaaGreatDoorGLO0
set_option maxRecDepth 100000
set_option maxHeartbeats 16000000
namespace Go.Proofs.YtjiagbaaikifpaaGreatDoor
open Go.RowKit Go.Proofs.Tryz
def sH (sy:Int)(ot:Bool)(av:Value)(va:dN):List Value:=[dw sy,.bool ot,av,dD va]
theorem Xu (w:World)(a:Int)(b:Bool)(c:eu)(m d:Nat)(e:dN)(f:TypeId)(n:Nat)(g:n=w.heap.size):∀j u,(sH a b (.slice c m d) e)[j]?=some u->((w.alloc (.cells #[dw a,.bool b,.slice c m d,dD e] f)).drew).cell? (((dA n 0):Addr).add j)=some u:=by
 subst g;exact λj u h=>oW w (sH a b (.slice c m d) e) f j u h
theorem adF (b:Int)(c:Bool)(d:eu)(m e:Nat)(f:dN):∀u∈sH b c (.slice d m e) f,u.oneCell'=true:=by
 intro u a;simp only[sH,List.mem_cons,List.not_mem_nil,or_false]at a;rcases a with rfl|rfl|rfl|rfl<;>rfl
def akr (w w':World)(own:Own)(e:Ending):Prop:=∃(ac:eu) (nc cc:Nat) (ws:List (dN)),e=dF (.slice ac nc cc)/\ws.length=nc/\lS w' own 0 (.slice ac ws.length cc) ws/\ws.length<=70001/\(∀y∈ws,y.length<=70000)/\dB w w'
theorem adL (w:World)(own:Own)(a:dN)(g:eD own w)(o:a.length<=70000):dH 91 #[dD a] w λe b=>akr w b own e:=by
 cases a with
 | nil=>
  refine(aaa w).mono ?_;rintro e b ⟨rfl,rfl⟩;exact⟨none,0,0,[],rfl,rfl,⟨World.ownsRow_nil _ _ _ _,λc d=>by simp[Value.ownBlock]at d⟩,aW,aW,af⟩
 | cons h a=>
  refine(aab (h::a) w aR aW).mono ?_;rintro e b ⟨⟨v,i,rfl,f,p,j,q⟩,d⟩;obtain⟨k,l,rfl,_,_,_⟩:=eZ f;exact⟨k,_,l,i,rfl,rfl,⟨Km f,λc m=>g c (f.lt c m).1⟩,aR,λy n=>aP (j y n),d⟩
theorem aet (a:Nat)(own:Own)(M:kK)(e m C:Int)(v b:dN)(D:Nat)(w:World)(x:gp w own a M)(Q:eD own w)(R:iK D M)(hn:D+1<=100000)(ho:vN ⟨8,e,m,C,v,b⟩) :
 dH 40 #[dK a 0,.agg #[dw 8,dw e,dw m,dw C,dD v,dD b]] w λo w'=>o=dF (fu)/\jd w w' own a (D+1):=by
 obtain⟨⟨S,T⟩,⟨pQ,sV⟩,⟨zI,zH⟩,U,hot⟩:=id ho;simp only at S T pQ sV zI zH U hot;obtain⟨c,g⟩:∃c,w.alloc (.cells #[dw 8,dw e,dw m,dw C,dD v,dD b] 33)=c:=⟨_,rfl⟩;have y:dB w c:=by rw[<-g];exact af.alloc ae _
 have hsz1:=y.size;have l:=x.up y;have V:=Q.up y;have sF:=l.lt;have Am:=x.lt;have HB1:=dn y;have f0:c.cell? (dA w.heap.size 0)=some (dw 8):=al5;have f1:c.cell? (dA w.heap.size 1)=some (dw e):=al5;have f2:c.cell? (dA w.heap.size 2)=some (dw m):=al5;have f3:c.cell? (dA w.heap.size 3)=some (dw C):=al5;have f4:c.cell? (dA w.heap.size 4)=some (dD v):=al5;have f5:c.cell? (dA w.heap.size 5)=some (dD b):=al5;obtain⟨i0,hi,hz0,hz1,hz2⟩:=info_parts IC;obtain⟨v2,z,r⟩:=l.reg;obtain⟨p,h,rfl,p1,p2⟩:=r.form;have hlr:=R.reg;have HFW:=dn Q;have AR:=dn (adL c own v V U);have HH:=dn l;have YF:=dn V;have nG:=dn R;have HA2:=dn z;have E:w.heap.size<c.heap.size:=al5;obtain⟨N,W⟩:=aK M.reg.length;have f:=dn W;rw[W]at hlr p1;clear x Q R ho l V y r z W;go_enter func40,ntmps40;go_wp2_with fail;refine AR.o.mono ?_;rintro o i ⟨F,G,H,I,rfl,hnc,hst,hwl,yO,j⟩;have A:=HH.o.up j;have hF2:=YF.o.up j;have e2:i.cell? (dA a 2)=some (.slice p N h):=by rw[<-f.o];exact(j.dL HA2.o sF)
 obtain⟨v2,z,r⟩:=A.reg;obtain rfl:v2=.slice p M.reg.length h:=Option.some.inj (z.symm.trans (by rw[f.o];exact e2));have z2:=A.fr 2;have g1:=j.dL f1 E;have g2:=j.dL f2 E;have g5:=j.dL f5 E;have hs2:=j.size;have X:a<i.heap.size:=aR;have hlt3:w.heap.size<i.heap.size:=aR;obtain⟨Y,Z,x2,x3,x4⟩:=id r;have uE:Hid (i.ownsRow 0 142 4 (.slice p N h) N Y.flatten):=by rw[<-f.o];exact Z
 have FM:=dn (show _/\_/\_ from⟨Z,x2,x3⟩)
 have mP:Hid (∀q,(Value.slice p N h).ownBlock=some q->q≠a):=λq hq hc=>by
  have l:=x4 q (by rw[f.o];exact hq);rw[hc,A.mine]at l;exact aR
 have ajl:Hid (∀q,(Value.slice p N h).ownBlock=some q->q≠w.heap.size):=λq hq hc=>by
  have l:=x4 q (by rw[f.o];exact hq);rw[hc,HFW.o _ ae]at l;exact aR
 have mh:=dn r;have PD:=dn A;have ry:=dn hF2;have HB2:=dn j;have J:=dn hst;have uQ:=dn hwl;have HWY:=dn yO;have Pv:=dn hnc;have HE2:=dn e2;have HZ2:=dn z2;clear j hst hwl yO hnc A hF2 Z x2 x3 x4 r z f0 f1 f2 f3 f4 f5 g
 have PH:Hid (∀(d n:Nat) (k K:World),dB i K->k.ownsRow 0 142 4 (dJ d (N+1) n) (N+1) (Y.flatten++sH e (m.tmod 2 !=0) (.slice F G H) b)->K.grownBy k (Value.slice p N h).ownBlock->((Value.slice p N h).ownBlock=some d\/K.heap.size<=d)->jd w (k.setCell (dA a 2) (dJ d (N+1) n)) own a (D+1)):=λd n k K hbx L s O=>by
  have t:=wK (f:=2) (r:=7) (n:=N+1) mh.o ry.o PD.o.mine aR X hbx HE2.o L (by rw[f.o];exact s) (by rw[f.o];exact O);obtain⟨u,hbo⟩:=aK ((m.tmod 2 !=0));rw[hbo]at t;refine⟨_,nG.o.afR (e:=⟨e,u,I,b⟩) hn ⟨uQ.o,by show b.length<=_;omega,λbn hy=>aP (HWY.o bn hy),⟨S,T⟩⟩,(iT.MU t.1 aR (PD.o.aev t.1 ?_)).from (HB1.o.dW HB2.o)⟩
  have h9:=eU.snoc (w:=i) (C:=Dz i own) (D:=Dz (k.setCell (dA a 2) (dJ d (N+1) n)) (dG own d 7)) (k:=7) (own':=dG own d 7) (a:=(⟨e,u,I,b⟩:fU)) (c:=sH e u (.slice F G H) b) (g:=d) (cap:=n) FM.o (by rw[f.o];exact t.2) (λbq bA x=>Jq i _ own _ (λB P h0=>by
   obtain⟨q1,q2⟩:=t.1.keep B P aR;exact⟨q1,by rw[q2,h0]⟩) bq bA x) ⟨F,H,by rw[show(⟨e,u,I,b⟩:fU).args.length=G from Pv.o];rfl,J.o.keep (λB P=>t.1.keep B (J.o.1.lt B P).2 (by rw[J.o.2 B P];omega))⟩ rfl amz
  rw[f.o]at h9;exact h9
 have hN1:N+1<=1000000:=aR;clear mh PD ry HB2 J uQ HWY Pv FM ajl HFW AR HH YF nG HA2 f HB1 hlr E hs2 hsz1 sF hn U hot S T pQ sV zI zH p1 p2 Am;clear I;go_upto_region 7 with fail
 go_region_law (refine jC rfl (.tmp 25) (.tmp 36) 38 rfl 0 142 i0 (.agg #[dw 0,dP,dE,eB]) 4 56 underlying38 hi hz0 hz1 hz2 rfl aY (.slice p N h) N Y.flatten cO amO (dA i.heap.size 0) 1 (sH e (m.tmod 2 !=0) (.slice F G H) b) cO rfl (by exact Xu _ _ _ _ _ _ _ _ _ aW) (adF _ _ _ _ _ _) bz aR aW ?_;intro d n k L s hg1 O;have y1:k.cell? (dA a 2)=some (.slice p N h):=((eY s (a:=dA a 2) aX (fun o=>mP.o a o.symm rfl)).trans (dV _ _ (dA a 2) X)).trans HE2.o;have y2:k.frozen? (dA a 2)=false:=((fo s (a:=dA a 2) aX (fun o=>mP.o a o.symm rfl)).trans (eF _ _ (dA a 2) X)).trans HZ2.o;have iP:=dn (PH.o d n k _ (ai.drew) L s O);clear L s hg1 O)
 all_goals
  go_wp2;go_ret;exact⟨rfl,iP.o⟩
