import Derived.Test.YtjiagbaaikifpaaGreatDoorGLO8
set_option maxRecDepth 100000
set_option maxHeartbeats 16000000
namespace Go.Proofs.YtjiagbaaikifpaaGreatDoor
open Go.RowKit Go.Proofs.Tryz
variable {L:kK}{N i j k m n:Nat}{O o:Own}{U W u w:World}{a d:eu}{c:List fU}
theorem Wq (k:Nat)(own:Own)(M:kK)(a e f g:Int)(h i:dN)(n:Nat)(w:World)(j:gp w own k M)(l:eD own w)(_hB:iK n M)(_hn:n+1<=100000)(m:vN ⟨a,e,f,g,h,i⟩)(p:a<7\/14<a) :
 dH 40 #[dK k 0,.agg #[dw a,dw e,dw f,dw g,dD h,dD i]] w λq r=>q=dF (dP)/\dB w r:=by
 obtain⟨⟨s,t⟩,⟨u,v⟩,⟨x,y⟩,z,A⟩:=id m;simp only at s t u v x y z A;obtain⟨b,c⟩:∃b,w.alloc (.cells #[dw a,dw e,dw f,dw g,dD h,dD i] 33)=b:=⟨_,rfl⟩;have d:dB w b:=by rw[<-c];exact af.alloc ae _
 have D:=d.size;have o:=j.up d;have B:=l.up d;have E:=o.lt;have F:=j.lt;have C:=dn d;have G:b.dQ w.heap.size 0=some (dw a):=an5;have H:b.dQ w.heap.size 1=some (dw e):=an5;have I:b.dQ w.heap.size 2=some (dw f):=an5;have J:b.dQ w.heap.size 3=some (dw g):=an5;have K:b.dQ w.heap.size 4=some (dD h):=an5;have L:b.dQ w.heap.size 5=some (dD i):=an5;have N:(a==7)=false:=ak aR;have O:(a==8)=false:=ak aR;have P:(a==9)=false:=ak aR;have Q:(a==10)=false:=ak aR;have R:(a==11)=false:=ak aR;have S:(a==12)=false:=ak aR;have T:(a==13)=false:=ak aR;have U:(a==14)=false:=ak aR;clear j l m o B d p;go_enter func40,ntmps40;go_wp2;go_ret;exact⟨rfl,C.o⟩
theorem Kj (w:World)(g o:Nat)(a b c d:Value):Same w (oC w g o a b c d):=by
 unfold oC;exact⟨rfl,rfl,rfl⟩
theorem aa1 {f p:World}{own:Own}{en:fU}{x K r M s P y F:Nat}(z:dB w W)(A:gp W own n L)(B:iK m L)(C:L.ls[k]?=some c)(hi:i<c.length)(Q:AU en)
 (R:W.cell? (dA n 3)=some (dJ j L.ls.length N)) (S:W.cell? (dA n 4)=some (dJ x L.ls.length K)) (G:W.cell? (dA j k)=some (dJ r c.length M)) (H:W.cell? (dA x k)=some (dJ s c.length P)) (T:own r=fJ 0 k 0) (V:own s=fJ 1 k 0)
 (l:PY W u own o (fJ 0 k (i+1)) en a y) (h:PY u U o O (fJ 1 k (i+1)) en d F)
 (t:oC U r (i*4) (dw en.sym) (.bool en.other) (.slice a en.args.length y) (eO en.val)=f) (v:oC f s (i*4) (dw en.sym) (.bool en.other) (.slice d en.args.length F) (eO en.val)=p):jd w p own n m:=by
 have hs1:=z.size;have X:=l.ek.size;have hs3:=h.ek.size;have g:dB W U:=l.ek.trans (h.ek.mono X);have I:∀b,b<W.heap.size->O b=own b:=λb e=>by rw[h.ext b aR,l.ext b e]
 have Y:gp U O n L:=A.keep (λb e=>⟨g.block b e,I b e⟩) (A.jq.fT (λb _ Z=>g.block b Z));have s3:lS U O (fJ 0 k (i+1)) (.slice a en.args.length y) en.args:=l.args.keep (λb e=>⟨h.ek.block b (l.args.1.lt b e).2,h.ext b (l.args.1.lt b e).2⟩);have J:=A.lt;have hg3:j<W.heap.size:=aj G;have hg4:x<W.heap.size:=aj H;have z4:f.heap.size=U.heap.size:=by rw[<-t];exact Ki _ _ _ _ _ _ _
 have z5:p.heap.size=f.heap.size:=by rw[<-v];exact Ki _ _ _ _ _ _ _
 have y4:∀b,b≠r->f.heap[b]?=U.heap[b]?:=λb e=>by rw[<-t];exact wE _ _ _ _ _ _ _ b e
 have y5:∀b,b≠s->p.heap[b]?=f.heap[b]?:=λb e=>by rw[<-v];exact wE _ _ _ _ _ _ _ b e
 have x4:Same U f:=by rw[<-t];exact Kj _ _ _ _ _ _ _
 have x5:Same f p:=by rw[<-v];exact Kj _ _ _ _ _ _ _
 have hW:=Y.adf (i:=i) (e:=en) B C hi ((g.dL R J)) ((g.dL S J)) ((g.dL G hg3)) ((g.dL H hg4)) s3 h.args t v;refine⟨_,B.ael (k:=k) (L':=c.set i en) C aW (λbg he=>?_),O,λb e=>h.fresh b aR,hW,λb e q=>⟨?_,?_⟩,aR,?_⟩
 ·rcases List.mem_or_eq_of_mem_set he with D|D
  ·exact B.la c (List.mem_of_getElem? C) bg D
  ·rw[D];exact Q
 ·rw[y5 b (λE=>by rw[E,V]at q;unfold fJ at q;omega),y4 b (λE=>by rw[E,T]at q;unfold fJ at q;omega),g.block b aR,z.block b e]
 ·rw[I b aR];exact q
 ·exact(((Same.below z).trans (Same.below g)).trans x4).trans x5
theorem aa2 (d:Nat)(own:Own)(M:kK)(o:kv)(U:Nat)(w:World)(m:gp w own d M)(hfr:eD own w)(n:iK U M)(ho:vN o) :
 dH 94 #[dK d 0,o.val] w λe b=>e=dF (dM #[])/\jd w b own d U:=by
 obtain⟨kd,A,V,oc,os,ot⟩:=o;obtain⟨⟨xy,xw⟩,⟨pQ,sV⟩,⟨zI,zH⟩,_,ht⟩:=ho;simp only at xy xw pQ sV zI zH ht;obtain⟨a,hW1⟩:∃a,w.alloc (.cells #[dw kd,dw A,dw V,dw oc,dD os,dD ot] 33)=a:=⟨_,rfl⟩;have X:dB w a:=amH;have v:gp a own d M:=m.keep (λh hb'=>⟨X.block h hb',rfl⟩) (m.jq.fT (λh _ hlt=>X.block h hlt));obtain⟨v3,r,D⟩:=v.ls;obtain⟨v4,a4,t4⟩:=v.lw;obtain⟨v2,p,E⟩:=v.reg;have sF:=v.lt;have F:=dn X;have ajw:=dn n.lim;have HQ:Hid (∀W,dB w W->jd w W own d U):=λW hW=>⟨M,n,iT.below m hfr hW⟩;have Am:=m.lt;have f1:a.dQ w.heap.size 1=some (dw A):=alZ;have f2:a.dQ w.heap.size 2=some (dw V):=alZ;have BF:=dn (fun(s:Nat) W (v:0<s) (h2:s<=1000000)=>kJ A s W xy xw v aR);have Pn:=dn (fun(s:Nat) W (v:0<s) (h2:s<=1000000)=>kJ V s W pQ sV v aR);have HH:=dn v;clear v;have nG:=dn n;have nV:=dn hfr;have PU:=dn r;have F3:=dn a4;have HT3:=dn D;have FN:=dn t4;have HA2:=dn p;have HT2:=dn E;have hls:=n.ls;have hrl:=n.reg;have hlim:=n.lim;simp only[kv.val]
 by_cases hn0:M.ls.length=0
 ·obtain⟨bA,Y,rfl,p1,p2⟩:=D.form;obtain⟨p',cp',rfl,p1',p2'⟩:=E.form;have e1:=r;rw[hn0]at e1;clear m hfr n E p D t4 r a4 hn0 X PU HT3 HA2 HT2;go_enter func94,ntmps94;go_wp2;exact dR (dM #[]) an0 rfl ⟨rfl,HQ.o _ F.o⟩
 ·by_cases hr0:M.reg.length=0
  ·obtain⟨bA,Y,rfl,p1,p2⟩:=D.form;obtain⟨p',cp',rfl,p1',p2'⟩:=E.form;have e1:=r;have e2:=p;rw[hr0]at e2;obtain⟨N,hN⟩:=aK M.ls.length;rw[hN]at e1 hn0 hls p1;clear m hfr n E p D t4 r a4 hr0 X PU HT3 HA2 HT2 hN;have tN:((N:Int)==0)=false:=ak aR;go_enter func94,ntmps94;go_wp2;exact dR (dM #[]) an0 rfl ⟨rfl,HQ.o _ F.o⟩
  ·obtain⟨R,hR⟩:∃R,M.reg.length=R+1:=⟨M.reg.length-1,aR⟩;obtain⟨en,hen⟩:∃en,M.reg[R]?=some en:=⟨_,aF aR⟩;obtain⟨G,B,hv2,y1,y2,hEA⟩:=Zm E hen hR;subst hv2;have HEB:=dn (n.yG en (List.mem_of_getElem? hen));have hal:=HEB.o.EL;have HEA:=dn hEA;have DY:0<M.ls.length:=aR;have hpk:=oF A DY;obtain⟨L,Z⟩:∃L,M.ls[pk A M.ls.length]?=some L:=⟨_,aF hpk⟩;have lH:=dn (λW=>BF.o M.ls.length W DY aR);obtain⟨k,hk⟩:=aK (pk A M.ls.length);rw[hk]at Z lH hpk;have KF:=List.mem_of_getElem? Z;have Oh:=n.l L KF;have K7:=dn (n.la L KF);obtain⟨t,c3,u3,rfl,q1,q2,o3,d3,l3,m3⟩:=D.pJ Z;obtain⟨H,c4,u4,rfl,q3,q4,o4,d4,l4,m4⟩:=t4.pJ Z;have BG:=dn o3;have Yx:=dn o4;have HD3:=dn d3;have HD4:=dn d4;have Eu:=dn l3;have YC:=dn l4;have I6:=dn Z;have e3:=r;have e5:=d3;obtain⟨al,Ro,hu3,k1,_⟩:=l3.Eb;obtain⟨bl,dl0,WX,k2,_⟩:=l4.Eb;subst hu3 WX;have hkl:=k1.le;have hkm:=k1.max;have ah3:=k2.max;have aas:=k2.le;obtain⟨N,hN⟩:=aK M.ls.length;have mP:=dn hN;rw[hN]at lH hpk q1 q3 e3 hls DY;have hrl2:R+1<=U:=aR;clear m hfr n E D t4 r a4 hn0 X d3 d4 l3 l4 m3 m4 Z hk KF o3 o4 k1 k2 hEA hen hr0 hrl hR hal HT2 HA2
   by_cases hl0:L.length=0
   ·rw[hl0]at e5;clear hl0 Eu YC HD4 HD3 HT3 FN PU F3;have tN:((N:Int)==0)=false:=ak aR;have tR:(((R:Int)+1)==0)=false:=ak aR;go_enter func94,ntmps94;go_wp2_with fail;go_region_held3 (fun b=>b.dQ d 3=some (dJ t N c3)/\b.dQ w.heap.size 1=some (dw A)/\b.dQ t k=some (.slice al 0 Ro)) (go_keep) (first|(go_at_call 38;refine(lH.o _).dX fun c hw3=>?_;subst hw3));go_wp2;exact dR (dM #[]) an0 rfl ⟨rfl,HQ.o _ (by first|exact F.o.drew|exact F.o|exact below_drewN F.o _)⟩
   ·have hlp:0<L.length:=aR;have hpi:=oF V hlp;have jl:=dn (λW=>Pn.o L.length W hlp aR);obtain⟨i,hi⟩:=aK (pk V L.length);rw[hi]at jl hpi;have hilt:i<L.length:=hpi;obtain⟨en3,aax⟩:∃e,L[i]?=some e:=⟨_,aF hilt⟩;obtain⟨f,cl,aa0,ca0,E3⟩:=Eu.o.pJ aax;obtain⟨j,cm,ab0,cb0,E4⟩:=YC.o.pJ aax;have hv:=E3.val;injection hv with hv1 _ hv2
    subst hv1 hv2;have hv:=E4.val;injection hv with hv1 _ hv2;subst hv1 hv2;obtain⟨aiB,hgl⟩:=E3.type;obtain⟨afK,hgm⟩:=E4.type;have PG:=dn hgl;have HGM:=dn hgm;have Pq:=dn E3.mine;have HOM:=dn E4.mine;have RH:=dn E3;have HX4:=dn E4;have HII:=dn hilt;have aaH:L.length<262143:=aR;have abS:Hid (eD own a):=λh C=>nV.o h (aP F.o.size)
    have agH:Hid (∀e∈[en],e.args.length<=200000):=λe he=>by
     simp at he;rw[he];have:=HEB.o.EL;exact aR
    have HD1:Hid (∀W,gW a W->dH 92 #[.slice (some (dA G (R*4))) 1 (B-R)] W λe b=>AV a b own (fJ 0 k (i+1)) en e):=λW z=>
     (yU (some (dA G (R*4))) (B-R) 1 [en] W own (Rq (fJ 0 k (i+1))) (HEA.o.drawn z) rfl (λh C=>abS.o h (by rw[<-z.heap];exact C)) (Rp (aP (jJ 0 k (i+1)))) aR agH.o).mono (λe b m=>(AV.Q9 m).drawn z)
    have HD2:Hid (∀g x p c2,PY a g own x (fJ 0 k (i+1)) en p c2->∀W,gW g W->dH 92 #[.slice (some (dA G (R*4))) 1 (B-R)] W λe b=>AV g b x (fJ 1 k (i+1)) en e):=λg x p c2 y W z=>
     (yU (some (dA G (R*4))) (B-R) 1 [en] W x (Rq (fJ 1 k (i+1))) ((HEA.o.below y.ek).drawn z) rfl (λh C=>y.fresh h (by rw[<-z.heap];exact C)) (Rp (aP (jJ 1 k (i+1)))) aR agH.o).mono (λe b m=>(AV.Q9 m).drawn z)
    obtain⟨I,Fy⟩:=aK L.length;have U7:=dn Fy;rw[Fy]at jl hpi Oh e5 hkl aas hlp;have hii:(i:Int)<(I:Int):=aR;have hkk:(k:Int)<(N:Int):=aR;have hcr:¬B=R:=aR;have hq0:(0:Int)<=(R:Int):=aR;have hq4:IntKind.i64.wrap (R:Int)=(R:Int):=bV;have hq1:(R:Int)<=(R:Int)+1:=aR;have hq2:IntKind.i64.wrap ((R:Int)+1-1)=(R:Int):=bV;have hq3:IntKind.i64.wrap (((R+1:Nat):Int)-1)=(R:Int):=bV;have JU:Hid (f<a.heap.size):=aj E3.c0;have PE:Hid (j<a.heap.size):=aj E4.c0;have ajN:Hid (t<a.heap.size):=aj HD3.o;have ajM:Hid (H<a.heap.size):=aj HD4.o;have ako:Hid (∀W,dB a W->W.dQ d 2=some (dJ G (R+1) B)):=λW C=>(C.dL p sF);have tN:((N:Int)==0)=false:=ak aR;have tR:(((R:Int)+1)==0)=false:=ak aR
    have HST:Hid (∀g x p c2 c pI r c3' w4 w5,PY a g own x (fJ 0 k (i+1)) en p c2->PY g c x pI (fJ 1 k (i+1)) en r c3'->oC c f (i*4) (dw en.sym) (.bool en.other) (.slice p en.args.length c2) (eO en.val)=w4->oC w4 j (i*4) (dw en.sym) (.bool en.other) (.slice r en.args.length c3') (eO en.val)=w5->jd w w5 own d U):=λg x p c2 c pI r c3' w4 w5 y z h4 h5=>
     aa1 F.o HH.o nG.o I6.o HII.o HEB.o PU.o F3.o HD3.o HD4.o Pq.o HOM.o y z h4 h5
    have n1:f≠d:=λy=>by
     have:=Pq.o;rw[y,HH.o.mine]at this;have:=jJ 0 k 0;exact aR
    have n2:f≠H:=λy=>by
     have:=Pq.o;rw[y,Yx.o]at this;have:=jJ 0 k 0;exact aR
    have n3:f≠j:=λy=>by
     have:=Pq.o;rw[y,HOM.o]at this;unfold fJ at this;exact aR
    have RS:Hid (a.dQ d 3=some (dJ t N c3)):=by show _=_;rw[<-mP.o];exact PU.o
    have HE4:Hid (a.dQ d 4=some (dJ H N c4)):=by show _=_;rw[<-mP.o];exact F3.o
    have HE5:Hid (a.dQ t k=some (dJ f I Ro)):=by show _=_;rw[<-U7.o];exact HD3.o
    have HE6:Hid (a.dQ H k=some (dJ j I dl0)):=by show _=_;rw[<-U7.o];exact HD4.o
    obtain⟨J,K,ar,O⟩:=en;obtain⟨NA,oM⟩:=aK ar.length;have Dq:=dn oM;simp only[oM]at HST
    have Jd:Hid (∀W P o1 bq e,AV W P o1 bq ⟨J,K,ar,O⟩ e->e=dF (dJ W.heap.size 1 1)/\∃own' bg Y,PY W P o1 own' bq ⟨J,K,ar,O⟩ bg Y/\P.dQ W.heap.size 0=some (dw J)/\P.dQ W.heap.size 1=some (.bool K)/\P.dQ W.heap.size 2=some (.slice bg NA Y)/\P.dQ W.heap.size 3=some (dD O)):=λW P o1 bq e m=>by
     obtain⟨q1,own',bg,Y,q2⟩:=m;exact⟨q1,own',bg,Y,q2,q2.c0,q2.c1,by have:=q2.c2;simp only[Dq.o]at this;exact this,q2.c3⟩
    clear oM Fy hi aax E3 E4 hgl hgm hl0 HT3 FN Eu YC HD3 HD4 aaH hilt;go_enter func94,ntmps94;go_wp2_with fail;go_region_held3 (fun b=>b.dQ d 3=some (dJ t N c3)/\b.dQ w.heap.size 1=some (dw A)/\b.dQ t k=some (dJ f I Ro)) (go_keep) (first|(go_at_call 38;refine(lH.o _).dX fun c hw3=>?_;subst hw3));go_wp2_with fail;go_region_held3 (fun b=>b.dQ d 3=some (dJ t N c3)/\b.dQ w.heap.size 2=some (dw V)/\b.dQ t k=some (dJ f I Ro)) (go_keep) (first|(go_at_call 38;refine(jl.o _).dX fun c hw3=>?_;subst hw3));go_wp2_with fail;go_region_held3 (fun b=>b.dQ d 2=some (dJ G (R+1) B)) (go_keep) (first|(go_at_call 92;refine(HD1.o _ (by first|exact⟨1,rfl⟩|exact⟨2,rfl⟩|exact⟨3,rfl⟩)).mono ?_;rintro e g hq;obtain⟨rfl,x,OJ,c2',Q,x0,x1,x2,x3⟩:=Jd.o _ _ _ _ _ hq;have GH:=dn Q;have y2:=ako.o g Q.ek;clear Q hq));go_wp2_with fail;go_region_held3 (fun b=>b.dQ d 2=some (dJ G (R+1) B)) (go_keep) (first|(go_at_call 92;refine(HD2.o _ _ _ _ GH.o _ (by first|exact⟨1,rfl⟩|exact⟨0,rfl⟩|exact⟨2,rfl⟩)).mono ?_;rintro e c hq;obtain⟨rfl,pI,a3',c3',Q,z0,z1,z2,z3⟩:=Jd.o _ _ _ _ _ hq;have S:=dn Q;have y3:=Q.ek.dL y2 (by have:=GH.o.ek.size;show d<g.heap.size;omega);clear Q hq));have l:Hid (dB a c):=GH.o.ek.dW S.o.ek;have hsz2:=GH.o.lt;have akS:=S.o.lt;have v0:c.dQ a.heap.size 0=some (dw J):=S.o.ek.dL x0 hsz2;have v1:c.dQ a.heap.size 1=some (.bool K):=S.o.ek.dL x1 hsz2;have v2:c.dQ a.heap.size 2=some (.slice OJ NA c2'):=S.o.ek.dL x2 hsz2;have v3:c.dQ a.heap.size 3=some (dD O):=S.o.ek.dL x3 hsz2;have u3:c.dQ d 3=some (dJ t N c3):=l.o.dL RS.o sF;have u5:c.dQ t k=some (dJ f I Ro):=l.o.dL HE5.o ajN.o;have u4:c.dQ d 4=some (dJ H N c4):=l.o.dL HE4.o sF;have u6:c.dQ H k=some (dJ j I dl0):=l.o.dL HE6.o ajM.o;have r0:=l.o.dL RH.o.c0 JU.o;have r1:=l.o.dL RH.o.c1 JU.o;have r2:=l.o.dL RH.o.c2 JU.o;have r3:=l.o.dL RH.o.c3 JU.o;have rf:∀q,c.uV f q=false:=λq=>uA ((l.o.block f JU.o).trans PG.o) q;obtain⟨T,hwz⟩:=aK (oC c f (i*4) (dw J) (.bool K) (.slice OJ NA c2') (dD O));have u:∀h q,h≠f->T.dQ h q=c.dQ h q:=λh q C=>by rw[<-hwz];exact Wd _ _ _ _ _ _ _ h q C
    have nz:g.heap.size≠f:=aP JU.o;have m4:=(u d 4 n1.symm).trans u4;have m6:=(u H k n2.symm).trans u6;have p0:=(u g.heap.size 0 nz).trans z0;have p1:=(u g.heap.size 1 nz).trans z1;have p2:=(u g.heap.size 2 nz).trans z2;have p3:=(u g.heap.size 3 nz).trans z3;have s0:=(u j (i*4) n3.symm).trans ((l.o.dL HX4.o.c0 PE.o));have s1:=(u j (i*4+1) n3.symm).trans ((l.o.dL HX4.o.c1 PE.o));have s2:=(u j (i*4+2) n3.symm).trans ((l.o.dL HX4.o.c2 PE.o));have s3:=(u j (i*4+3) n3.symm).trans ((l.o.dL HX4.o.c3 PE.o))
    have sf:∀q,T.uV j q=false:=λq=>by
     rw[<-hwz];exact(Qj _ _ _ _ _ _ _ _).trans (uA ((l.o.block j PE.o).trans HGM.o) q)
    have iP:=dn (HST.o g x OJ c2' c pI a3' c3' T _ GH.o S.o hwz rfl);have akO:(((c.oq f (i*4) (dw J)).oq f (i*4+1) (.bool K)).oq f (i*4+2) (.slice OJ NA c2')).oq f (i*4+3) (dD O)=T:=hwz
    have E8:Hid (jd w ((((T.oq j (i*4) (dw J)).oq j (i*4+1) (.bool K)).oq j (i*4+2) (.slice a3' NA c3')).oq j (i*4+3) (dD O)) own d U):=by
     have:=iP.o;unfold oC at this;exact this
    clear u hwz iP x0 x1 x2 x3 y2 y3 HST HD1 HD2 Jd;go_wp2_with fail;go_region
    all_goals go_wp2_with fail
    go_region
    all_goals go_wp2_with fail
    all_goals
     go_end0;exact⟨rfl,by first|exact E8.o|exact E8.o.more (af.drew)|exact E8.o.more (af.drew.drew)|exact E8.o.more (af.drew.drew.drew)⟩
theorem Wp (a:Nat)(own:Own)(M:kK)(j v x y:Int)(z F:dN)(n:Nat)(w:World)(u:gp w own a M)(A:eD own w)(g:iK n M)(D:n+1<=100000)(p:vN ⟨j,v,x,y,z,F⟩)(hk:7<=j/\j<=14) :
 dH 40 #[dK a 0,.agg #[dw j,dw v,dw x,dw y,dD z,dD F]] w λh B=>h=dF (fu)/\jd w B own a (n+1):=by
 obtain⟨⟨xy,xw⟩,⟨pQ,sV⟩,⟨zI,zH⟩,hos,hot⟩:=id p;simp only at xy xw pQ sV zI zH hos hot;obtain⟨b,G⟩:∃b,w.alloc (.cells #[dw j,dw v,dw x,dw y,dD z,dD F] 33)=b:=⟨_,rfl⟩;have q:dB w b:=by rw[<-G];exact af.alloc ae _
 have hsz1:=q.size;have d:=u.up q;have k:=A.up q;have sF:=d.lt;have Am:=u.lt;have H:=dn q;have f0:b.dQ w.heap.size 0=some (dw j):=anE;have f1:b.dQ w.heap.size 1=some (dw v):=anE;have f2:b.dQ w.heap.size 2=some (dw x):=anE;have f3:b.dQ w.heap.size 3=some (dw y):=anE;have f4:b.dQ w.heap.size 4=some (dD z):=anE;have f5:b.dQ w.heap.size 5=some (dD F):=anE
 by_cases E:j=8
 ·subst E;exact aet a own M v x y z F n w u A g D p
 by_cases I:j=7
 ·subst I;have C:=dn (Kv a own M z b d k (aP g.words));have J:Hid (∀W,iT b W own a { M with words:=M.words++[z] }->jd w W own a (n+1)):=λW e=>⟨_,g.Rw D aR,iT.from H.o e⟩;clear u A g p d k q E;exact apI
 by_cases K:j=9
 ·subst K;obtain⟨v2,X,O⟩:=d.reg;obtain⟨L,N,rfl,p1,p2⟩:=O.form;have fz:=d.fr 2;have m:Hid (jd w (b.oq a 2 (dE)) own a (n+1)):=⟨_,g.clear D,iT.from H.o (d.aaW k)⟩;clear u A g p d k q E I O;go_enter func40,ntmps40;go_wp2;go_ret;exact⟨rfl,m.o⟩
 by_cases P:j=10
 ·subst P;obtain⟨v2,X,O⟩:=d.reg;obtain⟨L,N,rfl,p1,p2,Y⟩:=Zn O;have hlr:=g.reg;have hll:=g.ls;have Z:∀h∈M.reg,h.args.length<=200000:=λh r=>aP ((g.yG h r).EL);have hinj:∀Q,Q<2->∀S T,S<=M.reg.length->T<=M.reg.length->fJ Q M.ls.length S=fJ Q M.ls.length T->S=T:=λQ hs S T _ _ hc=>(EU hs hs aR aR hc).2.2;have HD1:=dn (yU L N M.reg.length M.reg b own (fJ 0 M.ls.length) Y rfl k (hinj 0 aR) aR Z);have HD2:Hid (∀c f,qK b c own f (fJ 0 M.ls.length) M.reg M.reg.length->dH 92 #[.slice L M.reg.length N] c λh B=>E9 c B f (fJ 1 M.ls.length) M.reg h):=λc f i=>yU L N M.reg.length M.reg c f (fJ 1 M.ls.length) (Y.below i.ek) rfl i.fresh (hinj 1 aR) aR Z
  have HO:Hid (∀c f o s,qK b c own f (fJ 0 M.ls.length) M.reg M.reg.length->qK c o f s (fJ 1 M.ls.length) M.reg M.reg.length->dH 93 #[dK a 0,dJ b.heap.size M.reg.length M.reg.length,dJ c.heap.size M.reg.length M.reg.length] o λh B=>h=dF (dM #[])/\jd w B own a (n+1)):=λc f o s i r=>by
   have hs2:=i.ek.size;have hs3:=r.ek.size;have hbb:dB b o:=i.ek.trans (r.ek.mono hs2);have hx:∀l,l<b.heap.size->s l=own l:=λl t=>by rw[r.ext l aR,i.ext l t]
   have h3:gp o s a M:=d.keep (λl t=>⟨hbb.block l t,hx l t⟩) (d.jq.fT (λl _ hlt=>hbb.block l hlt));refine(Q8 a s M _ _ _ _ M.reg o h3 r.fresh aR (i.lat.keep (λl t _=>⟨r.ek.block l t,r.ext l t⟩)) r.lat).dX λw4 e=>?_;exact⟨rfl,_,g.Rx D hlr g.yG,(e.Ui hbb hx).from H.o⟩
  have jl:=dn (λW (t:dB b W)=>(t.dL X sF));obtain⟨R,hR⟩:=aK M.reg.length;have U:=dn hR
  have HDP:Hid (∀W W2 o1 cd h,E9 W W2 o1 cd M.reg h->h=dF (dJ W.heap.size R R)/\∃own',qK W W2 o1 own' cd M.reg M.reg.length):=λW W2 o1 cd h i=>by
   obtain⟨q1,q2⟩:=i;exact⟨by rw[q1,U.o],q2⟩
  simp only[hR]at HD1 X p1;have aj0:Hid (∀c f,qK b c own f (fJ 0 M.ls.length) M.reg M.reg.length->dH 92 #[.slice L R N] c λh B=>E9 c B f (fJ 1 M.ls.length) M.reg h):=λc f i=>by have:=HD2.o c f i;rw[U.o]at this;exact this
  have HO':Hid (∀c f o s,qK b c own f (fJ 0 M.ls.length) M.reg M.reg.length->qK c o f s (fJ 1 M.ls.length) M.reg M.reg.length->dH 93 #[dK a 0,dJ b.heap.size R R,dJ c.heap.size R R] o λh B=>h=dF (dM #[])/\jd w B own a (n+1)):=λc f o s i r=>by have:=HO.o c f o s i r;rw[U.o]at this;exact this
  have GH:Hid (∀W,dB b W->W.dQ a 2=some (.slice L R N)):=λW t=>by have:=jl.o W t;rw[U.o]at this;exact this
  clear u A g p d k q E I K O Y Z hinj hlr hll hR HD2 HO jl;go_enter func40,ntmps40;go_wp2_with fail;refine HD1.o.mono ?_;rintro h c i;obtain⟨rfl,f,hd2⟩:=HDP.o _ _ _ _ _ i;have HS2:=dn hd2;have c2:=GH.o c hd2.ek;clear i hd2;go_wp2_with fail;refine(aj0.o c f HS2.o).mono ?_;rintro h o i;obtain⟨rfl,s,hd3⟩:=HDP.o _ _ _ _ _ i;have mO:=dn hd3;clear i hd3;go_wp2_with fail;refine(HO'.o c f o s HS2.o mO.o).dX λw4 e=>?_;have m:=dn e;clear e;go_wp2;go_ret;exact⟨rfl,m.o⟩
 by_cases V:j=11
 ·subst V;have C:=dn (Q8 a own M none none 0 0 [] b d k (aP g.ls) (jU.nil _ _ _) (jU.nil _ _ _));have J:Hid (∀W,iT b W own a { M with ls:=M.ls++[[]] }->jd w W own a (n+1)):=λW e=>⟨_,g.Rx D aW aW,iT.from H.o e⟩;clear u A g p d k q E I K P;exact apI
 by_cases h12:j=12
 ·subst h12;have C:=dn (aa2 a own M ⟨12,v,x,y,z,F⟩ n b d k g p);simp only[kv.val]at C;have J:Hid (∀W,jd b W own a n->jd w W own a (n+1)):=λW e=>(e.from H.o).mono aR D;clear u A g p d k q E I K P V;exact apI
 by_cases h13:j=13
 ·subst h13;have C:=dn (adU a own M ⟨13,v,x,y,z,F⟩ n b d k g p);simp only[kv.val]at C;have J:Hid (∀W,jd b W own a n->jd w W own a (n+1)):=λW e=>(e.from H.o).mono aR D;clear u A g p d k q E I K P V h12;exact apI
 obtain rfl:j=14:=aR
 have m:Hid (jd w (((b.oq a 5 (dw v)).oq a 6 (dw x)).oq a 7 (dw y)) own a (n+1)):=by
  refine⟨_,g.ac9 D ⟨xy,xw⟩ ⟨pQ,sV⟩ ⟨zI,zH⟩,iT.from H.o ?_⟩;refine iT.trans (d.setInt (z:=v) k (.inl ⟨rfl,rfl⟩)) (λ_ g1 g2=>iT.trans (g1.setInt (z:=x) g2 (.inr (.inl ⟨rfl,rfl⟩))) (λf g3 g4=>?_));exact g3.setInt (z:=y) g4 (.inr (.inr ⟨rfl,rfl⟩))
 have e5:=d.at_;have e6:=d.n;have e7:=d.ex;have z5:=d.fr 5;have z6:=d.fr 6;have z7:=d.fr 7;have nw:¬a=w.heap.size:=aR;have nw2:¬w.heap.size=a:=aR;clear u A g p d k q E I K P V h12 h13 hk;go_enter func40,ntmps40;go_wp2;go_ret;exact⟨rfl,m.o⟩
theorem gI.sub (h:gI w a n c)(at_ d:Nat)(k:at_+d<=c.length):gI w (if n=at_ then a else a.map (λx=>x.add (at_*4))) (n-at_) ((c.drop at_).take d):=by
 have l:=h.le;have m:=h.max;refine⟨aX,aR,λi e b=>?_⟩;have hi:=(aG b).1;simp at hi;rw[List.getElem?_take,if_pos aR,List.getElem?_drop]at b;obtain⟨g,o,f,j⟩:=h.get (at_+i) e b;refine⟨g,o+at_*4,?_,?_⟩
 ·rw[if_neg aR,f];simp[Addr.add]
 ·rw[show o+at_*4+i*4=o+(at_+i)*4 by omega];exact j
theorem gI.ahF (h:gI w a n c)(at_ b d:Nat)(p:at_+b+d<=c.length){e:eu}(i:b+d≠0->e=a.map (λx=>x.add (at_*4))):gI w e (b+d) ((c.drop at_).take b):=by
 have q:=h.le;have r:=h.max;refine⟨aX,aR,λj k f=>?_⟩;have hi:=(aG f).1;simp at hi;obtain⟨l,o,g,m⟩:=(h.sub at_ b aR).get j k f;rw[if_neg aR]at g;exact⟨l,o,(i aR).trans g,m⟩
def UQ (w':World)(e:Ending):Prop:=∃(av:eu) (cv:Nat) (a:eu) (c nl:Nat) (L:List fU),e=dF (dM #[.slice av nl cv,.slice a nl c])/\gI w' av cv L/\gI w' a c L/\L.length=nl/\∀x∈L,AU x
theorem Z5 (R:Nat)(own:Own)(M:kK)(g:Int)(bn:Nat)(w:World)(h:gp w own R M)(z:eD own w)(f:iK bn M)(hk1:-9223372036854775808<=g)(hk2:g<=9223372036854775807) :
 dH 45 #[dK R 0,dw g] w λe b=>UQ b e/\dB w b:=by
 obtain⟨v3,p,q⟩:=h.ls;obtain⟨v4,A,B⟩:=h.lw;have e5:=h.at_;have e6:=h.n;have e7:=h.ex;obtain⟨b1,b2⟩:=f.at_;obtain⟨b3,b4⟩:=f.n_;obtain⟨b5,b6⟩:=f.ex;have hls:=f.ls;have hlim:=f.lim
 by_cases C:M.ls.length=0
 ·obtain⟨bA,cp,rfl,p1,p2⟩:=q.form;have e1:=p;rw[C]at e1;clear h z f q B p A C;go_enter func45,ntmps45;go_wp2;go_ret2;exact⟨⟨none,0,none,0,0,[],rfl,gI.nil _,gI.nil _,rfl,aW⟩,af⟩
 ·have D:0<M.ls.length:=aR;have E:=oF g D;obtain⟨L,l⟩:∃L,M.ls[pk g M.ls.length]?=some L:=⟨_,aF E⟩;have F:=dn (λW=>kJ g M.ls.length W hk1 hk2 D aR);obtain⟨G,S⟩:=aK (pk g M.ls.length);rw[S]at l F E;have H:=List.mem_of_getElem? l;have Oh:=f.l L H;have T:=dn (f.la L H);obtain⟨g3,c3,u3,rfl,q1,q2,o3,d3,U,m3⟩:=q.pJ l;obtain⟨g4,c4,u4,rfl,q3,q4,o4,d4,V,m4⟩:=B.pJ l;obtain⟨al,Ro,hu3,r,_⟩:=U.Eb;obtain⟨s,k,WX,t,_⟩:=V.Eb;subst hu3 WX;have hkl:=r.le;have hkm:=r.max;have ah3:=t.max;have aas:=t.le;obtain⟨at_,X⟩:=aK (pk M.at_ (L.length+1));have aiv:at_<=L.length:=aP (oF M.at_ (n:=L.length+1) aR);obtain⟨a,Y⟩:=aK (pk M.n (L.length-at_+1));have Z:at_+a<=L.length:=aP (oF M.n (n:=L.length-at_+1) aR);obtain⟨m,KA⟩:=aK (pk M.ex (L.length-at_-a+1));have afk:at_+a+m<=L.length:=aP (oF M.ex (n:=L.length-at_-a+1) aR)
  have jl:Hid (∀W,dH 38 #[dw M.at_,dw ((L.length:Int)+1)] W λe b=>e=dF (dw (at_:Nat))/\b=W):=λW=>by
   have:=kJ M.at_ (L.length+1) W b1 b2 aR aR;rw[X]at this;exact this
  have oQ:Hid (∀W,dH 38 #[dw M.n,dw ((L.length:Int)-(at_:Int)+1)] W λe b=>e=dF (dw (a:Nat))/\b=W):=λW=>by
   have:=kJ M.n (L.length-at_+1) W b3 b4 aR aR;rw[Y,show((L.length-at_+1:Nat):Int)=(L.length:Int)-(at_:Int)+1 by omega]at this;exact this
  have xI:Hid (∀W,dH 38 #[dw M.ex,dw ((L.length:Int)-(at_:Int)-(a:Int)+1)] W λe b=>e=dF (dw (m:Nat))/\b=W):=λW=>by
   have:=kJ M.ex (L.length-at_-a+1) W b5 b6 aR aR;rw[KA,show((L.length-at_-a+1:Nat):Int)=(L.length:Int)-(at_:Int)-(a:Int)+1 by omega]at this;exact this
  have u:((L.drop at_).take a).length=a:=aX;have I:∀x∈(L.drop at_).take a,AU x:=λx hx=>T.o x (List.mem_of_mem_drop (List.mem_of_mem_take hx))
  have J:Hid (dH 92 #[.slice (if k=at_ then s else s.map (λx=>x.add (at_*4))) a (k-at_)] w λe b=>(∃c d,e=dF (.slice c a d)/\gI b c d ((L.drop at_).take a))/\dB w b):=by
   refine(yU _ _ a ((L.drop at_).take a) w own (λbg=>bg) (t.sub at_ a Z) u z (λbg bB _ _ hij=>hij) aR (λe he=>aP ((I e he).EL))).mono ?_;rintro e b ⟨h1,own',h2⟩;obtain⟨c,d,z1,z2,_⟩:=h2.lat.Eb;rw[z1,u]at h1;exact⟨⟨c,d,h1,z2⟩,h2.ek⟩
  have HDA:Hid (k=at_->dH 92 #[.slice s a 0] w λe b=>(∃c d,e=dF (.slice c a d)/\gI b c d ((L.drop at_).take a))/\dB w b):=λK=>by
   have:=J.o;rw[if_pos K,show k-at_=0 by omega]at this;exact this
  have HDB:Hid (¬k=at_->dH 92 #[.slice (s.map (λx=>x.add (at_*4))) a (k-at_)] w λe b=>(∃c d,e=dF (.slice c a d)/\gI b c d ((L.drop at_).take a))/\dB w b):=λK=>by
   have:=J.o;rw[if_neg K]at this;exact this
  clear J;have iP:Hid (∀W v N y c d,dB w W->N=a->y=a+m->(a+m≠0->v=al.map (λx=>x.add (at_*4)))->gI W c d ((L.drop at_).take a)->UQ W (dF (dM #[.slice v N y,.slice c a d]))):=λW v N y c d hb hnv hc hav i=>⟨v,y,c,d,a,_,by rw[hnv],by rw[hc];exact(r.below hb).ahF at_ a m afk hav,i,u,I⟩;have e3:=p;have e4:=A;obtain⟨bq,hN⟩:=aK M.ls.length;rw[hN]at F E q1 q3 e3 e4 hls D;obtain⟨NL,Fy⟩:=aK L.length;rw[Fy]at jl oQ xI d3 d4 hkl aas Oh aiv Z afk;generalize M.at_=za at *;generalize M.n=zn at *;generalize M.ex=ze at *;generalize (L.drop at_).take a=L' at *;have hkk:(G:Int)<(bq:Int):=aR;clear h z f q B p A C U V m3 m4 l S H o3 o4 r t T u I hN Fy X Y KA;go_enter func45,ntmps45;go_wp2_with fail;refine(F.o _).dX λP j=>?_;subst j;go_wp2_with fail;refine(jl.o _).dX λP j=>?_;subst j;go_wp2_with fail;refine(oQ.o _).dX λP j=>?_;subst j;go_wp2_with fail;refine(xI.o _).dX λP j=>?_;subst j;go_wp2_with fail
  case inl=>
   refine(HDA.o (by first|assumption|omega)).mono ?_;exact ap0
  case inr=>
   refine(HDB.o (by first|assumption|omega)).mono ?_;exact ap0
