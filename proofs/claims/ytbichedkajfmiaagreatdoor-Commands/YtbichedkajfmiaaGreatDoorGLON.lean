import Derived.Test.YtbichedkajfmiaaGreatDoorGAcc0
import Derived.Test.YtbichedkajfmiaaGreatDoorGAdd1
import Derived.Test.YtbichedkajfmiaaGreatDoorGLO8
import Derived.Test.YtbichedkajfmiaaGreatDoorGLW13
import Derived.Test.YtbichedkajfmiaaGreatDoorGRV0
import Derived.Test.YtbichedkajfmiaaGreatDoorGRV5
import Derived.Test.YtbichedkajfmiaaGreatDoorC
set_option maxRecDepth 100000
set_option maxHeartbeats 16000000
namespace Go.Proofs.YtbichedkajfmiaaGreatDoor
open Go.RowKit
variable {L:jv}{N i j k m n:Nat}{O o:Own}{U W u w:World}{a d:Option Addr}{c:List fU}{l:List Nat}{v:Value}
theorem R6 (k:Nat)(own:Own)(M:jv)(a e f g:Int)(h i:List UInt8)(n:Nat)(w:World)(j:eT w own k M)(l:dH own w)(_hB:gD n M)(_hn:n+1<=100000)(m:pX ⟨a,e,f,g,h,i⟩)(p:a<7\/14<a) :
 Calls Tryz.prog 39 #[.pointer (some ⟨k,0,none⟩),.agg #[.int .i64 a,.int .i64 e,.int .i64 f,.int .i64 g,.string ⟨h.toArray⟩,.string ⟨i.toArray⟩]] w fun q r=>q=.returned (.bool false)/\Below w.heap.size w r:=by
 obtain⟨⟨s,t⟩,⟨u,v⟩,⟨x,y⟩,z,A⟩:=id m;simp only at s t u v x y z A;obtain⟨b,c⟩:∃b,w.alloc (.cells #[.int .i64 a,.int .i64 e,.int .i64 f,.int .i64 g,.string ⟨h.toArray⟩,.string ⟨i.toArray⟩] 33)=b:=⟨_,rfl⟩;have d:Below w.heap.size w b:=by rw[<-c];exact af.alloc ae _
 have D:=d.size;have o:=j.up d;have B:=l.up d;have E:=o.lt;have F:=j.lt;have C:=di d;have G:b.cell? ⟨w.heap.size,0,none⟩=some (.int .i64 a):=ajN;have H:b.cell? ⟨w.heap.size,1,none⟩=some (.int .i64 e):=ajN;have I:b.cell? ⟨w.heap.size,2,none⟩=some (.int .i64 f):=ajN;have J:b.cell? ⟨w.heap.size,3,none⟩=some (.int .i64 g):=ajN;have K:b.cell? ⟨w.heap.size,4,none⟩=some (.string ⟨h.toArray⟩):=ajN;have L:b.cell? ⟨w.heap.size,5,none⟩=some (.string ⟨i.toArray⟩):=ajN;have N:(a==7)=false:=aj aO;have O:(a==8)=false:=aj aO;have P:(a==9)=false:=aj aO;have Q:(a==10)=false:=aj aO;have R:(a==11)=false:=aj aO;have S:(a==12)=false:=aj aO;have T:(a==13)=false:=aj aO;have U:(a==14)=false:=aj aO;clear j l m o B d p;go_enter Tryz.func39,Tryz.ntmps39;go_wp2_with fail;go_ret;exact⟨rfl,C.o⟩
theorem GI (w:World)(g o:Nat)(a b c d:Value):Same w (lY w g o a b c d):=by
 unfold lY;exact⟨rfl,rfl,rfl⟩
theorem WT {g q:World}{own:Own}{e:fU}{s M t P v Q z G:Nat}(A:Below w.heap.size w W)(B:eT W own n L)(C:gD m L)(D:L.ls[k]?=some c)(hi:i<c.length)(R:Aj e)
 (S:W.cell? ⟨n,3,none⟩=some (.slice (some ⟨j,0,none⟩) L.ls.length N)) (T:W.cell? ⟨n,4,none⟩=some (.slice (some ⟨s,0,none⟩) L.ls.length M)) (H:W.cell? ⟨j,k,none⟩=some (.slice (some ⟨t,0,none⟩) c.length P)) (I:W.cell? ⟨s,k,none⟩=some (.slice (some ⟨v,0,none⟩) c.length Q)) (V:own t=eO 0 k 0) (X:own v=eO 1 k 0)
 (p:Mg W u own o (eO 0 k (i+1)) e a z) (l:Mg u U o O (eO 1 k (i+1)) e d G)
 (x:lY U t (i*4) (.int .i64 e.sym) (.bool e.other) (.slice a e.args.length z) (dO e.val)=g) (y:lY g v (i*4) (.int .i64 e.sym) (.bool e.other) (.slice d e.args.length G) (dO e.val)=q):ic w q own n m:=by
 have hs1:=A.size;have Y:=p.dG.size;have hs3:=l.dG.size;have h:Below W.heap.size W U:=p.dG.trans (l.dG.mono Y);have J:∀b,b<W.heap.size->O b=own b:=fun b f=>by rw[l.ext b aO,p.ext b f]
 have Z:eT U O n L:=B.keep (fun b f=>⟨h.block b f,J b f⟩) (B.iE.ed (fun b _ hlt=>h.block b hlt));have s3:jX U O (eO 0 k (i+1)) (.slice a e.args.length z) e.args:=p.args.keep (fun b f=>⟨l.dG.block b (p.args.1.lt b f).2,l.ext b (p.args.1.lt b f).2⟩);have K:=B.lt;have hg3:j<W.heap.size:=ai H;have hg4:s<W.heap.size:=ai I;have z4:g.heap.size=U.heap.size:=by rw[<-x];exact GH _ _ _ _ _ _ _
 have z5:q.heap.size=g.heap.size:=by rw[<-y];exact GH _ _ _ _ _ _ _
 have y4:∀b,b≠t->g.heap[b]?=U.heap[b]?:=fun b f=>by rw[<-x];exact tu _ _ _ _ _ _ _ b f
 have y5:∀b,b≠v->q.heap[b]?=g.heap[b]?:=fun b f=>by rw[<-y];exact tu _ _ _ _ _ _ _ b f
 have x4:Same U g:=by rw[<-x];exact GI _ _ _ _ _ _ _
 have x5:Same g q:=by rw[<-y];exact GI _ _ _ _ _ _ _
 have hW:=Z.ZF (i:=i) (e:=e) C D hi ((h.cell (p:=⟨n,3,none⟩) K).trans S) ((h.cell (p:=⟨n,4,none⟩) K).trans T) ((h.cell (p:=⟨j,k,none⟩) hg3).trans H) ((h.cell (p:=⟨s,k,none⟩) hg4).trans I) s3 l.args x y;refine⟨_,C.aaw (k:=k) (L':=c.set i e) D aP (fun bg he=>?_),O,fun b f=>l.fresh b aO,hW,fun b f r=>⟨?_,?_⟩,aO,?_⟩
 ·rcases List.mem_or_eq_of_mem_set he with E|E
  ·exact C.la c (List.mem_of_getElem? D) bg E
  ·rw[E];exact R
 ·rw[y5 b (fun F=>by rw[F,X]at r;unfold eO at r;omega),y4 b (fun F=>by rw[F,V]at r;unfold eO at r;omega),h.block b aO,A.block b f]
 ·rw[J b aO];exact r
 ·exact(((Same.below A).trans (Same.below h)).trans x4).trans x5
theorem WU (b:Nat)(own:Own)(M:jv)(o:iK)(V:Nat)(w:World)(n:eT w own b M)(hfr:dH own w)(p:gD V M)(ho:pX o) :
 Calls Tryz.prog 93 #[.pointer (some ⟨b,0,none⟩),o.val] w fun e c=>e=.returned (.tuple #[])/\ic w c own b V:=by
 obtain⟨kd,B,X,oc,os,ot⟩:=o;obtain⟨⟨uD,uC⟩,⟨mR,qd⟩,⟨xg,xe⟩,_,ht⟩:=ho;simp only at uD uC mR qd xg xe ht;obtain⟨a,hW1⟩:∃a,w.alloc (.cells #[.int .i64 kd,.int .i64 B,.int .i64 X,.int .i64 oc,.string ⟨os.toArray⟩,.string ⟨ot.toArray⟩] 33)=a:=⟨_,rfl⟩;have Y:Below w.heap.size w a:=aiA;have x:eT a own b M:=n.keep (fun l hb'=>⟨Y.block l hb',rfl⟩) (n.iE.ed (fun l _ hlt=>Y.block l hlt));obtain⟨v3,t,F⟩:=x.ls;obtain⟨v4,a4,t4⟩:=x.lw;obtain⟨v2,q,G⟩:=x.reg;have pM:=x.lt;have H:=di Y;have afE:=di p.lim;have HQ:Hid (∀W,Below w.heap.size w W->ic w W own b V):=fun W hW=>⟨M,p,gJ.below n hfr hW⟩;have xQ:=n.lt;have f1:a.cell? ⟨w.heap.size,1,none⟩=some (.int .i64 B):=ahZ;have f2:a.cell? ⟨w.heap.size,2,none⟩=some (.int .i64 X):=ahZ;have BS:=di (fun(u:Nat) W (x:0<u) (h2:u<=1000000)=>jo B u W uD uC x aO);have LH:=di (fun(u:Nat) W (x:0<u) (h2:u<=1000000)=>jo X u W mR qd x aO);have HH:=di x;clear x;have mq:=di p;have lS:=di hfr;have UE:=di t;have Ou:=di a4;have HT3:=di F;have Dh:=di t4;have HA2:=di q;have HT2:=di G;have hls:=p.ls;have hrl:=p.reg;have hlim:=p.lim;simp only[iK.val]
 by_cases hn0:M.ls.length=0
 ·obtain⟨bA,Z,rfl,p1,p2⟩:=F.form;obtain⟨p',cp',rfl,p1',p2'⟩:=G.form;have e1:=t;rw[hn0]at e1;clear n hfr p G q F t4 t a4 hn0 Y UE HT3 HA2 HT2;exact amg
 ·by_cases hr0:M.reg.length=0
  ·obtain⟨bA,Z,rfl,p1,p2⟩:=F.form;obtain⟨p',cp',rfl,p1',p2'⟩:=G.form;have e1:=t;have e2:=q;rw[hr0]at e2;obtain⟨N,hN⟩:=aJ M.ls.length;rw[hN]at e1 hn0 hls p1;clear n hfr p G q F t4 t a4 hr0 Y UE HT3 HA2 HT2 hN;have tN:((N:Int)==0)=false:=aj aO;exact amg
  ·obtain⟨R,hR⟩:∃R,M.reg.length=R+1:=⟨M.reg.length-1,aO⟩;obtain⟨g,hen⟩:∃g,M.reg[R]?=some g:=⟨_,aD aO⟩;obtain⟨I,C,hv2,y1,y2,hEA⟩:=Vb G hen hR;subst hv2;have HEB:=di (p.vP g (List.mem_of_getElem? hen));have hal:=HEB.o.Co;have HEA:=di hEA;have Bl:0<M.ls.length:=aO;have hpk:=l6 B Bl;obtain⟨L,hL⟩:∃L,M.ls[pk B M.ls.length]?=some L:=⟨_,aD hpk⟩;have kv:=di (fun W=>BS.o M.ls.length W Bl aO);obtain⟨k,hk⟩:=aJ (pk B M.ls.length);rw[hk]at hL kv hpk;have KR:=List.mem_of_getElem? hL;have KS:=p.l L KR;have HLA:=di (p.la L KR);obtain⟨r,c3,u3,rfl,q1,q2,o3,d3,l3,m3⟩:=F.mO hL;obtain⟨D,c4,u4,rfl,q3,q4,o4,d4,l4,m4⟩:=t4.mO hL;have Uj:=di o3;have HO4:=di o4;have HD3:=di d3;have HD4:=di d4;have BV:=di l3;have Us:=di l4;have Fv:=di hL;have e3:=t;have e5:=d3;obtain⟨al,NI,hu3,k1,_⟩:=l3.Bz;obtain⟨bl,Yt,SA,k2,_⟩:=l4.Bz;subst hu3 SA;have hkl:=k1.le;have hkm:=k1.max;have aeg:=k2.max;have Wl:=k2.le;obtain⟨N,hN⟩:=aJ M.ls.length;have kZ:=di hN;rw[hN]at kv hpk q1 q3 e3 hls Bl;have hrl2:R+1<=V:=aO;clear n hfr p G F t4 t a4 hn0 Y d3 d4 l3 l4 m3 m4 hL hk KR o3 o4 k1 k2 hEA hen hr0 hrl hR hal HT2 HA2
   by_cases hl0:L.length=0
   ·rw[hl0]at e5;clear hl0 BV Us HD4 HD3 HT3 Dh UE Ou;have tN:((N:Int)==0)=false:=aj aO;have tR:(((R:Int)+1)==0)=false:=aj aO;go_enter Tryz.func93,Tryz.ntmps93;go_wp2_with fail;go_region_held3 (fun c=>c.cell? ⟨b,3,none⟩=some (.slice (some ⟨r,0,none⟩) N c3)/\c.cell? ⟨w.heap.size,1,none⟩=some (.int .i64 B)/\c.cell? ⟨r,k,none⟩=some (.slice al 0 NI)) (go_keep) (first|(go_at_call 37;refine(kv.o _).mono ?_;rintro e f ⟨rfl,hw3⟩;subst hw3));go_wp2_with fail;exact bodyPost_ret (v:=.tuple #[]) ajs rfl ⟨rfl,HQ.o _ (by first|exact H.o.drew|exact H.o|exact below_drewN H.o _)⟩
   ·have hlp:0<L.length:=aO;have hpi:=l6 X hlp;have jB:=di (fun W=>LH.o L.length W hlp aO);obtain⟨i,hi⟩:=aJ (pk X L.length);rw[hi]at jB hpi;have hilt:i<L.length:=hpi;obtain⟨en3,Wq⟩:∃e,L[i]?=some e:=⟨_,aD hilt⟩;obtain⟨d,cl,aa0,ca0,E3⟩:=BV.o.mO Wq;obtain⟨h,cm,ab0,cb0,E4⟩:=Us.o.mO Wq;have hv:=E3.val;injection hv with hv1 _ hv2
    subst hv1 hv2;have hv:=E4.val;injection hv with hv1 _ hv2;subst hv1 hv2;obtain⟨aeN,hgl⟩:=E3.type;obtain⟨abT,hgm⟩:=E4.type;have Y3:=di hgl;have HGM:=di hgm;have LK:=di E3.mine;have HOM:=di E4.mine;have N9:=di E3;have YF:=di E4;have HII:=di hilt;have WB:L.length<262143:=aO;have XM:Hid (dH own a):=fun l E=>lS.o l (by have:=H.o.size;omega)
    have acP:Hid (∀e∈[g],e.args.length<=200000):=fun e he=>by
     simp at he;rw[he];have:=HEB.o.Co;exact aO
    have HD1:Hid (∀W,fF a W->Calls Tryz.prog 91 #[.slice (some ⟨I,R*4,none⟩) 1 (C-R)] W fun e c=>yw a c own (eO 0 k (i+1)) g e):=fun W A=>
     (wu (some ⟨I,R*4,none⟩) (C-R) 1 [g] W own (NK (eO 0 k (i+1))) (HEA.o.drawn A) rfl (fun l E=>XM.o l (by rw[<-A.heap];exact E)) (NJ (by have:=iP 0 k (i+1);omega)) aO acP.o).mono (fun e c n=>(yw.Nv n).drawn A)
    have HD2:Hid (∀j y q c2,Mg a j own y (eO 0 k (i+1)) g q c2->∀W,fF j W->Calls Tryz.prog 91 #[.slice (some ⟨I,R*4,none⟩) 1 (C-R)] W fun e c=>yw j c y (eO 1 k (i+1)) g e):=fun j y q c2 z W A=>
     (wu (some ⟨I,R*4,none⟩) (C-R) 1 [g] W y (NK (eO 1 k (i+1))) ((HEA.o.below z.dG).drawn A) rfl (fun l E=>z.fresh l (by rw[<-A.heap];exact E)) (NJ (by have:=iP 1 k (i+1);omega)) aO acP.o).mono (fun e c n=>(yw.Nv n).drawn A)
    obtain⟨J,CW⟩:=aJ L.length;have QT:=di CW;rw[CW]at jB hpi KS e5 hkl Wl hlp;have hii:(i:Int)<(J:Int):=aO;have hkk:(k:Int)<(N:Int):=aO;have hcr:¬C=R:=aO;have hq0:(0:Int)<=(R:Int):=aO;have hq4:IntKind.i64.wrap (R:Int)=(R:Int):=ah5;have hq1:(R:Int)<=(R:Int)+1:=aO;have hq2:IntKind.i64.wrap ((R:Int)+1-1)=(R:Int):=ah5;have hq3:IntKind.i64.wrap (((R+1:Nat):Int)-1)=(R:Int):=ah5;have Gi:Hid (d<a.heap.size):=ai E3.c0;have LY:Hid (h<a.heap.size):=ai E4.c0;have afR:Hid (r<a.heap.size):=ai HD3.o;have afQ:Hid (D<a.heap.size):=ai HD4.o;have ags:Hid (∀W,Below a.heap.size a W->W.cell? ⟨b,2,none⟩=some (.slice (some ⟨I,0,none⟩) (R+1) C)):=fun W E=>(E.cell (p:=⟨b,2,none⟩) pM).trans q;have tN:((N:Int)==0)=false:=aj aO;have tR:(((R:Int)+1)==0)=false:=aj aO
    have HST:Hid (∀j y q c2 f mM t c3' w4 w5,Mg a j own y (eO 0 k (i+1)) g q c2->Mg j f y mM (eO 1 k (i+1)) g t c3'->lY f d (i*4) (.int .i64 g.sym) (.bool g.other) (.slice q g.args.length c2) (dO g.val)=w4->lY w4 h (i*4) (.int .i64 g.sym) (.bool g.other) (.slice t g.args.length c3') (dO g.val)=w5->ic w w5 own b V):=fun j y q c2 f mM t c3' w4 w5 z A h4 h5=>
     WT H.o HH.o mq.o Fv.o HII.o HEB.o UE.o Ou.o HD3.o HD4.o LK.o HOM.o z A h4 h5
    have n1:d≠b:=fun z=>by
     have:=LK.o;rw[z,HH.o.mine]at this;have:=iP 0 k 0;exact aO
    have n2:d≠D:=fun z=>by
     have:=LK.o;rw[z,HO4.o]at this;have:=iP 0 k 0;exact aO
    have n3:d≠h:=fun z=>by
     have:=LK.o;rw[z,HOM.o]at this;unfold eO at this;exact aO
    have Oj:Hid (a.cell? ⟨b,3,none⟩=some (.slice (some ⟨r,0,none⟩) N c3)):=by show _=_;rw[<-kZ.o];exact UE.o
    have Za:Hid (a.cell? ⟨b,4,none⟩=some (.slice (some ⟨D,0,none⟩) N c4)):=by show _=_;rw[<-kZ.o];exact Ou.o
    have HE5:Hid (a.cell? ⟨r,k,none⟩=some (.slice (some ⟨d,0,none⟩) J NI)):=by show _=_;rw[<-QT.o];exact HD3.o
    have HE6:Hid (a.cell? ⟨D,k,none⟩=some (.slice (some ⟨h,0,none⟩) J Yt)):=by show _=_;rw[<-QT.o];exact HD4.o
    obtain⟨K,O,ar,P⟩:=g;obtain⟨NA,tL⟩:=aJ ar.length;have Dj:=di tL;simp only[tL]at HST
    have Fw:Hid (∀W Q o1 bq e,yw W Q o1 bq ⟨K,O,ar,P⟩ e->e=.returned (.slice (some ⟨W.heap.size,0,none⟩) 1 1)/\∃own' bg Z,Mg W Q o1 own' bq ⟨K,O,ar,P⟩ bg Z/\Q.cell? ⟨W.heap.size,0,none⟩=some (.int .i64 K)/\Q.cell? ⟨W.heap.size,1,none⟩=some (.bool O)/\Q.cell? ⟨W.heap.size,2,none⟩=some (.slice bg NA Z)/\Q.cell? ⟨W.heap.size,3,none⟩=some (.string ⟨P.toArray⟩)):=fun W Q o1 bq e n=>by
     obtain⟨q1,own',bg,Z,q2⟩:=n;exact⟨q1,own',bg,Z,q2,q2.c0,q2.c1,by have:=q2.c2;simp only[Dj.o]at this;exact this,q2.c3⟩
    clear tL CW hi Wq E3 E4 hgl hgm hl0 HT3 Dh BV Us HD3 HD4 WB hilt;go_enter Tryz.func93,Tryz.ntmps93;go_wp2_with fail;go_region_held3 (fun c=>c.cell? ⟨b,3,none⟩=some (.slice (some ⟨r,0,none⟩) N c3)/\c.cell? ⟨w.heap.size,1,none⟩=some (.int .i64 B)/\c.cell? ⟨r,k,none⟩=some (.slice (some ⟨d,0,none⟩) J NI)) (go_keep) (first|(go_at_call 37;refine(kv.o _).mono ?_;rintro e f ⟨rfl,hw3⟩;subst hw3));go_wp2_with fail;go_region_held3 (fun c=>c.cell? ⟨b,3,none⟩=some (.slice (some ⟨r,0,none⟩) N c3)/\c.cell? ⟨w.heap.size,2,none⟩=some (.int .i64 X)/\c.cell? ⟨r,k,none⟩=some (.slice (some ⟨d,0,none⟩) J NI)) (go_keep) (first|(go_at_call 37;refine(jB.o _).mono ?_;rintro e f ⟨rfl,hw3⟩;subst hw3));go_wp2_with fail;go_region_held3 (fun c=>c.cell? ⟨b,2,none⟩=some (.slice (some ⟨I,0,none⟩) (R+1) C)) (go_keep) (first|(go_at_call 91;refine(HD1.o _ (by first|exact⟨1,rfl⟩|exact⟨2,rfl⟩|exact⟨3,rfl⟩)).mono ?_;rintro e j hq;obtain⟨rfl,y,Lf,c2',S,x0,x1,x2,x3⟩:=Fw.o _ _ _ _ _ hq;have Cc:=di S;have y2:=ags.o j S.dG;clear S hq));go_wp2_with fail;go_region_held3 (fun c=>c.cell? ⟨b,2,none⟩=some (.slice (some ⟨I,0,none⟩) (R+1) C)) (go_keep) (first|(go_at_call 91;refine(HD2.o _ _ _ _ Cc.o _ (by first|exact⟨1,rfl⟩|exact⟨0,rfl⟩|exact⟨2,rfl⟩)).mono ?_;rintro e f hq;obtain⟨rfl,mM,a3',c3',S,z0,z1,z2,z3⟩:=Fw.o _ _ _ _ _ hq;have T:=di S;have y3:=(S.dG.cell (p:=⟨b,2,none⟩) (by have:=Cc.o.dG.size;show b<j.heap.size;omega)).trans y2;clear S hq));have m:Hid (Below a.heap.size a f):=Cc.o.dG.trans (T.o.dG.mono Cc.o.dG.size);have hsz2:=Cc.o.lt;have ag1:=T.o.lt;have v0:f.cell? ⟨a.heap.size,0,none⟩=some (.int .i64 K):=(T.o.dG.cell (p:=⟨a.heap.size,0,none⟩) hsz2).trans x0;have v1:f.cell? ⟨a.heap.size,1,none⟩=some (.bool O):=(T.o.dG.cell (p:=⟨a.heap.size,1,none⟩) hsz2).trans x1;have v2:f.cell? ⟨a.heap.size,2,none⟩=some (.slice Lf NA c2'):=(T.o.dG.cell (p:=⟨a.heap.size,2,none⟩) hsz2).trans x2;have v3:f.cell? ⟨a.heap.size,3,none⟩=some (.string ⟨P.toArray⟩):=(T.o.dG.cell (p:=⟨a.heap.size,3,none⟩) hsz2).trans x3;have u3:f.cell? ⟨b,3,none⟩=some (.slice (some ⟨r,0,none⟩) N c3):=(m.o.cell (p:=⟨b,3,none⟩) pM).trans Oj.o;have u5:f.cell? ⟨r,k,none⟩=some (.slice (some ⟨d,0,none⟩) J NI):=(m.o.cell (p:=⟨r,k,none⟩) afR.o).trans HE5.o;have u4:f.cell? ⟨b,4,none⟩=some (.slice (some ⟨D,0,none⟩) N c4):=(m.o.cell (p:=⟨b,4,none⟩) pM).trans Za.o;have u6:f.cell? ⟨D,k,none⟩=some (.slice (some ⟨h,0,none⟩) J Yt):=(m.o.cell (p:=⟨D,k,none⟩) afQ.o).trans HE6.o;have r0:=(m.o.cell (p:=⟨d,i*4,none⟩) Gi.o).trans N9.o.c0;have r1:=(m.o.cell (p:=⟨d,i*4+1,none⟩) Gi.o).trans N9.o.c1;have r2:=(m.o.cell (p:=⟨d,i*4+2,none⟩) Gi.o).trans N9.o.c2;have r3:=(m.o.cell (p:=⟨d,i*4+3,none⟩) Gi.o).trans N9.o.c3;have rf:∀s,f.frozen? ⟨d,s,none⟩=false:=fun s=>qR ((m.o.block d Gi.o).trans Y3.o) s;obtain⟨U,hwz⟩:=aJ (lY f d (i*4) (.int .i64 K) (.bool O) (.slice Lf NA c2') (.string ⟨P.toArray⟩));have v:∀l s,l≠d->U.cell? ⟨l,s,none⟩=f.cell? ⟨l,s,none⟩:=fun l s E=>by rw[<-hwz];exact RS _ _ _ _ _ _ _ l s E
    have nz:j.heap.size≠d:=by have:=Gi.o;omega
    have m4:=(v b 4 n1.symm).trans u4;have m6:=(v D k n2.symm).trans u6;have p0:=(v j.heap.size 0 nz).trans z0;have p1:=(v j.heap.size 1 nz).trans z1;have p2:=(v j.heap.size 2 nz).trans z2;have p3:=(v j.heap.size 3 nz).trans z3;have s0:=(v h (i*4) n3.symm).trans ((m.o.cell (p:=⟨h,i*4,none⟩) LY.o).trans YF.o.c0);have s1:=(v h (i*4+1) n3.symm).trans ((m.o.cell (p:=⟨h,i*4+1,none⟩) LY.o).trans YF.o.c1);have s2:=(v h (i*4+2) n3.symm).trans ((m.o.cell (p:=⟨h,i*4+2,none⟩) LY.o).trans YF.o.c2);have s3:=(v h (i*4+3) n3.symm).trans ((m.o.cell (p:=⟨h,i*4+3,none⟩) LY.o).trans YF.o.c3)
    have sf:∀s,U.frozen? ⟨h,s,none⟩=false:=fun s=>by
     rw[<-hwz,MC];exact qR ((m.o.block h LY.o).trans HGM.o) s
    have iQ:=di (HST.o j y Lf c2' f mM a3' c3' U _ Cc.o T.o hwz rfl);have agX:(((f.setCell ⟨d,i*4,none⟩ (.int .i64 K)).setCell ⟨d,i*4+1,none⟩ (.bool O)).setCell ⟨d,i*4+2,none⟩ (.slice Lf NA c2')).setCell ⟨d,i*4+3,none⟩ (.string ⟨P.toArray⟩)=U:=hwz
    have CB:Hid (ic w ((((U.setCell ⟨h,i*4,none⟩ (.int .i64 K)).setCell ⟨h,i*4+1,none⟩ (.bool O)).setCell ⟨h,i*4+2,none⟩ (.slice a3' NA c3')).setCell ⟨h,i*4+3,none⟩ (.string ⟨P.toArray⟩)) own b V):=by
     have:=iQ.o;unfold lY at this;exact this
    clear v hwz iQ x0 x1 x2 x3 y2 y3 HST HD1 HD2 Fw;go_wp2_with fail;go_region
    all_goals go_wp2_with fail
    go_region
    all_goals go_wp2_with fail
    all_goals
     go_end0;exact⟨rfl,by first|exact CB.o|exact CB.o.more (af.drew)|exact CB.o.more (af.drew.drew)|exact CB.o.more (af.drew.drew.drew)⟩
theorem R5 (b:Nat)(own:Own)(M:jv)(j v x y:Int)(z F:List UInt8)(n:Nat)(w:World)(u:eT w own b M)(A:dH own w)(h:gD n M)(D:n+1<=100000)(p:pX ⟨j,v,x,y,z,F⟩)(hk:7<=j/\j<=14) :
 Calls Tryz.prog 39 #[.pointer (some ⟨b,0,none⟩),.agg #[.int .i64 j,.int .i64 v,.int .i64 x,.int .i64 y,.string ⟨z.toArray⟩,.string ⟨F.toArray⟩]] w fun e B=>e=.returned (.bool true)/\ic w B own b (n+1):=by
 obtain⟨⟨uD,uC⟩,⟨mR,qd⟩,⟨xg,xe⟩,hos,hot⟩:=id p;simp only at uD uC mR qd xg xe hos hot;obtain⟨a,G⟩:∃a,w.alloc (.cells #[.int .i64 j,.int .i64 v,.int .i64 x,.int .i64 y,.string ⟨z.toArray⟩,.string ⟨F.toArray⟩] 33)=a:=⟨_,rfl⟩;have q:Below w.heap.size w a:=by rw[<-G];exact af.alloc ae _
 have hsz1:=q.size;have d:=u.up q;have k:=A.up q;have pM:=d.lt;have xQ:=u.lt;have H:=di q;have f0:a.cell? ⟨w.heap.size,0,none⟩=some (.int .i64 j):=ajO;have f1:a.cell? ⟨w.heap.size,1,none⟩=some (.int .i64 v):=ajO;have f2:a.cell? ⟨w.heap.size,2,none⟩=some (.int .i64 x):=ajO;have f3:a.cell? ⟨w.heap.size,3,none⟩=some (.int .i64 y):=ajO;have f4:a.cell? ⟨w.heap.size,4,none⟩=some (.string ⟨z.toArray⟩):=ajO;have f5:a.cell? ⟨w.heap.size,5,none⟩=some (.string ⟨F.toArray⟩):=ajO
 by_cases E:j=8
 ·subst E;exact aaF b own M v x y z F n w u A h D p
 by_cases I:j=7
 ·subst I;have C:=di (GX b own M z a d k (by have:=h.words;omega));have J:Hid (∀W,gJ a W own b { M with words:=M.words++[z] }->ic w W own b (n+1)):=fun W f=>⟨_,h.NQ D aO,gJ.from H.o f⟩;clear u A h p d k q E;exact ak9
 by_cases K:j=9
 ·subst K;obtain⟨v2,X,O⟩:=d.reg;obtain⟨L,N,rfl,p1,p2⟩:=O.form;have fz:=d.fr 2;have m:Hid (ic w (a.setCell ⟨b,2,none⟩ (.slice none 0 0)) own b (n+1)):=⟨_,h.clear D,gJ.from H.o (d.WO k)⟩;clear u A h p d k q E I O;go_enter Tryz.func39,Tryz.ntmps39;go_wp2_with fail;go_ret;exact⟨rfl,m.o⟩
 by_cases P:j=10
 ·subst P;obtain⟨v2,X,O⟩:=d.reg;obtain⟨L,N,rfl,p1,p2,Y⟩:=Vd O;have hlr:=h.reg;have hll:=h.ls;have Z:∀e∈M.reg,e.args.length<=200000:=fun e r=>by have:=(h.vP e r).Co;omega
  have hinj:∀Q,Q<2->∀S T,S<=M.reg.length->T<=M.reg.length->eO Q M.ls.length S=eO Q M.ls.length T->S=T:=fun Q hs S T hi hj hc=>(Cw hs hs aO aO hc).2.2;have HD1:=di (wu L N M.reg.length M.reg a own (eO 0 M.ls.length) Y rfl k (hinj 0 aO) aO Z);have HD2:Hid (∀c g,nX a c own g (eO 0 M.ls.length) M.reg M.reg.length->Calls Tryz.prog 91 #[.slice L M.reg.length N] c fun e B=>CF c B g (eO 1 M.ls.length) M.reg e):=fun c g i=>wu L N M.reg.length M.reg c g (eO 1 M.ls.length) (Y.below i.dG) rfl i.fresh (hinj 1 aO) aO Z
  have HO:Hid (∀c g o s,nX a c own g (eO 0 M.ls.length) M.reg M.reg.length->nX c o g s (eO 1 M.ls.length) M.reg M.reg.length->Calls Tryz.prog 92 #[.pointer (some ⟨b,0,none⟩),.slice (some ⟨a.heap.size,0,none⟩) M.reg.length M.reg.length,.slice (some ⟨c.heap.size,0,none⟩) M.reg.length M.reg.length] o fun e B=>e=.returned (.tuple #[])/\ic w B own b (n+1)):=fun c g o s i r=>by
   have hs2:=i.dG.size;have hs3:=r.dG.size;have hbb:Below a.heap.size a o:=i.dG.trans (r.dG.mono hs2);have hx:∀l,l<a.heap.size->s l=own l:=fun l t=>by rw[r.ext l aO,i.ext l t]
   have h3:eT o s b M:=d.keep (fun l t=>⟨hbb.block l t,hx l t⟩) (d.iE.ed (fun l _ hlt=>hbb.block l hlt));refine(Nu b s M _ _ _ _ M.reg o h3 r.fresh aO (i.lat.keep (fun l t _=>⟨r.dG.block l t,r.ext l t⟩)) r.lat).mono ?_;rintro e w4 ⟨rfl,f⟩;exact⟨rfl,_,h.NR D hlr h.vP,(f.Qd hbb hx).from H.o⟩
  have jB:=di (fun W (t:Below a.heap.size a W)=>(t.cell (p:=⟨b,2,none⟩) pM).trans X);obtain⟨R,hR⟩:=aJ M.reg.length;have U:=di hR
  have HDP:Hid (∀W W2 o1 cd e,CF W W2 o1 cd M.reg e->e=.returned (.slice (some ⟨W.heap.size,0,none⟩) R R)/\∃own',nX W W2 o1 own' cd M.reg M.reg.length):=fun W W2 o1 cd e i=>by
   obtain⟨q1,q2⟩:=i;exact⟨by rw[q1,U.o],q2⟩
  simp only[hR]at HD1 X p1;have af4:Hid (∀c g,nX a c own g (eO 0 M.ls.length) M.reg M.reg.length->Calls Tryz.prog 91 #[.slice L R N] c fun e B=>CF c B g (eO 1 M.ls.length) M.reg e):=fun c g i=>by have:=HD2.o c g i;rw[U.o]at this;exact this
  have HO':Hid (∀c g o s,nX a c own g (eO 0 M.ls.length) M.reg M.reg.length->nX c o g s (eO 1 M.ls.length) M.reg M.reg.length->Calls Tryz.prog 92 #[.pointer (some ⟨b,0,none⟩),.slice (some ⟨a.heap.size,0,none⟩) R R,.slice (some ⟨c.heap.size,0,none⟩) R R] o fun e B=>e=.returned (.tuple #[])/\ic w B own b (n+1)):=fun c g o s i r=>by have:=HO.o c g o s i r;rw[U.o]at this;exact this
  have Cc:Hid (∀W,Below a.heap.size a W->W.cell? ⟨b,2,none⟩=some (.slice L R N)):=fun W t=>by have:=jB.o W t;rw[U.o]at this;exact this
  clear u A h p d k q E I K O Y Z hinj hlr hll hR HD2 HO jB;go_enter Tryz.func39,Tryz.ntmps39;go_wp2_with fail;refine HD1.o.mono ?_;rintro e c i;obtain⟨rfl,g,hd2⟩:=HDP.o _ _ _ _ _ i;have HS2:=di hd2;have c2:=Cc.o c hd2.dG;clear i hd2;go_wp2_with fail;refine(af4.o c g HS2.o).mono ?_;rintro e o i;obtain⟨rfl,s,hd3⟩:=HDP.o _ _ _ _ _ i;have nV:=di hd3;clear i hd3;go_wp2_with fail;refine(HO'.o c g o s HS2.o nV.o).mono ?_;rintro e w4 ⟨rfl,f⟩;have m:=di f;clear f;go_wp2_with fail;go_ret;exact⟨rfl,m.o⟩
 by_cases V:j=11
 ·subst V;have C:=di (Nu b own M none none 0 0 [] a d k (by have:=h.ls;omega) (iX.nil _ _ _) (iX.nil _ _ _));have J:Hid (∀W,gJ a W own b { M with ls:=M.ls++[[]] }->ic w W own b (n+1)):=fun W f=>⟨_,h.NR D aP aP,gJ.from H.o f⟩;clear u A h p d k q E I K P;exact ak9
 by_cases h12:j=12
 ·subst h12;have C:=di (WU b own M ⟨12,v,x,y,z,F⟩ n a d k h p);simp only[iK.val]at C;have J:Hid (∀W,ic a W own b n->ic w W own b (n+1)):=fun W f=>(f.from H.o).mono aO D;clear u A h p d k q E I K P V;exact ak9
 by_cases h13:j=13
 ·subst h13;have C:=di (aad b own M ⟨13,v,x,y,z,F⟩ n a d k h p);simp only[iK.val]at C;have J:Hid (∀W,ic a W own b n->ic w W own b (n+1)):=fun W f=>(f.from H.o).mono aO D;clear u A h p d k q E I K P V h12;exact ak9
 obtain rfl:j=14:=aO
 have m:Hid (ic w (((a.setCell ⟨b,5,none⟩ (.int .i64 v)).setCell ⟨b,6,none⟩ (.int .i64 x)).setCell ⟨b,7,none⟩ (.int .i64 y)) own b (n+1)):=by
  refine⟨_,h.ZC D ⟨uD,uC⟩ ⟨mR,qd⟩ ⟨xg,xe⟩,gJ.from H.o ?_⟩;refine gJ.trans (d.setInt (z:=v) k (.inl ⟨rfl,rfl⟩)) (fun JH g1 g2=>gJ.trans (g1.setInt (z:=x) g2 (.inr (.inl ⟨rfl,rfl⟩))) (fun g g3 g4=>?_));exact g3.setInt (z:=y) g4 (.inr (.inr ⟨rfl,rfl⟩))
 have e5:=d.at_;have e6:=d.n;have e7:=d.ex;have z5:=d.fr 5;have z6:=d.fr 6;have z7:=d.fr 7;have nw:¬b=w.heap.size:=aO;have nw2:¬w.heap.size=b:=aO;clear u A h p d k q E I K P V h12 h13 hk;go_enter Tryz.func39,Tryz.ntmps39;go_wp2_with fail;go_ret;exact⟨rfl,m.o⟩
theorem fZ.sub (h:fZ w a n c)(at_ d:Nat)(k:at_+d<=c.length):fZ w (if n=at_ then a else a.map (fun x=>x.add (at_*4))) (n-at_) ((c.drop at_).take d):=by
 have l:=h.le;have m:=h.max;refine⟨aQ,aO,fun i e b=>?_⟩;have hi:=(List.getElem?_eq_some_iff.1 b).1;simp at hi;rw[List.getElem?_take,if_pos aO,List.getElem?_drop]at b;obtain⟨g,o,f,j⟩:=h.get (at_+i) e b;refine⟨g,o+at_*4,?_,?_⟩
 ·rw[if_neg aO,f];simp[Addr.add]
 ·rw[show o+at_*4+i*4=o+(at_+i)*4 by omega];exact j
def QD (w':World)(e:Ending):Prop:=∃(av:Option Addr) (nv cv:Nat) (a:Option Addr) (c nl:Nat) (L:List fU),e=.returned (.tuple #[.slice av nv cv,.slice a nl c])/\fZ w' a c L/\L.length=nl/\∀x∈L,Aj x
theorem VH (Q:Nat)(own:Own)(M:jv)(g:Int)(bn:Nat)(w:World)(h:eT w own Q M)(s:dH own w)(f:gD bn M)(hk1:-9223372036854775808<=g)(hk2:g<=9223372036854775807) :
 Calls Tryz.prog 44 #[.pointer (some ⟨Q,0,none⟩),.int .i64 g] w fun e b=>QD b e/\Below w.heap.size w b:=by
 obtain⟨v3,n,o⟩:=h.ls;obtain⟨v4,t,u⟩:=h.lw;have e5:=h.at_;have e6:=h.n;have e7:=h.ex;obtain⟨b1,b2⟩:=f.at_;obtain⟨b3,b4⟩:=f.n_;obtain⟨b5,b6⟩:=f.ex;have hls:=f.ls;have hlim:=f.lim
 by_cases v:M.ls.length=0
 ·obtain⟨bA,cp,rfl,p1,p2⟩:=o.form;have e1:=n;rw[v]at e1;clear h s f o u n t v;go_enter Tryz.func44,Tryz.ntmps44;go_wp2_with fail;go_ret2;exact⟨⟨none,0,0,none,0,0,[],rfl,fZ.nil _,rfl,aP⟩,af⟩
 ·have y:0<M.ls.length:=aO;have z:=l6 g y;obtain⟨L,l⟩:∃L,M.ls[pk g M.ls.length]?=some L:=⟨_,aD z⟩;have A:=di (fun W=>jo g M.ls.length W hk1 hk2 y aO);obtain⟨B,R⟩:=aJ (pk g M.ls.length);rw[R]at l A z;have C:=List.mem_of_getElem? l;have KS:=f.l L C;have S:=di (f.la L C);obtain⟨g3,c3,u3,rfl,q1,q2,o3,d3,T,m3⟩:=o.mO l;obtain⟨g4,c4,u4,rfl,q3,q4,o4,d4,U,m4⟩:=u.mO l;obtain⟨al,NI,hu3,D,_⟩:=T.Bz;obtain⟨p,k,SA,q,_⟩:=U.Bz;subst hu3 SA;have hkl:=D.le;have hkm:=D.max;have aeg:=q.max;have Wl:=q.le;obtain⟨at_,V⟩:=aJ (pk M.at_ (L.length+1));have aeH:at_<=L.length:=by have:=l6 M.at_ (n:=L.length+1) aO;omega
  obtain⟨a,X⟩:=aJ (pk M.n (L.length-at_+1));have Y:at_+a<=L.length:=by have:=l6 M.n (n:=L.length-at_+1) aO;omega
  obtain⟨Z,G8⟩:=aJ (pk M.ex (L.length-at_-a+1));have aev:at_+a+Z<=L.length:=by have:=l6 M.ex (n:=L.length-at_-a+1) aO;omega
  have jB:Hid (∀W,Calls Tryz.prog 37 #[.int .i64 M.at_,.int .i64 ((L.length:Int)+1)] W fun e b=>e=.returned (.int .i64 (at_:Nat))/\b=W):=fun W=>by
   have:=jo M.at_ (L.length+1) W b1 b2 aO aO;rw[V]at this;exact this
  have mi:Hid (∀W,Calls Tryz.prog 37 #[.int .i64 M.n,.int .i64 ((L.length:Int)-(at_:Int)+1)] W fun e b=>e=.returned (.int .i64 (a:Nat))/\b=W):=fun W=>by
   have:=jo M.n (L.length-at_+1) W b3 b4 aO aO;rw[X,show((L.length-at_+1:Nat):Int)=(L.length:Int)-(at_:Int)+1 by omega]at this;exact this
  have uM:Hid (∀W,Calls Tryz.prog 37 #[.int .i64 M.ex,.int .i64 ((L.length:Int)-(at_:Int)-(a:Int)+1)] W fun e b=>e=.returned (.int .i64 (Z:Nat))/\b=W):=fun W=>by
   have:=jo M.ex (L.length-at_-a+1) W b5 b6 aO aO;rw[G8,show((L.length-at_-a+1:Nat):Int)=(L.length:Int)-(at_:Int)-(a:Int)+1 by omega]at this;exact this
  have r:((L.drop at_).take a).length=a:=aQ;have E:∀x∈(L.drop at_).take a,Aj x:=fun x hx=>S.o x (List.mem_of_mem_drop (List.mem_of_mem_take hx))
  have F:Hid (Calls Tryz.prog 91 #[.slice (if k=at_ then p else p.map (fun x=>x.add (at_*4))) a (k-at_)] w fun e b=>(∃c d,e=.returned (.slice c a d)/\fZ b c d ((L.drop at_).take a))/\Below w.heap.size w b):=by
   refine(wu _ _ a ((L.drop at_).take a) w own (fun bg=>bg) (q.sub at_ a Y) r s (fun bg bB _ _ hij=>hij) aO (fun e he=>by have:=(E e he).Co;omega)).mono ?_;rintro e b ⟨h1,own',h2⟩;obtain⟨c,d,z1,z2,_⟩:=h2.lat.Bz;rw[z1,r]at h1;exact⟨⟨c,d,h1,z2⟩,h2.dG⟩
  have HDA:Hid (k=at_->Calls Tryz.prog 91 #[.slice p a 0] w fun e b=>(∃c d,e=.returned (.slice c a d)/\fZ b c d ((L.drop at_).take a))/\Below w.heap.size w b):=fun G=>by
   have:=F.o;rw[if_pos G,show k-at_=0 by omega]at this;exact this
  have HDB:Hid (¬k=at_->Calls Tryz.prog 91 #[.slice (p.map (fun x=>x.add (at_*4))) a (k-at_)] w fun e b=>(∃c d,e=.returned (.slice c a d)/\fZ b c d ((L.drop at_).take a))/\Below w.heap.size w b):=fun G=>by
   have:=F.o;rw[if_neg G]at this;exact this
  clear F;have iQ:Hid (∀W H I J c d,fZ W c d ((L.drop at_).take a)->QD W (.returned (.tuple #[.slice H I J,.slice c a d]))):=fun W H I J c d i=>⟨H,I,J,c,d,a,_,rfl,i,r,E⟩;have e3:=n;have e4:=t;obtain⟨bq,hN⟩:=aJ M.ls.length;rw[hN]at A z q1 q3 e3 e4 hls y;obtain⟨NL,CW⟩:=aJ L.length;rw[CW]at jB mi uM d3 d4 hkl Wl KS aeH Y aev;generalize M.at_=za at *;generalize M.n=zn at *;generalize M.ex=ze at *;generalize (L.drop at_).take a=L' at *;have hkk:(B:Int)<(bq:Int):=aO;clear h s f o u n t v T U m3 m4 l R C o3 o4 D q S r E hN CW V X G8;go_enter Tryz.func44,Tryz.ntmps44;go_wp2_with fail;refine(A.o _).mono ?_;rintro e N ⟨rfl,j⟩;subst j;go_wp2_with fail;refine(jB.o _).mono ?_;rintro e N ⟨rfl,j⟩;subst j;go_wp2_with fail;refine(mi.o _).mono ?_;rintro e N ⟨rfl,j⟩;subst j;go_wp2_with fail;refine(uM.o _).mono ?_;rintro e N ⟨rfl,j⟩;subst j;go_wp2_with fail
  case inl=>
   refine(HDA.o (by first|assumption|omega)).mono ?_;exact alU
  case inr=>
   refine(HDB.o (by first|assumption|omega)).mono ?_;exact alU
theorem Tryz.VU:(Tryz.prog.info? 75).map (fun i=>(i.zero,i.size,i.bytes))=some (some (.agg #[.pointer none,.pointer none]),2,16):=bL
def nD (x m:Nat):List Value:=[.pointer (some ⟨x,0,none⟩),.pointer (some ⟨m,0,none⟩)]
theorem O0 (w:World)(x m:Nat)(a:TypeId)(n:Nat)(b:n=w.heap.size):∀j u,(nD x m)[j]?=some u->((w.alloc (.cells #[.pointer (some ⟨x,0,none⟩),.pointer (some ⟨m,0,none⟩)] a)).drew).cell? ((⟨n,0,none⟩:Addr).add j)=some u:=by
 subst b;exact fun j u h=>qa w (nD x m) a j u h
theorem Vl (x m:Nat):∀u∈nD x m,u.oneCell'=true:=by
 intro u a;simp only[nD,List.mem_cons,List.not_mem_nil,or_false]at a;rcases a with rfl|rfl<;>rfl
theorem dE.new {own:Own}:dE (w.alloc (.cells #[.slice none 0 0,.slice none 0 0,.slice none 0 0,.slice none 0 0] 83)) (dw own w.heap.size n) n w.heap.size Doc.dB.empty:=
 ⟨aiN,⟨#[.slice none 0 0,.slice none 0 0,.slice none 0 0,.slice none 0 0],by first|(simp;done)|(simp[World.heap_alloc];done)|(show(w.heap.push _)[w.heap.size]?=_;rw[Array.getElem?_push_size])⟩,fun o=>aP,⟨.slice none 0 0,aP,dN.nil _ _ _ _ _ _⟩,⟨.slice none 0 0,aP,dN.nil _ _ _ _ _ _⟩,⟨.slice none 0 0,aP,dN.nil _ _ _ _ _ _⟩,⟨.slice none 0 0,aP,dN.nil _ _ _ _ _ _⟩⟩
theorem SG {own:Own}(h:dN w own n 3 1 (xP w own) v l):dY w v l:=
 fA.imp h.sl fun g i hi a f=>by
  obtain⟨c,_,b,d⟩:=a.2 hi;have e:c=[.int .i64 (l[i]:Nat)]:=b;subst e;have:=d 0 _ aO rfl;simpa using this
theorem eT.ZP {own:Own}(h:eT w own n L)(a:uA w W own O n 0 3 v)(x:dN W O 3 75 2 Cn v (L.dM++[(m,k,Doc.dB.empty)]))(y:dA w own (4*L.dM.length+2) m Doc.dB.empty)(z:dE w own (4*L.dM.length+4) k Doc.dB.empty):eT W O n { L with dM:=L.dM++[(m,k,Doc.dB.empty)] }:=by
 obtain⟨Q,A,B,C,D,E⟩:=h.parts (w2:=W) (own':=O) (fun o=>o=1\/o=3) (fun c d F=>a.keep c d F);obtain⟨f,g,R⟩:=h.words;obtain⟨j,l,T⟩:=h.reg;obtain⟨p,q,U⟩:=h.ls;obtain⟨r,t,V⟩:=h.lw;obtain⟨G,H⟩:=h.obj;obtain⟨I,J⟩:=a.iE h.iE h.g0 aO;have u:∀s e i,¬(eO s e i=1\/eO s e i=3):=fun s e i=>by have:=iP s e i;omega
 refine⟨aj7,a.type G _ H,fun o=>(a.frozen o).trans (h.fr o),⟨v,a.cell,x⟩,⟨f,(a.cells 1 aO).trans g,A aO f g⟩,⟨j,(a.cells 2 aO).trans l,B aO aO j l⟩,⟨p,(a.cells 3 aO).trans q,C aO (u 0) p q⟩,⟨r,(a.cells 4 aO).trans t,D aO (u 1) r t⟩,(a.cells 5 aO).trans h.at_,(a.cells 6 aO).trans h.n,(a.cells 7 aO).trans h.ex,fun i K M S b=>?_,I,J⟩
 by_cases hi:i<L.dM.length
 ·rw[List.getElem?_append_left hi]at b;exact E aO i K M S aO aO b
 ·have N:i=L.dM.length:=by
   have:=(List.getElem?_eq_some_iff.1 b).1;simp at this;exact aO
  subst N;rw[List.getElem?_append_right aO]at b;simp at b;obtain⟨rfl,rfl,rfl⟩:=b;exact⟨y.step (fun c d P=>a.keep c d aO),z.step (fun c d P=>a.keep c d aO)⟩
def qV (kd:Int)(e:Ending):Prop:=∃b:Bool,e=.returned (.bool b)/\(kd≠3->kd≠4->b=true)
theorem qV.tt (a:Int):qV a (.returned (.bool true)):=⟨true,rfl,fun _ _=>rfl⟩
theorem RY {S:Doc.dB}(a:Doc.fQ S):(Doc.print S).length<=90000:=by
 have h:=uj a S.levels 0 0;have:=a.rY;unfold Doc.print;exact aO
structure Ctx (w W1:World)(own:Own)(wb n:Nat)(M:jv)(k x m:Nat)(S:Doc.dB):Prop where
 law:eT W1 own wb M
 fresh:dH own W1
 dG:Below w.heap.size w W1
 b:gD n M
 lim:n+1<=100000
 dM:M.dM[k]?=some (x,m,S)
theorem Ctx.wf {own:Own}{n:Nat}{S:Doc.dB}(c:Ctx w W own m n L k i j S):Doc.fQ S:=c.b.wf _ (List.mem_of_getElem? c.dM)
theorem Ctx.more {own:Own}{S:Doc.dB}(c:Ctx w W own n m L k i j S)(a:Below W.heap.size W u):Ctx w u own n m L k i j S:=
 ⟨c.law.up a,c.fresh.up a,c.dG.trans (a.mono c.dG.size),c.b,c.lim,c.dM⟩
theorem Ctx.same {own:Own}{S:Doc.dB}(c:Ctx w W own n m L k i j S)(h:eT w own n L)(a:dH own w):ic w W own n (m+1):=⟨L,c.b.mono aO c.lim,gJ.below h a c.dG⟩
theorem Ctx.command {own:Own}{S:Doc.dB}(c:Ctx w W own n m L k i j S){g o:Nat}(d:own g=3)(f:W.cell? ⟨g,o,none⟩=some (.pointer (some ⟨i,0,none⟩)))(h:W.cell? ⟨g,o+1,none⟩=some (.pointer (some ⟨j,0,none⟩)))(l:List UInt8)(a:Int)(p:l.length<=1000000) :
 Calls Tryz.prog 40 #[.pointer (some ⟨n,0,none⟩),.pointer (some ⟨g,o,none⟩),.string ⟨l.toArray⟩,.int .i64 a,.bool false] W fun e b=>e=.returned (.bool true)/\ic w b own n (m+1):=by
 refine(Ng n g o k i j own L S l a W c.law c.fresh c.dM c.wf p d f h).mono ?_;rintro e b ⟨rfl,s,q,r⟩;exact⟨rfl,_,(c.b.ZA q).mono aO c.lim,r.from c.dG⟩
theorem Ctx.word {own:Own}{S:Doc.dB}(c:Ctx w W own n m L k i j S)(y:List UInt8)(b:y.length<=90000) :
 Calls Tryz.prog 48 #[.pointer (some ⟨n,0,none⟩),.string ⟨y.toArray⟩] W fun e a=>e=.returned (.tuple #[])/\ic w a own n (m+1):=by
 refine(GX n own L y W c.law c.fresh (by have:=c.b.words;have:=c.lim;omega)).mono ?_;rintro e a ⟨rfl,d⟩;exact⟨rfl,_,c.b.NQ c.lim b,d.from c.dG⟩
theorem Ctx.print {own:Own}{S:Doc.dB}(c:Ctx w W own n m L k i j S) :
 Calls Tryz.prog 19 #[.pointer (some ⟨i,0,none⟩)] W fun e a=>e=.returned (.string ⟨(Doc.print S).toArray⟩)/\Below W.heap.size W a:=
 Eh i (4*k+2) own S W (c.law.dM k i j S c.dM).1 c.fresh aO c.wf c.law.iE
theorem Ctx.aaz {own:Own}{S:Doc.dB}(c:Ctx w W own n m L k i j S) :
 Calls Tryz.prog 47 #[.pointer (some ⟨j,0,none⟩)] W fun e a=>e=.returned (.string ⟨(Doc.print S).toArray⟩)/\Below W.heap.size W a:=
 Qz j (4*k+4) own S W (c.law.dM k i j S c.dM).2 c.wf
theorem Ctx.depth {own:Own}{S:Doc.dB}(c:Ctx w W own n m L k i j S) :
 Calls Tryz.prog 49 #[.pointer (some ⟨i,0,none⟩)] W fun e a=>e=.returned (.int .i64 S.levels.length)/\a=W:=OQ i (4*k+2) own S W (c.law.dM k i j S c.dM).1
theorem Ctx.held {own:Own}{S:Doc.dB}(c:Ctx w W own n m L k i j S) :
 Calls Tryz.prog 50 #[.pointer (some ⟨i,0,none⟩)] W fun e a=>e=.returned (.int .i64 S.held.length)/\a=W:=RF i (4*k+2) own S W (c.law.dM k i j S c.dM).1
theorem Ctx.long {own:Own}{S:Doc.dB}(c:Ctx w W own n m L k i j S)(o:iK)(a:pX o) :
 Calls Tryz.prog 36 #[.pointer (some ⟨n,0,none⟩),.agg #[.int .i64 o.kind,.int .i64 o.a,.int .i64 o.b,.int .i64 o.c,.string ⟨o.s.toArray⟩,.string ⟨o.t.toArray⟩]] W fun e b=>I5 e/\Below W.heap.size W b:=
 J7 n own L o W c.law a c.b.word (by have:=c.b.words;have:=c.lim;omega)
theorem Ctx.adV {own:Own}{S:Doc.dB}(c:Ctx w W own n m L k i j S)(z:Int)(b:-9223372036854775808<=z)(d:z<=9223372036854775807) :
 Calls Tryz.prog 44 #[.pointer (some ⟨n,0,none⟩),.int .i64 z] W fun e a=>QD a e/\Below W.heap.size W a:=VH n own L z m W c.law c.fresh c.b b d
theorem Ctx.holds {own:Own}{S:Doc.dB}(c:Ctx w W own n m L k i j S)(d:Option Addr)(e f:Nat)(a:List fU)(h:fZ W d e a)(l:a.length=f)(g:∀i∈a,Aj i) :
 Calls Tryz.prog 46 #[.pointer (some ⟨j,0,none⟩),.slice d f e] W fun o p=>TV o/\Below W.heap.size W p:=
 QA j (4*k+4) own S d e f a W (c.law.dM k i j S c.dM).2 c.wf h l (fun i b=>⟨(g i b).val,(g i b).args⟩) (fun i b=>(g i b).sym)
theorem Ctx.fields {own:Own}{S:Doc.dB}(h:Ctx w W own n m L k i j S):∃c b l d,∀a,Below W.heap.size W a->a.cell? ⟨j,2,none⟩=some (.slice c S.held.length b)/\a.cell? ⟨j,3,none⟩=some (.slice l S.levels.length d)/\S.held.length<=b/\b<=2 ^ 63-1/\S.levels.length<=d/\d<=2 ^ 63-1/\
 ∀y:List UInt8,y.length<=90000->Calls Tryz.prog 43 #[.pointer (some ⟨j,0,none⟩),.slice c S.held.length b,.string ⟨y.toArray⟩] a fun p q=>gL p/\Below a.heap.size a q:=by
 have e:=(h.law.dM k i j S h.dM).2;obtain⟨C,r,o⟩:=e.held;obtain⟨D,s,t⟩:=e.levels;have u:=SG o;obtain⟨c,b,rfl,v,x⟩:=o.form;obtain⟨l,d,rfl,z,A⟩:=t.form;refine⟨c,b,l,d,fun a g=>⟨(g.cell (p:=⟨j,2,none⟩) e.lt).trans r,(g.cell (p:=⟨j,3,none⟩) e.lt).trans s,v,x,z,A,fun y B=>?_⟩⟩;have f:=h.wf;exact Nl j S.held.length b c S.terms S.held y a (e.book.terms.below g) (u.below g) rfl (by have:=f.pE;omega) (by have:=f.book.many;omega) (zl f.book) (GU f.book) (Qv f.book) B
theorem step1 (b:Nat)(own:Own)(M:jv)(y z A:Int)(B C:List UInt8)(D:Nat)(w:World)(E:eT w own b M)(hfr:dH own w)(F:gD D M)(hn:D+1<=100000)(I:pX ⟨1,y,z,A,B,C⟩) :
 Calls Tryz.prog 21 #[.pointer (some ⟨b,0,none⟩),.agg #[.int .i64 1,.int .i64 y,.int .i64 z,.int .i64 A,.string ⟨B.toArray⟩,.string ⟨C.toArray⟩],.bool false] w fun m w'=>m=.returned (.bool true)/\ic w w' own b (D+1):=by
 obtain⟨⟨uD,uC⟩,⟨mR,qd⟩,⟨xg,xe⟩,hos,hot⟩:=id I;simp only at uD uC mR qd xg xe hos hot;obtain⟨e,Q⟩:∃e,w.alloc (.cells #[.int .i64 1,.int .i64 y,.int .i64 z,.int .i64 A,.string ⟨B.toArray⟩,.string ⟨C.toArray⟩] 33)=e:=⟨_,rfl⟩;have s:Below w.heap.size w e:=by rw[<-Q];exact af.alloc ae _
 have hsz1:w.heap.size<e.heap.size:=by rw[<-Q];simp
 have j:=E.up s;have R:=hfr.up s;have pM:=j.lt;have xQ:=E.lt;have HB1:=di s
 have S:Hid (∀W,Below e.heap.size e W->W.cell? ⟨w.heap.size,0,none⟩=some (.int .i64 1)/\W.cell? ⟨w.heap.size,1,none⟩=some (.int .i64 y)/\W.cell? ⟨w.heap.size,2,none⟩=some (.int .i64 z)/\W.cell? ⟨w.heap.size,3,none⟩=some (.int .i64 A)/\W.cell? ⟨w.heap.size,4,none⟩=some (.string ⟨B.toArray⟩)/\W.cell? ⟨w.heap.size,5,none⟩=some (.string ⟨C.toArray⟩)):=fun W f=>by
  have q:∀J,W.cell? ⟨w.heap.size,J,none⟩=e.cell? ⟨w.heap.size,J,none⟩:=fun J=>f.cell (p:=⟨w.heap.size,J,none⟩) hsz1;rw[q,q,q,q,q,q,<-Q];exact aP
 obtain⟨f0,f1,f2,f3,f4,f5⟩:=S.o e af;have HO:=di (R6 b own M 1 y z A B C D e j R F hn I aO);obtain⟨i0,hi,hz0,hz1,hz2⟩:=info_parts Tryz.VU;have hls:M.dM.length<=100000:=by have:=F.dM;have:=F.lim;omega
 obtain⟨v0,n,t⟩:=j.s;obtain⟨p,g,rfl,p1,p2⟩:=t.form
 have HST:Hid (∀c a,Below e.heap.size e c->Below c.heap.size c a->a.heap.size=c.heap.size+1->dA a (dw own c.heap.size (4*M.dM.length+2)) (4*M.dM.length+2) c.heap.size Doc.dB.empty->
  ∃o:Own,eT (a.alloc (.cells #[.slice none 0 0,.slice none 0 0,.slice none 0 0,.slice none 0 0] 83)) o b M/\dH o (a.alloc (.cells #[.slice none 0 0,.slice none 0 0,.slice none 0 0,.slice none 0 0] 83))/\Below w.heap.size w (a.alloc (.cells #[.slice none 0 0,.slice none 0 0,.slice none 0 0,.slice none 0 0] 83))/\(∀d,d<w.heap.size->o d=own d)/\dA (a.alloc (.cells #[.slice none 0 0,.slice none 0 0,.slice none 0 0,.slice none 0 0] 83)) o (4*M.dM.length+2) c.heap.size Doc.dB.empty/\dE (a.alloc (.cells #[.slice none 0 0,.slice none 0 0,.slice none 0 0,.slice none 0 0] 83)) o (4*M.dM.length+4) a.heap.size Doc.dB.empty):=fun c a r G K hp=>by
  have hs2:=r.size;have u:Below a.heap.size a (a.alloc (.cells #[.slice none 0 0,.slice none 0 0,.slice none 0 0,.slice none 0 0] 83)):=ag;have xR:Below e.heap.size e a:=r.trans (G.mono hs2);have T:=xR.trans (u.mono aO);have hsm:=u.size
  have hx:∀d,d<c.heap.size->dw (dw own c.heap.size (4*M.dM.length+2)) a.heap.size (4*M.dM.length+4) d=own d:=fun d f=>by
   unfold dw;rw[if_neg aO,if_neg aO]
  refine⟨dw (dw own c.heap.size (4*M.dM.length+2)) a.heap.size (4*M.dM.length+4),j.keep (fun d f=>⟨T.block d f,hx d aO⟩) (j.iE.ed (fun d _ hlt=>T.block d hlt)),fun d f=>?_,s.trans (T.mono s.size),fun d f=>hx d aO,?_,dE.new⟩
  ·simp at f;unfold dw;rw[if_neg aO,if_neg aO];exact R d aO
  ·refine hp.step (fun d f I=>⟨u.block d f,?_⟩);rw[show dw (dw own c.heap.size (4*M.dM.length+2)) a.heap.size (4*M.dM.length+4) d=dw own c.heap.size (4*M.dM.length+2) d by unfold dw;rw[if_neg aO]]
 have uf:Hid (∀W,Below e.heap.size e W->W.cell? ⟨b,0,none⟩=some (.slice p M.dM.length g)/\W.frozen? ⟨b,0,none⟩=false):=fun W f=>⟨(f.cell (p:=⟨b,0,none⟩) pM).trans n,(f.frozen (p:=⟨b,0,none⟩) pM).trans (j.fr 0)⟩;have YW:=di F;obtain⟨N,hN⟩:=aJ M.dM.length;have i:=di hN;clear E hfr F I j R s t n;go_enter Tryz.func21,Tryz.ntmps21;go_wp2_with fail;refine HO.o.mono ?_;rintro m c ⟨rfl,r⟩;obtain⟨r0,r1,r2,r3,r4,r5⟩:=S.o c r;have U:=di r;have hs2:=r.size;clear r;go_wp2_with fail;refine(NY (4*M.dM.length+2) own c).mono ?_;rintro m a ⟨rfl,G,K,hp3⟩;have D8:Hid (Below e.heap.size e a):=U.o.trans (G.mono U.o.size);obtain⟨V,z0⟩:=uf.o a D8.o;obtain⟨o,H,hF,X,hX,Y,Z⟩:=HST.o c a U.o G K hp3;obtain⟨h,hwm⟩:∃h,a.alloc (.cells #[.slice none 0 0,.slice none 0 0,.slice none 0 0,.slice none 0 0] 83)=h:=⟨_,rfl⟩;rw[hwm]at H hF X Y Z;have adX:h.heap.size=a.heap.size+1:=by rw[<-hwm];simp
 have u:Below a.heap.size a h:=by rw[<-hwm];exact af.alloc ae _
 have hlt3:b<a.heap.size:=aO;have Wh:b<h.heap.size:=aO;have em:h.cell? ⟨b,0,none⟩=some (.slice p M.dM.length g):=(u.cell (p:=⟨b,0,none⟩) hlt3).trans V;have zm:h.frozen? ⟨b,0,none⟩=false:=(u.frozen (p:=⟨b,0,none⟩) hlt3).trans z0;obtain⟨v0,n,t⟩:=H.s;rw[em]at n;injection n with n
 subst n;have kH:=di t;obtain⟨xs,x1,x2,x3,x4⟩:=id t;have rq:=di x1;have H9:=di (show _/\_/\_ from⟨x1,x2,x3⟩)
 have ku:Hid (∀q,(Value.slice p M.dM.length g).ownBlock=some q->q≠b):=fun q hq hc=>by
  have j:=x4 q hq;rw[hc,H.mine]at j;exact aO
 have HW:=di H;have HFm:=di hF;have HBw:=di X;have HXo:=di hX;have HPs:=di Y;have HSt:=di Z;have HEM:=di em;have HZM:=di zm;have nV:=di K
 have LZ:Hid (∀(k v:Nat) (l L:World),Below h.heap.size h L->l.ownsRow 0 75 2 (.slice (some ⟨k,0,none⟩) (N+1) v) (N+1) (xs.flatten++nD c.heap.size a.heap.size)->L.grownBy l (Value.slice p N g).ownBlock->((Value.slice p N g).ownBlock=some k\/L.heap.size<=k)->ic w (l.setCell ⟨b,0,none⟩ (.slice (some ⟨k,0,none⟩) (N+1) v)) own b (D+1)):=fun k v l L hbx O x P=>by
  have hap:=tJ (f:=0) (r:=3) (n:=N+1) kH.o HFm.o HW.o.mine aO Wh hbx HEM.o O (by rw[i.o];exact x) (by rw[i.o];exact P);have h9:=dN.snoc (own':=dw o k 3) (k:=3) (D:=Cn) (a:=(c.heap.size,a.heap.size,Doc.dB.empty)) (c:=nD c.heap.size a.heap.size) (g:=k) (cap:=v) H9.o (by rw[i.o];exact hap.2) (fun _ _ E=>E) rfl rfl aiv;rw[i.o]at h9;exact⟨_,YW.o.aai hn,(gJ.JO hap.1 aO (HW.o.ZP hap.1 h9 HPs.o HSt.o)).Qd HBw.o HXo.o⟩
 have aeY:Hid (h.ownsRow 0 75 2 (.slice p N g) N xs.flatten):=by rw[<-i.o];exact rq.o
 have acu:Hid (∀q,(Value.slice p N g).ownBlock=some q->q≠b):=by rw[<-i.o];exact ku.o
 have em':h.cell? ⟨b,0,none⟩=some (.slice p N g):=by rw[<-i.o];exact HEM.o
 have e0':a.cell? ⟨b,0,none⟩=some (.slice p N g):=by rw[<-i.o];exact V
 have afY:=di em';have hN1:N+1<=1000000:=by rw[<-i.o];omega
 have hpN:N<=g:=by rw[<-i.o];exact p1
 clear H hF X hX Y Z t x1 x2 x3 x4 G hp3 hN K adX V em HW HFm HBw HXo HPs HSt HEM kH H9 HST YW rq ku uf HO S p1 hls;go_wp2_with (at_builtin;refine dD rfl (.tmp 40) (.tmp 45) 44 rfl 0 75 i0 (.agg #[.pointer none,.pointer none]) 2 16 Tryz.underlying44 hi hz0 hz1 hz2 rfl aR (.slice p N g) N xs.flatten rfl (by exact aeY.o.alloc _) ⟨h.heap.size,0,none⟩ 1 (nD c.heap.size a.heap.size) rfl rfl (by exact O0 _ _ _ _ _ rfl) (Vl _ _) aX aO aP ?_;intro k v l O x hg1 P;have y1:l.cell? ⟨b,0,none⟩=some (.slice p N g):=((dP x (a:=⟨b,0,none⟩) aQ (fun m=>acu.o b m.symm rfl)).trans (dC _ _ _ Wh)).trans afY.o;have y2:l.frozen? ⟨b,0,none⟩=false:=((dS x (a:=⟨b,0,none⟩) aQ (fun m=>acu.o b m.symm rfl)).trans (dI _ _ _ Wh)).trans HZM.o;have iQ:=di (LZ.o k v l _ (ag) O x P);clear O x hg1 P);go_ret;exact⟨rfl,iQ.o⟩
end Go.Proofs.YtbichedkajfmiaaGreatDoor
