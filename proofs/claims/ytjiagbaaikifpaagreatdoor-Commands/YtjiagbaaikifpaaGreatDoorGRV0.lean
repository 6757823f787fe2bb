import Derived.Test.YtjiagbaaikifpaaGreatDoorGPS10
import Derived.Test.YtjiagbaaikifpaaGreatDoorGRef21
import Derived.Test.YtjiagbaaikifpaaGreatDoorGWfX
set_option maxRecDepth 100000
set_option maxHeartbeats 16000000
namespace Go.Proofs.YtjiagbaaikifpaaGreatDoor
open Go.RowKit Go.Proofs.Tryz
variable {W u w:World}{X:fB}{a:eu}{c:List fU}{f:List Int}{k m n:Nat}{l:List Nat}{v:Value}{x:dN}{z:Int}
structure acy (w:World)(sb:Nat)(S:Doc.dO)(aS:eu)(cS:Nat)(aT:eu)(cT:Nat)(aH:eu)(cH:Nat)(aL:eu)(cL:Nat):Prop where
 lt:sb<w.heap.size
 c0:∀W,dB w W->W.cell? (dA sb 0)=some (.slice aS S.syms.length cS)
 c1:∀W,dB w W->W.cell? (dA sb 1)=some (.slice aT S.terms.length cT)
 c2:∀W,dB w W->W.cell? (dA sb 2)=some (.slice aH S.held.length cH)
 c3:∀W,dB w W->W.cell? (dA sb 3)=some (.slice aL S.levels.length cL)
 l0:S.syms.length<=cS/\cS<=2 ^ 63-1
 l1:S.terms.length<=cT/\cT<=2 ^ 63-1
 l2:S.held.length<=cH/\cH<=2 ^ 63-1
 l3:S.levels.length<=cL/\cL<=2 ^ 63-1
 sym:∀i x,S.syms[i]?=some x->∃g,aS=some (dA g 0)/\g<w.heap.size/\∃aA cA,x.args.length<=cA/\cA<=2 ^ 63-1/\∀W,dB w W->W.cell? (dA g (i*3))=some (dD x.name)/\W.cell? (dA g (i*3+1))=some (.slice aA x.args.length cA)/\W.cell? (dA g (i*3+2))=some (dw x.sort)/\eX W (.slice aA x.args.length cA) x.args
 term:∀i t,S.terms[i]?=some t->∃g,aT=some (dA g 0)/\g<w.heap.size/\∃aA cA,t.args.length<=cA/\cA<=2 ^ 63-1/\∀W,dB w W->W.cell? (dA g (i*5))=some (dD t.text)/\W.cell? (dA g (i*5+1))=some (dw t.op)/\W.cell? (dA g (i*5+2))=some (dw t.sort)/\W.cell? (dA g (i*5+3))=some (dw t.sym)/\W.cell? (dA g (i*5+4))=some (.slice aA t.args.length cA)/\eX W (.slice aA t.args.length cA) t.args
 held:∀i n,S.held[i]?=some n->∃g,aH=some (dA g 0)/\g<w.heap.size/\∀W,dB w W->W.cell? (dA g i)=some (dw (n:Nat))
 Bg:∀i l,S.levels[i]?=some l->∃g,aL=some (dA g 0)/\g<w.heap.size/\∀W,dB w W->W.cell? (dA g (i*3))=some (dw l.1)/\W.cell? (dA g (i*3+1))=some (dw l.2.1)/\W.cell? (dA g (i*3+2))=some (dw l.2.2)
theorem Hq (h:eX w v l):∃a c,v=.slice a l.length c/\l.length<=c/\c<=2 ^ 63-1:=by
 obtain⟨a,c,b,d,e,_⟩:=h;exact⟨a,c,b,d,e⟩
theorem ed.view {own:Own}{S:Doc.dO}(p:ed w own n m S):∃t u v x y z A B,acy w m S t u v x y z A B:=by
 have P:=p.lt;have bk:=p.book;obtain⟨v0,Q,J⟩:=p.syms;obtain⟨v1,R,K⟩:=p.terms;obtain⟨v2,T,L⟩:=p.held;obtain⟨v3,U,M⟩:=p.levels;obtain⟨t,u,rfl,V,X⟩:=J.form;obtain⟨v,x,rfl,Y,Z⟩:=K.form;obtain⟨y,z,rfl,q21,q22⟩:=L.form;obtain⟨A,B,rfl,q31,q32⟩:=M.form;have c:∀{N:Addr} {O:Value},w.cell? N=some O->∀W,dB w W->W.cell? N=some O:=λf W a=>(a.cell (aj f)).trans f;refine⟨t,u,v,x,y,z,A,B,P,c Q,c R,c T,c U,⟨V,X⟩,⟨Y,Z⟩,⟨q21,q22⟩,⟨q31,q32⟩,λi bg g=>?_,λi bn ht=>?_,λi bq hn=>?_,λi bA hl=>?_⟩
 ·obtain⟨hi,g⟩:=aG g;obtain⟨C,D,d,_,_,h⟩:=J.sl;injection d with d _ _
  subst d;obtain⟨j,k,_,f⟩:=h i hi;obtain⟨q,_,l,b⟩:=f hi;obtain⟨av,rfl,o⟩:=l;rw[g]at b o;obtain⟨E,F,rfl,G,H⟩:=Hq o.ints;have e:=b 0 _ aR rfl;have r:=b 1 _ aR rfl;have s:=b 2 _ aR rfl;exact⟨j,k,aj e,E,F,G,H,λW a=>⟨c e W a,c r W a,c s W a,o.ints.below a⟩⟩
 ·obtain⟨hi,g⟩:=aG ht;obtain⟨C,D,d,_,_,h⟩:=K.sl;injection d with d _ _
  subst d;obtain⟨j,k,_,f⟩:=h i hi;obtain⟨q,_,l,b⟩:=f hi;obtain⟨av,rfl,o⟩:=l;rw[g]at b o;obtain⟨E,F,rfl,G,H⟩:=Hq o.ints;have e:=b 0 _ aR rfl;have r:=b 1 _ aR rfl;have s:=b 2 _ aR rfl;have d3:=b 3 _ aR rfl;have d4:=b 4 _ aR rfl;exact⟨j,k,aj e,E,F,G,H,λW a=>⟨c e W a,c r W a,c s W a,c d3 W a,c d4 W a,o.ints.below a⟩⟩
 ·obtain⟨hi,g⟩:=aG hn;obtain⟨C,D,d,_,_,h⟩:=L.sl;injection d with d _ _
  subst d;obtain⟨j,k,_,f⟩:=h i hi;obtain⟨q,_,l,b⟩:=f hi;have I:q=[dw (S.held[i]:Int)]:=l;subst I;have e:=b 0 _ aR rfl;rw[show i*1+0=i by omega,g]at e;exact⟨j,k,aj e,λW a=>c e W a⟩
 ·obtain⟨hi,g⟩:=aG hl;obtain⟨C,D,d,_,_,h⟩:=M.sl;injection d with d _ _
  subst d;obtain⟨j,k,_,f⟩:=h i hi;obtain⟨q,_,l,b⟩:=f hi;have I:q=[dw (S.levels[i].1:Int),dw (S.levels[i].2.1:Int),dw (S.levels[i].2.2:Int)]:=l;subst I;rw[g]at b;have e:=b 0 _ aR rfl;have r:=b 1 _ aR rfl;have s:=b 2 _ aR rfl;exact⟨j,k,aj e,λW a=>⟨c e W a,c r W a,c s W a⟩⟩
def BA (S:Doc.dO)(q f0 f2:Nat)(y:dN):Prop:=(q<=S.levels.length/\AL S q f0 f2 y)\/(q=S.levels.length+1/\y=Doc.print S)
theorem BA.cd {S:Doc.dO}(h:AL S n m k x)(u:n<=S.levels.length)(i:Doc.iq S) :
 ∃c d:Nat,((n<S.levels.length/\∃b,S.levels[n]?=some (c,b,d))\/(n=S.levels.length/\c=S.syms.length/\d=S.held.length))/\m<=c/\c<=S.syms.length/\k<=d/\d<=S.held.length/\
  BA S (n+1) c d (x++(Doc.part S m k c d++(if n<S.levels.length then Doc.su else []))):=by
 by_cases a:n<S.levels.length
 ·obtain⟨l,e⟩:∃l,S.levels[n]?=some l:=⟨_,aF a⟩;obtain⟨j,o,p,q,r⟩:=h.next i e;obtain⟨s,b,t⟩:=l;exact⟨s,t,.inl ⟨a,b,e⟩,j,p,o,q,.inl ⟨a,by rw[if_pos a];exact r⟩⟩
 ·have f:n=S.levels.length:=aR;have g:=h.text;rw[f,List.drop_length]at g;exact⟨S.syms.length,S.held.length,.inr ⟨f,rfl,rfl⟩,h.a,ae,h.b,ae,.inr ⟨aR,by rw[if_neg a,List.append_nil];exact g⟩⟩
theorem BA.len {S:Doc.dO}(h:BA S n m k x)(a:Doc.iq S):x.length<=100000:=by
 rcases h with ⟨_,h⟩|⟨_,rfl⟩
 ·exact h.len a
 ·have c:=wW a S.levels 0 0;have b:Doc.print S=Doc.mI S S.levels 0 0:=rfl;have:=a.ve;have:(S.levels.length+1)*14000<=5*14000:=Nat.mul_le_mul_right _ aR;rw[b];exact aR
theorem Y5 {a:List Doc.Term}{t:Doc.Term}(h:a[n]?=some t):Doc.gG a n=t.text:=by unfold Doc.gG;rw[h]
theorem UK (sb bg:Nat)(own:Own)(S:Doc.dO)(A:World)(hS:ed A own bg sb S)(o:Doc.iq S) :
 dH 48 #[dK sb 0] A λp P=>p=dF (dD (Doc.print S))/\dB A P:=by
 have hR:=gU;have Fv:=o.book.few;have hh12:=o.qR;have hl4:=o.ve;obtain⟨aS,cS,aT,cT,aH,cH,aL,cL,f⟩:=hS.view;have W:=dn f;obtain⟨m01,m02⟩:=f.l0;obtain⟨m11,m12⟩:=f.l1;obtain⟨m21,m22⟩:=f.l2;obtain⟨m31,m32⟩:=f.l3;have HW:=dn o;have HT:=dn o.book.long;have RO:=dn o.held;have FY:=dn f.c0;have lH:=dn f.c1;have X:=dn f.c2;have Q:=dn f.c3;have uG:Hid (BA S 0 0 0 []):=.inl ⟨aR,by simp[Doc.print],aR,aR,λbB _=>⟨aR,aR⟩⟩
 have Y:Hid (∀q b c y,BA S q b c y->q<=S.levels.length->∃d e:Nat,((q<S.levels.length/\∃l1,S.levels[q]?=some (d,l1,e))\/(q=S.levels.length/\d=S.syms.length/\e=S.held.length))/\b<=d/\d<=S.syms.length/\c<=e/\e<=S.held.length/\
  BA S (q+1) d e (y++(Doc.part S b c d e++(if q<S.levels.length then Doc.su else [])))):=λq b c y h hq=>by
  rcases h with ⟨_,h⟩|⟨h,_⟩
  ·exact BA.cd h hq HW.o
  ·exact aR
 have HLEN:Hid (∀q b c y,BA S q b c y->y.length<=100000):=λq b c y h=>h.len HW.o
 have agv:Hid (∀b c y,BA S (S.levels.length+1) b c y->y=Doc.print S):=λb c y h=>by
  rcases h with ⟨h,_⟩|⟨_,h⟩
  ·exact aR
  ·exact h
 have FP:Hid (∀a i,(((S.syms.take i).drop a).flatMap Doc.kS).length<=1000):=λa i=>by
  refine Nat.le_trans (pF Doc.kS 100 _ (λx G=>?_)) ?_
  ·rw[qb,List.length_append];have:=vR (o.book.syms x (Js G));exact aqm
  ·have:=yn S.syms a i;exact aR
 have HHL:Hid (∀u i,(((S.held.take i).drop u).flatMap (Doc.ji S.terms)).length<=12000):=λu i=>by
  refine Nat.le_trans (pF (Doc.ji S.terms) 1000 _ (λx _=>D5 o.book.long x)) ?_;have:=yn S.held u i;exact aR
 have zi:=dn o.book.syms;have Yu:Hid (Doc.su=[40,112,117,115,104,41,10]):=rfl;have HSN:=dn (λbn bq=>Ms bn bq);have ai1:=dn qc;obtain⟨NS,yR⟩:=aK S.syms.length;obtain⟨NT,uP⟩:=aK S.terms.length;obtain⟨NH,xC⟩:=aK S.held.length;obtain⟨L,hL⟩:=aK S.levels.length;generalize Doc.print S=res at *;have uI:=dn yR;have uT:=dn uP;have RL:=dn xC;have HNL:=dn hL;rw[yR]at Fv m01 FY Y;rw[uP]at m11 lH;rw[xC]at hh12 m21 X Y;rw[hL]at hl4 m31 Q Y agv;have hsb:=f.lt;clear f hS o yR uP xC hL;have H:=Q.o A af;go_enter func48,ntmps48;go_wp2_with fail;clear H
 go_loopw [3,4,5,6] (fun t a u i wr=>∃(q b c:Nat) (y:dN),i=dw q/\a=dw b/\u=dw c/\q<=L+1/\t=dD y/\BA S q b c y/\dB A wr) (fun _ _ _ i _=>L+1-(intOf i).toNat)
 ·exact⟨0,0,0,[],rfl,rfl,rfl,aR,rfl,uG.o,af⟩
 case round=>
  obtain⟨q,b,c,y,rfl,rfl,rfl,hq,rfl,hpr,g⟩:=hrel;have Dp:=dn hpr;have om:=dn g;have hyl:=HLEN.o _ _ _ _ hpr;have d0:=FY.o wr g;have d1:=lH.o wr g;have Z:=X.o wr g;have H:=Q.o wr g;clear hpr g
  by_cases hle:q<=L
  ·obtain⟨d,e,hcd,e1,e2,e3,e4,hnx⟩:=Y.o _ _ _ _ Dp.o hle;have jF:=dn hnx;clear hnx;have hqi:(q:Int)<=(L:Int):=aR
   go_upto_if 39 with fail
   go_cut [7,8] (fun x z wx=>x=dw (d:Nat)/\z=dw (e:Nat)/\wx=wr)
   case first=>
    rcases hcd with ⟨hlt,l1,hl⟩|⟨rfl,rfl,rfl⟩
    ·obtain⟨bA,rfl,_,I⟩:=W.o.Bg q _ hl;obtain⟨z0,z1,z2⟩:=I wr om.o;clear hl I;go_wp2;go_meet
     ·exact⟨rfl,rfl,rfl⟩
    ·go_wp2;go_meet
     ·exact⟨rfl,rfl,rfl⟩
   case rest=>
    obtain⟨rfl,rfl,hwc⟩:=hcut;have hwc':=hwc.symm;subst hwc';clear hwc d0 d1 Z H;have alQ:=dn hcd;have HC8:Hid (d<=S.syms.length):=by show _<=_;rw[uI.o];exact e2
    have aj1:Hid (e<=S.held.length):=by show _<=_;rw[RL.o];exact e4
    have c8:d<=8:=aR;have d12:e<=12:=aR;clear hcd;go_wp2_with fail
    go_loopw [3,4] (fun t a wr=>∃(m:Nat) (z:dN),a=dw m/\b<=m/\m<=d/\t=dD (y++z)/\z=((S.syms.take m).drop b).flatMap Doc.kS/\dB A wr) (fun _ a _=>d-(intOf a).toNat)
    ·exact⟨b,[],rfl,aR,e1,aW,by rw[EM];rfl,om.o⟩
    case round=>
     obtain⟨m,z,rfl,hfm,hmc,rfl,hz,g⟩:=hrel;rename World=>k;have HZ:=dn hz;have J:=dn g;have hzl:z.length<=1000:=by rw[hz];exact FP.o b m
     have NG:(y++z).length<=101000:=aoA;obtain⟨K,hu⟩:=aK (y++z);rw[hu]at NG ⊢;have HU:=dn hu;clear hz g hu
     by_cases hlt:m<d
     ·obtain⟨x,G⟩:∃x,S.syms[m]?=some x:=⟨_,aF (Nat.lt_of_lt_of_le hlt HC8.o)⟩;obtain⟨bA,rfl,hgl,M,w,k1,k2,I⟩:=W.o.sym m x G;have hwx:=zi.o x (List.mem_of_getElem? G);obtain⟨q0,q1,q2,_⟩:=I k J.o;have hbx:dB A (k.alloc (.cells #[dD x.name,.slice M x.args.length w,dw x.sort] 175)):=J.o.fO;have R:=dn (gF (I _ hbx).2.2.2);have qJ:=dn hbx;have d0:=FY.o k J.o;have hnl:=Ch hwx;have qB:=hwx.few;have abM:=dn (Ci G hfm);have T:=dn (qb x);have B:Hid (nI x=lY x++Doc.ig x.args++41::32::Doc.jc x.sort++[41]):=rfl;have HH:Hid (lY x=[40,100,101,99,108,97,114,101,45,102,117,110,32]++x.name++[32,40]):=by show _=_;simp[lY,Doc.iF]
      have af4:=dn (λbg=>Dx (x.args.take bg));obtain⟨r,oM⟩:=aK x.args.length;have U:=dn oM;rw[oM]at qB k1 q1 R qJ;have aeO:=qc x.sort;obtain⟨l,hargs⟩:=aK x.args;rw[hargs]at B af4 U R;obtain⟨s,hso⟩:=aK x.sort;rw[hso]at B q2 qJ R aeO;obtain⟨E,hnm⟩:=aK x.name;rw[hnm]at HH q0 hnl qJ R;obtain⟨bd,hbd⟩:=aK (nI x);rw[hbd]at B T;obtain⟨hd,hhd⟩:=aK (lY x);rw[hhd]at B HH;have hhl:hd.length<=30:=by rw[HH.o];simp;omega
      clear G hwx I hbx oM hargs hso hnm hbd hhd;go_wp2_with fail
      go_loopw [3,10] (fun t i wr=>∃(j:Nat) (v:dN),i=dw j/\j<=r/\t=dD v/\v=K++(hd++Doc.ig (l.take j))/\wr=k.alloc (.cells #[dD E,.slice M r w,dw s] 175)) (fun _ i _=>r-(intOf i).toNat)
      ·exact⟨0,_,rfl,aR,rfl,by rw[HH.o];simp[Doc.ig],rfl⟩
      case round=>
       obtain⟨j,v,rfl,hj,rfl,f,hwr⟩:=hrel;rename World=>N;subst hwr;have O:=dn f
       have hvl:v.length<=110000:=by
        have h2:=af4.o j;have h3:(l.take j).length<=2:=by rw[List.length_take,U.o];omega
        rw[f];simp only[List.length_append];exact aR
       clear f
       by_cases hjl:j<r
       ·obtain⟨n,hn⟩:∃n,l[j]?=some n:=⟨_,aF (by rw[U.o];exact hjl)⟩;obtain⟨ga,rfl,r1⟩:=R.o j n hn;have V:=dn (HSN.o n (k.alloc (.cells #[dD E,dJ ga r w,dw s] 175)));have hnn:=ai1.o n;have uF:Hid (l.take (j+1)=l.take j++[n]):=by show _=_;rw[List.take_add_one,hn];rfl
        have af5:=dn (GZ n (l.take j));have mP:Hid (0<j->l.take j≠[]):=λh0 p=>by have:=congrArg List.length p;rw[List.length_take,U.o]at this;simp at this;omega
        have nS:Hid (j=0->Doc.ig (l.take j++[n])=Doc.jc n):=λh0=>by rw[h0];rfl
        have FR:Hid (j=0->Doc.ig (l.take j)=[]):=λh0=>by rw[h0];rfl
        obtain⟨sn,F⟩:=aK (Doc.jc n);rw[F]at hnn af5 nS;have Je:Hid (dH 109 #[dw n] (k.alloc (.cells #[dD E,dJ ga r w,dw s] 175)) λp P=>p=dF (dD sn)/\P=(k.alloc (.cells #[dD E,dJ ga r w,dw s] 175))):=by rw[<-F];exact V.o
        clear hn F V
        by_cases hj0:j=0
        ·have ai5:=dn (nS.o hj0);have ai6:=dn (FR.o hj0);subst hj0;go_wp2_with fail;refine Je.o.mono ?_;rintro p w3 ⟨rfl,rfl⟩;go_wp2;go_roundw
         ·exact⟨1,_,bL,aR,rfl,by rw[O.o,uF.o,ai5.o,ai6.o];simp,by trivial⟩
         ·exact aph
        ·have ai2:=dn (af5.o (mP.o aR));have hj1:0<(j:Int):=aR;go_wp2_with fail;refine Je.o.mono ?_;rintro p w3 ⟨rfl,rfl⟩;go_wp2;go_roundw
         ·exact⟨j+1,_,bL,aR,rfl,by rw[O.o,uF.o,ai2.o];simp,by trivial⟩
         ·exact aph
       ·have rF:Hid (l.take j=l):=by show _=_;rw[List.take_of_length_le];rw[U.o];omega
        have V:=dn (HSN.o s (k.alloc (.cells #[dD E,.slice M r w,dw s] 175)));obtain⟨sn,F⟩:=aK (Doc.jc s);rw[F]at aeO B;have Je:Hid (dH 109 #[dw s] (k.alloc (.cells #[dD E,.slice M r w,dw s] 175)) λp P=>p=dF (dD sn)/\P=(k.alloc (.cells #[dD E,.slice M r w,dw s] 175))):=by rw[<-F];exact V.o
        clear F V;go_wp2_with fail;refine Je.o.mono ?_;rintro p w3 ⟨rfl,rfl⟩;go_wp2;go_roundw
        ·exact⟨m+1,z++(bd++[10]),bL,aR,aR,by congr 1;congr 1;congr 1;rw[O.o,rF.o,B.o,<-HU.o];simp,by rw[abM.o,List.flatMap_append,HZ.o];simp[T.o],qJ.o⟩
        ·exact aph
     ·have HZC:Hid (z=((S.syms.take d).drop b).flatMap Doc.kS):=by show _=_;rw[HZ.o,show m=d by omega]
      have Z:=X.o k J.o;have H:=Q.o k J.o;go_wp2_with fail;clear Z H
      go_loopw [3,5] (fun t u wr=>∃(m:Nat) (C:dN),u=dw m/\c<=m/\m<=e/\t=dD (K++C)/\C=((S.held.take m).drop c).flatMap (Doc.ji S.terms)/\dB A wr) (fun _ u _=>e-(intOf u).toNat)
      ·exact⟨c,[],rfl,aR,e3,aW,by rw[EM];rfl,J.o⟩
      case round=>
       obtain⟨n,C,rfl,hfn,hnd,rfl,hr,g⟩:=hrel;rename World=>N;have HRR:=dn hr;have D:=dn g;have hrl:C.length<=12000:=by rw[hr];exact HHL.o c n
       have hvl:(K++C).length<=120000:=aoA;obtain⟨v,f⟩:=aK (K++C);rw[f]at hvl ⊢;have O:=dn f;clear hr g f
       by_cases hlt2:n<e
       ·obtain⟨h,hh⟩:∃h,S.held[n]?=some h:=⟨_,aF (Nat.lt_of_lt_of_le hlt2 aj1.o)⟩;have hht:=(RO.o h (List.mem_of_getElem? hh)).1;obtain⟨t,ht⟩:∃t,S.terms[h]?=some t:=⟨_,aF hht⟩;obtain⟨gh,rfl,_,hch⟩:=W.o.held n h hh;obtain⟨gt,rfl,_,M,w,_,_,hct⟩:=W.o.term h t ht;have y1:=hch N D.o;obtain⟨y2,_⟩:=hct N D.o;have d1:=lH.o N D.o;have Z:=X.o N D.o;have htl:=HT.o t (List.mem_of_getElem? ht);have abM:=dn (Ci hh hfn);have T:Hid (Doc.ji S.terms h=[40,97,115,115,101,114,116,32]++t.text++[41,10]):=by show _=_;rw[Doc.ji,Y5 ht];simp[Doc.jH]
        have hhn:h<NT:=by rw[<-uT.o];exact hht
        obtain⟨tx,htx⟩:=aK t.text;rw[htx]at htl y2 T;clear hh hht ht hch hct htx;go_wp2_with (go_quiet (fail));go_roundw
        ·exact⟨n+1,C++([40,97,115,115,101,114,116,32]++tx++[41,10]),bL,aR,aR,by rw[<-O.o];simp,by rw[abM.o,List.flatMap_append,HRR.o];simp[T.o],below_drewN D.o _⟩
        ·exact aph
       ·have H:=Q.o N D.o;have uR:Hid (C=((S.held.take e).drop c).flatMap (Doc.ji S.terms)):=by show _=_;rw[HRR.o,show n=e by omega]
        have U5:Hid (Doc.part S b c d e=((S.syms.take d).drop b).flatMap Doc.kS++((S.held.take e).drop c).flatMap (Doc.ji S.terms)):=rfl;have Ja:Hid (v=y++Doc.part S b c d e):=by show _=_;rw[<-O.o,<-HU.o,U5.o,<-HZC.o,<-uR.o];simp
        by_cases hql:q<L
        ·have Ad:Hid (BA S (q+1) d e (v++[40,112,117,115,104,41,10])):=by
          have:=jF.o;rw[if_pos hql,Yu.o,<-List.append_assoc,<-Ja.o]at this;exact this
         exact aqE
        ·have Ad:Hid (BA S (q+1) d e v):=by
          have:=jF.o;rw[if_neg hql,List.append_nil,<-Ja.o]at this;exact this
         exact aqE
  ·have B:Hid (y=res):=agv.o b c y (by rw[show L+1=q by omega];exact Dp.o);go_wp2;go_ret;exact⟨ic B.o,om.o⟩
theorem aeB (h:dC.Is x=true):0<x.length:=by
 obtain⟨z,rfl⟩:=dC.qD h;exact List.length_pos_iff.2 (dC.xW z)
theorem Hf (l:dN)(s:Nat)(w:World)(u:l.length<=1000000) :
 dH 157 #[dD l,dw s] w λe n=>e=dF (.bool (Doc.jA l s))/\n=w:=by
 have v:=gU;have a:=dn (λW=>OY l W aR);cases hI:dC.Is l with
 | false=>
  have o:=dn hI;rw[hI]at a;clear hI;go_enter func157,ntmps157;go_wp2_with fail;refine(a.o _).mono ?_;rintro e f ⟨rfl,rfl⟩;go_wp2;go_ret;exact⟨dS (by simp[Doc.jA,o.o]),rfl⟩
 | true=>
  have p:=aeB hI;have g:=dn hI;rw[hI]at a;clear hI
  by_cases d:s=1
  ·subst d;obtain⟨j,q⟩:=aK ((l==[48]));obtain⟨k,t⟩:=aK ((l==[49]));have b:Hid (Doc.jA l 1=(j||k)):=by show _=_;rw[Doc.jA,g.o,if_pos rfl,q,t];rfl
   cases j<;>cases k
   all_goals
    exact aql
  ·have x:((s:Int)==1)=false:=ak aR
   by_cases m:s=3
   ·subst m
    obtain⟨c,r,rfl⟩:∃c r,l=c::r:=by
     cases l with
     | nil=>simp at p
     | cons c r=>exact⟨c,r,rfl⟩
    have b:Hid (Doc.jA (c::r) 3=((c.toNat:Int) !=45)):=by
     show _=_;rw[Doc.jA,g.o,if_neg aR,if_pos rfl];simp only[List.head?_cons,Bool.true_and]
     by_cases i:c=45
     ·subst i;rfl
     ·have d:((c.toNat:Int) !=45)=true:=by
       rw[bne_iff_ne];intro e;exact i (UInt8.toNat_inj.1 anV)
      rw[d,bne_iff_ne];intro e;injection e with e;exact i e
    go_enter func157,ntmps157;go_wp2_with fail;refine(a.o _).mono ?_;rintro e f ⟨rfl,rfl⟩;go_wp2;go_ret;exact⟨dS (by rw[b.o]),rfl⟩
   ·have y:((s:Int)==3)=false:=ak aR;have b:Hid (Doc.jA l s=true):=by show _=_;rw[Doc.jA,g.o,if_neg d,if_neg m];rfl
    exact aql
structure OW (ss:List Doc.Sym)(e:fU):Prop where
 lo:0<=e.sym
 hi:e.sym<ss.length
 val:dC.Is e.val=true
 args:e.other=false->e.args.length=(Doc.iD ss e.sym.toNat).length
theorem OW.of {a:List Doc.Sym}{x:fU}(h:Doc.kF a x.en=true):OW a x:=by
 unfold Doc.kF at h;simp only[Bool.and_eq_true,decide_eq_true_eq]at h;obtain⟨⟨⟨⟨d,e⟩,b⟩,c⟩,_⟩:=h;refine⟨d,e,?_,λf=>?_⟩
 ·unfold Doc.jA at b;simp only[Bool.and_eq_true]at b;exact b.1
 ·have g:x.en.other=false:=f;rw[g]at c;show x.en.args.length=(Doc.iD a x.en.sym.toNat).length;simpa using c
def pU (ss:List Doc.Sym)(L:List fU)(e:Ending):Prop:=e=dF (.bool (Doc.lawful ss (fZ L)))
theorem pU.no {a:List Doc.Sym}{x:fU}(b:c[n]?=some x)(h:Doc.kF a x.en=false):pU a c (dF (dP)):=by
 refine dS (Eq.symm ?_);rw[Doc.lawful,List.all_eq_false];exact⟨x.en,List.mem_map_of_mem (List.mem_of_getElem? b),aom⟩
theorem UR (sb bA:Nat)(own:Own)(S:Doc.dO)(A:eu)(bn v:Nat)(L:List fU)(w:World)(hS:ed w own bA sb S)(hw:Doc.iq S)(V:gI w A bn L)(hn:L.length=v)
 (hval:∀x∈L,x.val.length<=1000000/\∀X∈x.args,X.length<=1000000) (Gm:∀x∈L,-9223372036854775808<=x.sym/\x.sym<=9223372036854775807) :
 dH 107 #[dK sb 0,.slice A v bn] w λbq G=>pU S.syms L bq/\dB w G:=by
 have hR:=gU;obtain⟨aS,cS,aT,cT,aH,cH,aL,cL,Y⟩:=hS.view;have HV:=dn Y;have Fv:=hw.book.few;obtain⟨m01,m02⟩:=Y.l0;have Z:=dn Y.c0;have hc1:=V.le;have hc2:=V.max;rw[hn]at hc1;have HG:=dn (λW (h:dB w W)=>(V.below h).get);have AQ:=dn hval;have abC:=dn Gm;have zi:=dn hw.book.syms;have HN:=dn hn;have K6:=dn (λbB bC W h=>Hf bB bC W h);obtain⟨NS,yR⟩:=aK S.syms.length;have uI:=dn yR;rw[yR]at Fv m01 Z;clear Y hS hw V hn hval Gm yR;go_enter func107,ntmps107;go_wp2_with fail
 go_loopw [5] (fun i wr=>∃q:Nat,i=dw q/\q<=v/\dB w wr/\∀x∈L.take q,Doc.kF S.syms x.en=true) (fun i _=>v-(intOf i).toNat)
 ·exact⟨0,rfl,aR,af,aW⟩
 case round=>
  obtain⟨q,rfl,hq,hbel,hall⟩:=hrel;have HB:=dn hbel;have rF:=dn hall;clear hbel hall
  by_cases hlt:q<v
  ·obtain⟨x,p⟩:∃x,L[q]?=some x:=⟨_,aF amS⟩;have HX:=dn p;have hxm:=List.mem_of_getElem? p;obtain⟨v1,v2⟩:=AQ.o x hxm;have O0:=dn v2;obtain⟨y1,y2⟩:=abC.o x hxm;obtain⟨bF,o,rfl,he⟩:=HG.o wr HB.o q x p;obtain⟨a1,a2,⟨r,l,a3,a4,a5,a6⟩,a7⟩:=he;have rE:=dn (λW (h:dB wr W)=>(a6.below h).get);obtain⟨s,c,f,d⟩:=x;simp only at a1 a2 a3 a4 a7 v1 y1 y2 rE O0;have M:Hid (Doc.kF S.syms ⟨s,c,f,d⟩=false->pU S.syms L (dF (dP))):=λh=>pU.no HX.o h
   have I7:Hid (Doc.kF S.syms ⟨s,c,f,d⟩=true->∀z∈L.take (q+1),Doc.kF S.syms z.en=true):=λh z g=>by
    rw[List.take_add_one,HX.o]at g;rcases List.mem_append.1 g with g|g
    ·exact rF.o z g
    ·have:z=⟨s,c,f,d⟩:=by simpa using g
     subst this;exact h
   have hbx:dB w (wr.alloc (.cells #[dw s,.bool c,.slice r f.length l,dD d] 142)):=HB.o.fO;have N:=dn hbx;have d0:=Z.o _ hbx;have U8:Hid (∀j,j<f.length->∃z,f[j]?=some z/\z.length<=1000000):=λj hj=>⟨f[j],aF hj,O0.o _ (List.getElem_mem hj)⟩;obtain⟨b,oM⟩:=aK f.length;have O:=dn oM;rw[oM]at a3 a4 N U8 d0;clear a6 v2 p hxm hbx oM O0 HG
   by_cases e:s<0
   ·have t:Hid (pU S.syms L (dF (dP))):=M.o (by unfold Doc.kF;rw[decide_eq_false (show ¬(0:Int)<=s by omega)];rfl);go_wp2_with (go_quiet (fail));go_ret;exact⟨t.o,below_drewN N.o _⟩
   ·have t1:decide (s<0)=false:=decide_eq_false e
    by_cases n:(NS:Int)<=s
    ·have t:Hid (pU S.syms L (dF (dP))):=M.o (by unfold Doc.kF;rw[decide_eq_false (show ¬s<(S.syms.length:Int) by rw[uI.o];omega),Bool.and_false];rfl);go_wp2_with (go_quiet (fail));go_ret;exact⟨t.o,below_drewN N.o _⟩
    ·obtain⟨m,rfl⟩:∃m:Nat,s=(m:Int):=⟨s.toNat,aR⟩;have ru:m<NS:=aR;obtain⟨x,p⟩:∃x,S.syms[m]?=some x:=⟨_,aF (by rw[uI.o];exact ru)⟩;obtain⟨g2,rfl,hg2,H,E,k1,k2,hcc⟩:=HV.o.sym m x p;have P:=dn hcc;have HAT:=dn (Ri p c f d);have hwx:=zi.o x (List.mem_of_getElem? p);have qB:=hwx.few;have t2:decide ((NS:Int)<=(m:Int))=false:=decide_eq_false aR;clear p hwx hcc;go_upto_region 7 with (go_quiet (fail))
     have Q:=below_drewN N.o nq;have hbR:dB wr ((wr.alloc (.cells #[dw (m:Int),.bool c,.slice r b l,dD d] 142)).drewN nq):=below_drewN ai nq;have f0:((wr.alloc (.cells #[dw (m:Int),.bool c,.slice r b l,dD d] 142)).drewN nq).dQ wr.heap.size 0=some (dw (m:Int)):=aW;have f1:((wr.alloc (.cells #[dw (m:Int),.bool c,.slice r b l,dD d] 142)).drewN nq).dQ wr.heap.size 1=some (.bool c):=aW;have f2:((wr.alloc (.cells #[dw (m:Int),.bool c,.slice r b l,dD d] 142)).drewN nq).dQ wr.heap.size 2=some (.slice r b l):=aW;have f3:((wr.alloc (.cells #[dw (m:Int),.bool c,.slice r b l,dD d] 142)).drewN nq).dQ wr.heap.size 3=some (dD d):=aW;have R:wr.heap.size<((wr.alloc (.cells #[dw (m:Int),.bool c,.slice r b l,dD d] 142)).drewN nq).heap.size:=aW;clear a1 a2 a3 a7 d0 t1 t2;generalize (wr.alloc (.cells #[dw (m:Int),.bool c,.slice r b l,dD d] 142)).drewN nq=k at *;obtain⟨nm,hnm⟩:=aK x.name;obtain⟨u,NK⟩:=aK x.args.length;obtain⟨B,hso⟩:=aK x.sort;rw[hnm,NK,hso]at P;rw[NK]at k1 qB;have jF:=dn NK;have uH:=dn hso;have z0:=Z.o k Q;obtain⟨z1,z2,z3,_⟩:=P.o k Q;have hb2:dB w (k.alloc (.cells #[eB,dE,dw 0] 175)):=Q.fO;have y0:=Z.o _ hb2;obtain⟨y3,y4,y5,_⟩:=P.o _ hb2;have F:dB k (k.alloc (.cells #[dD nm,.slice H u E,dw B] 175)):=ai;have u0:(k.alloc (.cells #[eB,dE,dw 0] 175)).dQ wr.heap.size 0=some (dw (m:Int)):=((Below.refl _ k).alloc ae _).dL f0 R
     have Pk:Hid (CR (k.alloc (.cells #[dD nm,.slice H u E,dw B] 175)) wr.heap.size k.heap.size m c r b l d H u E B):=
      ⟨(F.dL f0 R),(F.dL f1 R),(F.dL f2 R),(F.dL f3 R),aW,aW⟩
     have uL:Hid (dB w (k.alloc (.cells #[dD nm,.slice H u E,dw B] 175))):=Q.dW F;have EB:Hid (dB wr (k.alloc (.cells #[dD nm,.slice H u E,dw B] 175))):=hbR.dW F;have R7:=dn (λW (h:dB w W)=>gF (P.o W h).2.2.2);clear Q hbR hb2 F hnm NK hso P N f1 f2 f3;go_cut [7] (fun bD y=>bD=dK k.heap.size 0/\CR y wr.heap.size k.heap.size m c r b l d H u E B/\dB w y/\dB wr y)
     case first=>
      go_region
      all_goals
       go_wp2;go_meet
       ·exact⟨rfl,Pk.o.below af.drew,uL.o.drew,EB.o.drew⟩
     case rest=>
      obtain⟨rfl,nJ,I,T⟩:=hcut;have pM:=dn nJ;have J:=dn I;have aj9:=dn T;obtain⟨e0,e1,e2,e3,s1,s2⟩:=nJ;obtain⟨LB,C⟩:=aK (Doc.jA d B);have K:=dn (K6.o d B wc v1);rw[C]at K;have wR:=dn C;clear C;clear u0 y0 y3 y4 y5 z0 z1 z2 z3 f0 Pk uL EB I T;go_wp2_with fail;refine K.o.dX λw3 hw3=>?_;subst hw3;clear K;cases LB
      ·have t:Hid (pU S.syms L (dF (dP))):=M.o (by rw[HAT.o,uH.o,wR.o];rfl);go_wp2;go_ret;exact⟨t.o,J.o⟩
      ·have HLEN:Hid ((if c then b==0 else b==u)=false->pU S.syms L (dF (dP))):=λh=>M.o (by rw[HAT.o,O.o,jF.o,h,Bool.and_false];rfl)
       have pO:Hid (∀j z a,f[j]?=some z->x.args[j]?=some a->Doc.jA z a=false->pU S.syms L (dF (dP))):=λj z a e n D=>M.o (by
        rw[HAT.o,Bool.and_eq_false_iff];refine .inr (Bool.eq_false_iff.2 λh4=>?_);rw[Doc.Fq h4 e n]at D;cases D)
       have mr:Hid ((if c then b==0 else b==u)=true->(∀j z a,f[j]?=some z->x.args[j]?=some a->Doc.jA z a=true)->b<=u->∀z∈L.take (q+1),Doc.kF S.syms z.en=true):=λe n D=>I7.o (by
        rw[HAT.o,uH.o,wR.o,O.o,jF.o,e,Fs (by rw[O.o,jF.o];exact D) n];rfl)
       cases c
       ·by_cases hne:b=u
        ·subst hne;have Pw:Hid ((∀j z a,f[j]?=some z->x.args[j]?=some a->Doc.jA z a=true)->∀z∈L.take (q+1),Doc.kF S.syms z.en=true):=λh=>mr.o aW h ae;clear mr HLEN;go_wp2_with fail
         go_loopw [9] (fun i y=>∃j:Nat,i=dw j/\j<=b/\dB w3 y/\∀i z a,i<j->f[i]?=some z->x.args[i]?=some a->Doc.jA z a=true) (fun i _=>b-(intOf i).toNat)
         ·exact⟨0,rfl,aR,af,λi _ _ h=>aR⟩
         case round=>
          obtain⟨j,rfl,hj,U,hpre⟩:=hrel;have CS:=dn hpre;clear hpre;rename World=>wj;clear e0 e1 e2 e3 s1 s2;obtain⟨e0,e1,e2,e3,s1,s2⟩:=pM.o.below U;have I:=J.o.dW U;have T:=aj9.o.dW U;have oh:=dn U;have Vg:=dn I;clear U
          by_cases hjl:j<b
          ·obtain⟨z,g,hzl⟩:=U8.o j hjl;obtain⟨ga,rfl,r1⟩:=rE.o wj T j z g;obtain⟨a,hn2⟩:∃a,x.args[j]?=some a:=⟨_,aF (by rw[jF.o];exact hjl)⟩;obtain⟨gb,rfl,r2⟩:=R7.o wj I j a hn2;obtain⟨LB,C⟩:=aK (Doc.jA z a);have K:=dn (λW=>K6.o z a W hzl);rw[C]at K;have t:Hid (LB=false->pU S.syms L (dF (dP))):=λh=>pO.o j z a g hn2 (C.trans h)
           have abJ:Hid (LB=true->∀i z a,i<j+1->f[i]?=some z->x.args[i]?=some a->Doc.jA z a=true):=λh i z' n' hi e n=>by
            rcases Nat.lt_or_eq_of_le (Nat.le_of_lt_succ hi) with D|D
            ·exact CS.o i z' n' D e n
            ·subst D;rw[g]at e;rw[hn2]at n;injection e with e;injection n with n;subst e;subst n;exact C.trans h
           clear g hn2 I T C;go_upto_region 14 with fail;go_cut [10] (fun X y=>X=.bool LB/\dB w3 y)
           case first=>
            go_region_held3 (fun G=>G.dQ wr.heap.size 2=some (dJ ga b l)/\G.dQ k.heap.size 1=some (dJ gb b E)/\G.dQ ga j=some (dD z)/\G.dQ gb j=some (dw (a:Int))) (go_keep) (first|(go_at_call 157;refine(K.o _).mono ?_;rintro bq w4 ⟨rfl,rfl⟩));go_wp2;go_meet
            ·exact⟨rfl,by first|exact oh.o|exact oh.o.drew⟩
           case rest=>
            obtain⟨rfl,hbk⟩:=hcut;rename World=>wk;have EC:=dn hbk;clear hbk r1 r2 e0 e1 e2 e3 s1 s2;cases LB
            ·have ry:=dn (t.o rfl);go_wp2;go_ret;exact⟨ry.o,J.o.dW EC.o⟩
            ·have Ad:=dn (abJ.o rfl);go_wp2;go_roundw
             ·exact⟨j+1,bL,aR,EC.o,Ad.o⟩
             ·exact aph
          ·have ajy:Hid (∀z∈L.take (q+1),Doc.kF S.syms z.en=true):=Pw.o (λi z a e n=>CS.o i z a (by have:=(aG e).1;rw[O.o]at this;omega) e n);go_wp2;go_roundw
           ·exact⟨q+1,bL,aR,Vg.o,ajy.o⟩
           ·exact aph
        ·have tn:((b:Int) !=(u:Int))=true:=bJ;have t:Hid (pU S.syms L (dF (dP))):=HLEN.o (by simpa using hne);go_wp2;go_ret;exact⟨t.o,J.o⟩
       ·by_cases g:b=0
        ·subst g;have Pw:Hid (∀z∈L.take (q+1),Doc.kF S.syms z.en=true):=mr.o aW (λj z a e _=>by have:=(aG e).1;rw[O.o]at this;omega) (Nat.zero_le _);go_wp2_with fail
         go_loopw [9] (fun i y=>i=dw 0/\y=w3) (fun i _=>0)
         ·exact⟨rfl,rfl⟩
         case round=>
          obtain⟨rfl,hwx⟩:=hrel;subst hwx;go_wp2;go_roundw
          ·exact⟨q+1,bL,aR,J.o,Pw.o⟩
          ·exact aph
        ·have tz:(0:Int)<(b:Int):=aR;have t:Hid (pU S.syms L (dF (dP))):=HLEN.o (by simpa using g);go_wp2;go_ret;exact⟨t.o,J.o⟩
  ·have HE:Hid (L.take q=L):=by show _=_;rw[List.take_of_length_le];rw[HN.o];omega
   go_wp2;go_ret
   exact⟨dS (Eq.symm (by
    rw[Doc.lawful,List.all_eq_true];intro X hy;obtain⟨x,p,rfl⟩:=List.mem_map.1 hy;exact rF.o x (by rw[HE.o];exact p))),HB.o⟩
def pre (xs ys:List (dN))(j:Nat):Bool:=xs.take j==ys.take j
theorem Zr {a b:List (dN)}{y:dN}(c:a[n]?=some x)(d:b[n]?=some y):pre a b (n+1)=(pre a b n&&(x==y)):=by
 unfold pre;rw[List.take_add_one,List.take_add_one,c,d]
 have g:(a.take n).length=(b.take n).length:=by
  have e:=(aG c).1;have f:=(aG d).1;rw[List.length_take,List.length_take];exact aR
 rw[Bool.eq_iff_iff];simp only[Bool.and_eq_true,beq_iff_eq,Option.toList_some];constructor
 ·intro h;have:=List.append_inj h g;exact⟨this.1,by simpa using this.2⟩
 ·rintro ⟨e,f⟩;rw[e,f]
def acU (L:List fU)(s:Nat)(vs:List (dN))(e:Ending):Prop:=e=dF (dD (Doc.look (fZ L) s vs))
theorem Vs (bg p:eu)(bn K n q s:Nat)(L:List fU)(a:List (dN))(w:World)(M:gI w bg bn L)(X:L.length=n)(hv:jK w (.slice p q K) a)(hq:a.length=q)(hd:q<=K/\K<=2 ^ 63-1)
 (xe:∀x∈L,x.sym=s->x.other=false->x.args.length=q) :
 dH 158 #[.slice bg n bn,dw s,.slice p q K] w λbq w'=>acU L s a bq/\dB w w':=by
 have hR:=gU;have hc1:=M.le;have hc2:=M.max;rw[X]at hc1;obtain⟨hd1,hd2⟩:=hd;have Y:=dn (λW (l:dB w W)=>(M.below l).get);have HS:=dn (λW (l:dB w W)=>(hv.below l).get);have N:=dn X;have HQ:=dn hq;have xu:=dn xe;clear M X hv hq xe;go_enter func158,ntmps158;go_wp2_with fail
 go_loopw [7] (fun i wr=>∃k:Nat,i=dw k/\k<=n/\dB w wr/\∀y∈L.take k,rM s a y=false) (fun i _=>n-(intOf i).toNat)
 ·exact⟨0,rfl,aR,af,aW⟩
 case round=>
  obtain⟨k,rfl,hk,u,v⟩:=hrel;have z:=dn u;have g:=dn v;clear u v
  by_cases hlt:k<n
  ·obtain⟨x,d⟩:∃x,L[k]?=some x:=⟨_,aF (by rw[N.o];exact hlt)⟩;have A:=List.mem_of_getElem? d;obtain⟨bA,o,rfl,Z⟩:=Y.o wr z.o k x d;have xG:=dn (λW l=>(Y.o W l k x d));obtain⟨a1,a2,⟨aE,cE,B,O,a5,P⟩,Q⟩:=Z;have rE:=dn (λW (l:dB wr W)=>(P.below l).get);have HXM:=dn A;have K5:=dn (xu.o x A);have r:=dn (BP g.o d);have C:=dn (look_eq g.o d);obtain⟨b,D,c,R⟩:=x;simp only at a1 a2 B O Q rE K5 C;obtain⟨NA,oM⟩:=aK c.length;rw[oM]at B O K5;have Dq:=dn oM;clear P d A oM
   by_cases e:b=s
   ·have E:(b !=(s:Int))=false:=anm;have aju:=dn (K5.o e);have IZ:=dn e;clear e;cases D
    ·have hnq:NA=q:=aju.o rfl
     have iP:Hid (rM s a ⟨b,false,c,R⟩=pre c a q):=by
      show _=_;have F:c.take q=c:=List.take_of_length_le (by rw[Dq.o];omega);have m:a.take q=a:=List.take_of_length_le (by rw[HQ.o];omega);unfold pre rM;rw[F,m];have h3:(b==(s:Int))=true:=by rw[beq_iff_eq];exact IZ.o
      show(b==(s:Int)&&!false&&c==a)=_;rw[h3];rfl
     go_wp2_with fail
     go_loopw [8,9] (fun p i wx=>∃(t:Bool) (j:Nat),p=.bool t/\i=dw j/\j<=q/\dB wr wx/\pre c a j=t) (fun _ i _=>q-(intOf i).toNat)
     ·exact⟨true,0,rfl,rfl,aR,af,by simp[pre]⟩
     case round=>
      obtain⟨t,j,rfl,rfl,hj,h,hpr⟩:=hrel;have Dp:=dn hpr;clear hpr;rename World=>wj;have oh:=dn h;have G:=z.o.dW h;have jG:=dn G;have b3:=h.eT B;have b7:=h.eT Q
      by_cases hjl:j<q
      ·obtain⟨H,S⟩:∃H,c[j]?=some H:=⟨_,aF (by rw[Dq.o];omega)⟩;obtain⟨y,T⟩:∃y,a[j]?=some y:=⟨_,aF (by rw[HQ.o];omega)⟩;have U:Hid (pre c a (j+1)=(t&&(H==y))):=by show _=_;rw[Zr S T,Dp.o]
       cases t
       ·have V:Hid (pre c a (j+1)=false):=U.o;clear h G S T U;go_wp2_with (go_quiet (fail));go_roundw
        ·exact⟨false,j+1,rfl,bL,aR,below_drewN oh.o _,V.o⟩
        ·exact aph
       ·obtain⟨zy,hzy⟩:=aK ((H==y));have V:Hid (pre c a (j+1)=zy):=by show _=_;rw[U.o,hzy];rfl
        clear U;obtain⟨ga,rfl,r1⟩:=rE.o wj h j H S;obtain⟨gb,rfl,r2⟩:=HS.o wj G j y T;have hjn:(j:Int)<(NA:Int):=aR;clear h G S T;go_wp2_with (go_quiet (fail));go_roundw
        ·exact⟨_,j+1,rfl,bL,aR,below_drewN oh.o _,by first|exact V.o|(rw[V.o,<-hzy];rfl)⟩
        ·exact aph
      ·have HJQ:Hid (j=q):=by show _=_;omega
       clear h G;cases t
       ·have f:Hid (∀y∈L.take (k+1),rM s a y=false):=r.o (by rw[iP.o,<-HJQ.o];exact Dp.o);go_wp2;go_roundw
        ·exact⟨k+1,bL,aR,jG.o,f.o⟩
        ·exact aph
       ·have I:Hid (Doc.look (fZ L) s a=R):=C.o (by rw[iP.o,<-HJQ.o];exact Dp.o);go_wp2;go_ret;exact⟨ic I.o.symm,jG.o⟩
    ·have f:Hid (∀y∈L.take (k+1),rM s a y=false):=r.o (by unfold rM;show(b==(s:Int)&&!true&&c==a)=false;simp);go_wp2;go_roundw
     ·exact⟨k+1,bL,aR,z.o,f.o⟩
     ·exact aph
   ·have E:(b !=(s:Int))=true:=anm;have f:Hid (∀y∈L.take (k+1),rM s a y=false):=r.o (by unfold rM;show(b==(s:Int)&&!D&&c==a)=false;rw[beq_eq_false_iff_ne.2 e];rfl);go_wp2;go_roundw
    ·exact⟨k+1,bL,aR,z.o,f.o⟩
    ·exact aph
  ·have Pt:Hid (∀y∈L,rM s a y=false):=by
    have F:L.take k=L:=List.take_of_length_le (by rw[N.o];omega);have m:=g.o;rw[F]at m;exact m
   go_wp2_with fail
   go_loopw [10] (fun i wr=>∃k:Nat,i=dw k/\k<=n/\dB w wr/\∀y∈L.take k,uN s y=false) (fun i _=>n-(intOf i).toNat)
   ·exact⟨0,rfl,aR,z.o,aW⟩
   case round=>
    clear g;obtain⟨k,rfl,hk,u,v⟩:=hrel;rename World=>wz;have J:=dn u;have g:=dn v;clear u v
    by_cases hlt2:k<n
    ·obtain⟨x,d⟩:∃x,L[k]?=some x:=⟨_,aF (by rw[N.o];exact hlt2)⟩;have A:=List.mem_of_getElem? d;obtain⟨bA,o,rfl,Z⟩:=Y.o wz J.o k x d;obtain⟨a1,a2,⟨aE,cE,B,O,a5,P⟩,Q⟩:=Z;have r:=dn (BP g.o d);have C:=dn (Re Pt.o g.o d);obtain⟨b,D,c,R⟩:=x;simp only at a1 a2 Q C;clear B O a5 P d A
     by_cases e:b=s
     ·have E:(b==(s:Int))=true:=anm;have HT1:=dn E;clear e;cases D
      ·have f:Hid (∀y∈L.take (k+1),uN s y=false):=r.o (by unfold uN;show(b==(s:Int)&&false)=false;rw[Bool.and_false]);go_wp2;go_roundw
       ·exact⟨k+1,bL,aR,J.o,f.o⟩
       ·exact aph
      ·have I:Hid (Doc.look (fZ L) s a=R):=C.o (by unfold uN;show(b==(s:Int)&&true)=true;rw[HT1.o];rfl);go_wp2;go_ret;exact⟨ic I.o.symm,J.o⟩
     ·have E:(b==(s:Int))=false:=anm;have f:Hid (∀y∈L.take (k+1),uN s y=false):=r.o (by unfold uN;show(b==(s:Int)&&D)=false;rw[E];rfl);go_wp2;go_roundw
      ·exact⟨k+1,bL,aR,J.o,f.o⟩
      ·exact aph
    ·have I:Hid (Doc.look (fZ L) s a=[48]):=Rf Pt.o (by
      have F:L.take k=L:=List.take_of_length_le (by rw[N.o];omega);have m:=g.o;rw[F]at m;exact m)
     go_wp2;go_ret;exact⟨ic I.o.symm,J.o⟩
def nM (zs:List Int):List (dN):=zs.map dC.dec
theorem Oo (h:f[n]?=some z):(nM f)[n]?=some (dC.dec z):=by simp[nM,h]
theorem Vy (d n P:Nat)(Z:eu)(b:List Int)(w:World)(hv:jK w (.slice Z n P) (nM b))(hn:b.length=n)(hc:n<=P/\P<=2 ^ 63-1)(h1:1<=n)(F:d≠3->2<=n)(hlen:∀z∈b,(dC.dec z).length<=700000000000) :
 dH 163 #[dw d,.slice Z n P] w λbn s=>bn=dF (.bool (Doc.truth d b))/\dB w s:=by
 have hR:=gU;obtain⟨hc1,hc2⟩:=hc
 have u:Hid (∀W,dB w W->∀j,j<n->∃z h,b[j]?=some z/\Z=some (dA h 0)/\W.dQ h j=some (dD (dC.dec z))):=λW bq j hj=>by
  obtain⟨z,r⟩:∃z,b[j]?=some z:=⟨_,aF aR⟩;obtain⟨h,e1,e2⟩:=(hv.below bq).get j _ (Oo r);exact⟨z,h,r,e1,e2⟩
 have HLEN:=dn hlen;have acK:=dn (λx y W h1 F=>abv x y W h1 F);have HN:=dn hn;clear hv hn hlen;go_enter func163,ntmps163;go_wp2_with fail
 go_loopw [5,6,7,8] (fun bA o bg t wr=>∃(m p i:Bool) (k:Nat),bA=.bool m/\o=.bool p/\bg=.bool i/\t=dw k/\k<=n/\dB w wr/\(b.take k).all (·==1)=m/\(b.take k).any (·==1)=p/\Doc.two b k=i) (fun _ _ _ t _=>n-(intOf t).toNat)
 ·exact⟨true,false,false,0,rfl,rfl,rfl,rfl,aR,af,aW,aW,rfl⟩
 case round=>
  obtain⟨m,p,i,k,rfl,rfl,rfl,rfl,hk,hbel,i1,i2,i3⟩:=hrel;have g:=dn hbel;have Q:=dn i1;have S:=dn i2;have T:=dn i3;clear hbel i1 i2 i3
  by_cases hlt:k<n
  ·obtain⟨z,h,r,rfl,G⟩:=u.o wr g.o k hlt;obtain⟨v,ho1⟩:=aK ((dC.dec z==[49]));have HA1:Hid ((b.take (k+1)).all (·==1)=(m&&v)):=by show _=_;rw[Doc.abg r,Q.o,<-Doc.yV,ho1]
   have HA2:Hid ((b.take (k+1)).any (·==1)=(p||v)):=by show _=_;rw[Doc.CL r,S.o,<-Doc.yV,ho1]
   have PU:Hid (Doc.two b (k+1)=(i||(b.take k).any (λx=>x==z))):=by show _=_;rw[Doc.two,T.o,Doc.iI r]
   have HZK:=dn r;clear r Q S T;generalize HTZ:dC.dec z=tz at *;have alI:=dn HTZ;clear HTZ;go_upto_region 7 with fail
   go_cut [5] (fun y H=>y=.bool (m&&v)/\H=wr)
   case first=>
    cases m
    all_goals
     go_wp2;go_meet
     ·exact⟨rfl,rfl⟩
   case rest=>
    obtain⟨rfl,I⟩:=hcut;obtain⟨b4,l⟩:=aK ((m&&v));rw[l]at HA1 ⊢;clear l;have hwc':=I.symm;subst hwc';clear I;go_upto_region 8 with fail
    go_cut [6] (fun y H=>y=.bool (p||v)/\H=wr)
    case first=>
     cases p
     all_goals
      go_wp2;go_meet
      ·exact⟨rfl,rfl⟩
    case rest=>
     obtain⟨rfl,I⟩:=hcut;obtain⟨b5,hb5⟩:=aK ((p||v));rw[hb5]at HA2 ⊢;clear hb5;have hwc':=I.symm;subst hwc';clear I;go_wp2_with fail
     go_loopw [7,9] (fun bg t H=>∃(A:Bool) (j:Nat),bg=.bool A/\t=dw j/\j<=k/\dB w H/\(i||(b.take j).any (fun x=>x==z))=A) (fun _ t _=>k-(intOf t).toNat)
     ·exact⟨i,0,rfl,rfl,aR,g.o,aW⟩
     case round=>
      obtain⟨A,j,rfl,rfl,hj,hbj,h6⟩:=hrel;have H6:=dn h6;clear h6;rename World=>wj;have B:=dn hbj;clear hbj
      by_cases hjl:j<k
      ·cases A
       ·obtain⟨y,g1,hy,J,q1⟩:=u.o wj B.o k hlt;injection J with J
        injection J with J;subst J;obtain⟨x,g2,K,L,q2⟩:=u.o wj B.o j aR;injection L with L;injection L with L;subst L;obtain rfl:y=z:=Option.some.inj (hy.symm.trans HZK.o);obtain⟨o2,ho2⟩:=aK ((dC.dec x==dC.dec y));have M:Hid ((i||(b.take (j+1)).any (λx=>x==y))=o2):=by show _=_;rw[Doc.CL K,<-Bool.or_assoc,H6.o,<-Doc.Bv,ho2];rfl
        clear K hy;generalize dC.dec x=dx at *;generalize dC.dec y=dy at *;have hjn:(j:Int)<(n:Int):=aR;exact aqH
       ·obtain⟨x,g2,K,_,_⟩:=u.o wj B.o j aR;have M:Hid ((i||(b.take (j+1)).any (λx=>x==z))=true):=by show _=_;rw[Doc.CL K,<-Bool.or_assoc,H6.o];rfl
        clear K;exact aqH
      ·have M:Hid (Doc.two b (k+1)=A):=by show _=_;rw[PU.o,<-H6.o,show j=k by omega]
       go_wp2;go_roundw
       ·exact⟨b4,b5,A,k+1,rfl,rfl,rfl,bL,aR,B.o,HA1.o,HA2.o,M.o⟩
       ·exact aph
  ·have U:k=b.length:=ame;have ajH:Hid (b.all (·==1)=m):=by have:=Q.o;rw[U,List.take_length]at this;exact this
   have ajG:Hid (b.any (·==1)=p):=by have:=S.o;rw[U,List.take_length]at this;exact this
   have ajF:Hid (Doc.two b b.length=i):=by have:=T.o;rw[U]at this;exact this
   clear U Q S T;obtain⟨a,h,hz0,rfl,V⟩:=u.o wr g.o 0 aR;have l0:=HLEN.o a (List.mem_of_getElem? hz0);have C:Hid (b.getD 0 0=a):=Doc.iI hz0;clear hz0;obtain⟨R,hR2⟩:=aK (Doc.truth d b);have e:=dn hR2;clear hR2
   by_cases X:d=3
   ·subst X;clear F;have e0:=Doc.Oq a;have f:Hid (R=(a==0)):=by show _=_;rw[<-e.o,<-C.o];rfl
    generalize (a==0)=Y at *;exact apX
   ·have hn2:2<=n:=F X;have t3:((d:Int)==3)=false:=ak aR;obtain⟨c,g',hz1,N,G⟩:=u.o wr g.o 1 aR;have l1:=HLEN.o c (List.mem_of_getElem? hz1);have O:Hid (b.getD 1 0=c):=Doc.iI hz1;injection N with N
    injection N with N;subst N;have qI:=dn (λW=>acK.o a c W l0 l1);have agk:=dn (λW=>acK.o c a W l1 l0);have akZ:(1:Int)<(n:Int):=aR;have hn1:0<n:=aR;clear hz1 F
    by_cases c4:d=4
    ·subst c4;have f:Hid (R=m):=by show _=_;rw[<-e.o,<-ajH.o];rfl
     exact apX
    have t4:((d:Int)==4)=false:=ak aR
    by_cases c5:d=5
    ·subst c5;have f:Hid (R=p):=by show _=_;rw[<-e.o,<-ajG.o];rfl
     exact apX
    have t5:((d:Int)==5)=false:=ak aR
    by_cases c6:d=6
    ·subst c6;have f:Hid (R=!(a==c)):=amV;exact ap2
    have t6:((d:Int)==6)=false:=ak aR
    by_cases c7:d=7
    ·subst c7;have f:Hid (R=((a==0)||(c==1))):=amV;have e0:=Doc.Oq a;have e1:=Doc.yV c;generalize (a==0)=Y at *;generalize (c==1)=y1 at *;generalize dC.dec a=D at *;generalize dC.dec c=E at *;cases Y
     all_goals
      exact apX
    have t7:((d:Int)==7)=false:=ak aR
    by_cases c8:d=8
    ·subst c8;have f:Hid (R=(a==c)):=amV;exact ap2
    have t8:((d:Int)==8)=false:=ak aR
    by_cases c9:d=9
    ·subst c9;have f:Hid (R=!i):=by show _=_;rw[<-e.o,<-ajF.o];rfl
     exact apX
    have t9:((d:Int)==9)=false:=ak aR
    by_cases c11:d=11
    ·subst c11;have f:Hid (R=decide (a<c)):=amV;generalize decide (a<c)=bl at *;generalize decide (c<a)=bm at *;generalize dC.dec a=D at *;generalize dC.dec c=E at *;go_wp2_with fail;go_region_held3 (fun s=>s.dQ h 0=some (dD D)/\s.dQ h 1=some (dD E)) (go_keep) (first|(go_at_call 196;refine(qI.o _).dX fun w4 l=>?_;have s0:=(Below.cell l (p:=dA h 0) (aj V)).trans V;have s1:=(Below.cell l (p:=dA h 1) (aj G)).trans G));exact aqL
    have t11:((d:Int)==11)=false:=ak aR;have f:Hid (R=!decide (c<a)):=by show _=_;rw[<-e.o,<-C.o,<-O.o];unfold Doc.truth;rw[if_neg X,if_neg c4,if_neg c5,if_neg c6,if_neg c7,if_neg c8,if_neg c9,if_neg c11]
    clear X c4 c5 c6 c7 c8 c9 c11;generalize decide (a<c)=bl at *;generalize decide (c<a)=bm at *;generalize dC.dec a=D at *;generalize dC.dec c=E at *;go_wp2_with fail;go_region_held3 (fun s=>s.dQ h 0=some (dD D)/\s.dQ h 1=some (dD E)) (go_keep) (first|(go_at_call 196;refine(agk.o _).dX fun w4 l=>?_;have s0:=(Below.cell l (p:=dA h 0) (aj V)).trans V;have s1:=(Below.cell l (p:=dA h 1) (aj G)).trans G));exact aqL
theorem Mm {a:List (dN)}(h:w.ownsRow n 9 1 v a.length (a.map eO)):jK w v a:=by
 have e:a.map eO=(a.map (λx=>[eO x])).flatten:=by
  clear h
  induction a with
  | nil=>rfl
  | cons x a b=>simp[b]
 rw[e]at h;refine gu.imp' (Row.fq h aW aW).sl aW λg i hi c d=>?_;have:=c di 0 aR (eO a[i]) aW;rw[show i*1+0=i by omega]at this;exact this
def sN (m:List Doc.En)(ts:List fB)(k:Nat)(e:Ending):Prop:=∃z:Int,e=dF (dD (dC.dec z))/\z=Doc.value m ts k/\(dC.dec z).length<=1000000+20*(k+1)/\((∃t,ts[k]?=some t/\t.op=14)->(dC.dec z).length<=8)/\(jR ts k->(dC.dec z).length<=10)
theorem sN.plain {m:List Doc.En}{b:List fB}(c:b[n]?=some X)(g:X.op≠14)(i:X.op≠15)(d:(dC.dec z).length<=1000000+20*(n+1))(e:z=Doc.value m b n):sN m b n (dF (dD (dC.dec z))):=by
 obtain⟨j,f⟩:=aG c;refine⟨z,rfl,e,d,fun⟨k,a,l⟩=>?_,fun⟨_,h⟩=>?_⟩
 ·rw[c]at a;injection a with a;subst a;exact aR
 ·rw[f]at h;rcases h with h|⟨h,_⟩<;>omega
structure Eg (m:List Doc.En)(ts:List fB)(k:Nat)(args:List Nat)(zs:List Int):Prop where
 len:∀z∈zs,(dC.dec z).length<=1000000+20*k
 num:∀(i a:Nat) (z:Int),args[i]?=some a->zs[i]?=some z->((∃t,ts[a]?=some t/\t.op=14)->(dC.dec z).length<=8)/\(jR ts a->(dC.dec z).length<=10)
 val:zs=(args.take zs.length).map (Doc.value m ts)
theorem Eg.snoc {m:List Doc.En}{c:List fB}{k:Nat}{e:List Nat}{zs:List Int}{a:Nat}{z:Int}(h:Eg m c k e zs)(f:e[zs.length]?=some a)(p:a<k)(q:(dC.dec z).length<=1000000+20*(a+1))(g:(∃t,c[a]?=some t/\t.op=14)->(dC.dec z).length<=8)(j:jR c a->(dC.dec z).length<=10)(l:z=Doc.value m c a):Eg m c k e (zs++[z]):=by
 refine⟨λy b=>?_,λi n y d b=>?_,?_⟩
 ·rcases List.mem_append.1 b with b|b
  ·exact h.len y b
  ·rw[List.mem_singleton.1 b];exact aR
 ·by_cases hi:i<zs.length
  ·rw[List.getElem?_append_left hi]at b;exact h.num i n y d b
  ·rw[List.getElem?_append_right aR]at b
   have o:i=zs.length:=by
    have:=(aG b).1;simp at this;exact aR
   subst o;rw[f]at d;injection d with d;subst d;simp at b;subst b;exact⟨g,j⟩
 ·rw[List.length_append,List.length_singleton,List.take_add_one,f,List.map_append,<-h.val,l];rfl
structure Eh (w wx:World)(t:fB)(aA:eu)(cA:Nat):Prop where
 ek:dB w wx
 box:kT wx w.heap.size t (.slice aA t.args.length cA)
 lt:w.heap.size<wx.heap.size
theorem Eh.below (h:Eh w W X a n)(b:dB W u):Eh w u X a n:=
 ⟨h.ek.dW b,h.box.below b h.lt,Nat.lt_of_lt_of_le h.lt b.size⟩
theorem Eh.grown (h:Eh w W X a n){row:Option Nat}(b:W.grownBy u row)(e:∀c,row=some c->w.heap.size+1<=c):Eh w u X a n:=by
 have d:Below (w.heap.size+1) W u:=af.grown b h.lt e;exact⟨h.ek.trans (d.mono aR),h.box.below d aR,Nat.lt_of_lt_of_le h.lt b.size⟩
theorem Eh.start (w:World)(t:fB)(a:eu)(b:Nat):Eh w (w.alloc (.cells #[dD t.text,dw t.op,dw t.sort,dw t.sym,.slice a t.args.length b] 177)) t a b:=
 ⟨ai,⟨aW,aW,aW,aW,aW⟩,aW⟩
theorem XZ (sb:Nat)(S:Doc.dO)(Q:eu)(bn R:Nat)(L:List fU)(w0:World)(aS:eu)(cS:Nat)(aT:eu)(cT:Nat)(aH:eu)(cH:Nat)(aL:eu)(cL:Nat)
 (Y:acy w0 sb S aS cS aT cT aH cH aL cL) (hw:Doc.iq S) (hL:gI w0 Q bn L) (hn:L.length=R) (xe:∀x∈L,OW S.syms x) (hval:∀x∈L,x.val.length<=1000000) :
 ∀(k:Nat),k<S.terms.length->∀w,dB w0 w->
 dH 108 #[dK sb 0,.slice Q R bn,dw k] w λbg G=>sN (fZ L) S.terms k bg/\dB w G:=by
 intro k
 induction k using Nat.strongRecOn with
 | _ k ih=>
 intro hk w hb0;have hR:=gU;obtain⟨i0,hi,hz0,hz1,hz2⟩:=info_parts ni;have h80:=hw.book.many;have A:=tQ hw.book k hk;have IH:Hid (∀j,j<k->∀W,dB w W->dH 108 #[dK sb 0,.slice Q R bn,dw j] W λbg G=>sN (fZ L) S.terms j bg/\dB W G):=λj hj W hW=>ih j hj aR W (hb0.dW hW);obtain⟨t,ht⟩:∃t,S.terms[k]?=some t:=⟨_,aF hk⟩;have ht':=(aG ht).2;rw[ht']at A;obtain⟨g,rfl,hgl,aA,cA,k1,k2,hcc⟩:=Y.term k t ht;obtain⟨q0,q1,q2,q3,q4,_⟩:=hcc w hb0;have R7:=dn (λW (h:dB w W)=>gF (hcc W (hb0.dW h)).2.2.2.2.2);have d1:=Y.c1 w hb0;obtain⟨m1,m2⟩:=Y.l1;have HT:=dn ht;have Vi:=dn A.args;have qB:=A.few;have ahU:=A.op.1;have ahT:=A.op.2;have nC:=dn A.one;have xq:=dn A.two;have O9:=dn A.three;have CW:=dn A.num;have I5:Hid (t.op=18->∃j bB,t.args=[j,bB]/\jR S.terms j):=λh=>by have:=DL hw.book k hk;rw[ht']at this;exact this h
 have GD:Hid (t.op=15->jR S.terms k->∃j,t.args=[j]/\∃bA,S.terms[j]?=some bA/\bA.op=14):=λi ⟨_,h⟩=>by
  rw[ht']at h;rcases h with h|⟨_,j,hj,q,B⟩
  ·exact aR
  ·exact⟨j,q,_,aF hj,B⟩
 have U4:Hid (t.op≠1->t.op≠2->t.op≠13->t.op≠14->1<=t.args.length/\(t.op≠3->t.op≠15->2<=t.args.length)):=λi q B h4=>by
  have hm:=(hw.book.terms k hk).made;rw[ht']at hm;cases hm with
  | bool h _ _ _=>omega
  | num h _ _ _ _=>omega
  | app h _ _ _=>omega
  | form bq hf hop _ ha _ _=>
   obtain⟨_,_,_,_,_,_,f7,f8⟩:=zU bq hf;have hl:=Doc.jO ha;refine⟨aR,λ_ _=>?_⟩;have:=f8 aR aR;exact aR
 have EE:Hid (t.op=13->∀x∈L,x.sym=(t.sym:Nat)->x.other=false->x.args.length=t.args.length):=λ_ x u hs ho=>by
  have hm:=(hw.book.terms k hk).made;rw[ht']at hm;cases hm with
  | bool h _ _ _=>omega
  | num h _ _ _ _=>omega
  | form bq hf hop _ _ _ _=>have:=Doc.kM bq hf;omega
  | app _ hy ha _=>
   have i:=(xe x u).args ho;rw[hs,Int.toNat_natCast]at i;rw[i,<-ha,List.length_map]
 have HEN:=dn (λW (h:dB w W)=>hL.below (hb0.dW h))
 have HFV:Hid (∀o:dN,(o=[48]\/∃x∈L,o=x.val)->∃z:Int,o=dC.dec z/\(dC.dec z).length<=1000000):=λo h=>by
  rcases h with rfl|⟨x,u,rfl⟩
  ·exact⟨0,by rw[dC.gV],by rw[dC.gV];simp⟩
  ·obtain⟨z,H⟩:=dC.qD (xe x u).val;exact⟨z,H,by rw[<-H];exact hval x u⟩
 have aih:=hL.le;have alh:=hL.max;rw[hn]at aih;have HN:=dn hn;obtain⟨NT,uP⟩:=aK S.terms.length;rw[uP]at d1 m1 hk h80;have HST:=dn (Eh.start w t aA cA);obtain⟨o,b,Z,r,s⟩:=t;simp only at q0 q1 q2 q3 q4 k1 R7 Vi qB ahU ahT nC xq O9 CW I5 GD U4 EE HST;obtain⟨v,oM⟩:=aK s.length;have Dq:=dn oM;rw[oM]at q4 k1 qB nC xq O9 U4 EE HST;clear ih Y hw hL hn xe hval hb0 A ht ht' hcc uP oM;go_enter func108,ntmps108;go_wp2_with fail;clear q0 q1 q2 q3 q4 d1
 go_loopw [8,9] (fun bC l wr=>∃(j:Nat) (a:List Int),l=dw j/\j<=v/\a.length=j/\wr.ownsRow (w.heap.size+1) 9 1 bC (nM a).length ((nM a).map eO)/\Eg (fZ L) S.terms k s a/\Eh w wr ⟨o,b,Z,r,s⟩ aA cA) (fun _ l _=>v-(intOf l).toNat)
 ·exact⟨0,[],rfl,aR,rfl,World.ownsRow_nil _ _ _ _,⟨aW,aW,aW⟩,by first|exact HST.o|(have:=HST.o;rw[<-Dq.o]at this;exact this)|(rw[Dq.o]at *;exact HST.o)⟩
 case round=>
  obtain⟨j,a,rfl,hj,hzl,hown,hok,hst⟩:=hrel;have zh:=dn hzl;have HO:=dn hown;have oP:=dn hok;have HS:=dn hst;obtain⟨b0,b1,b2,b3,b4⟩:=hst.box;simp only at b0 b1 b2 b3 b4;rw[Dq.o]at b4;have hlt:=hst.lt;clear hzl hown hok hst
  by_cases hjl:j<v
  ·obtain⟨x,u⟩:∃x,s[j]?=some x:=⟨_,aF (by rw[Dq.o];exact hjl)⟩;have hxk:=Vi.o x (List.mem_of_getElem? u);obtain⟨ga,rfl,I⟩:=R7.o wr HS.o.ek j x u;have n:=dn (IH.o x hxk wr HS.o.ek);have HX:=dn u;clear u;go_wp2_with fail;refine n.o.mono ?_;rintro bg w2 ⟨⟨z,rfl,hzv,hz1',hz2',aeD⟩,m⟩;have HS2:=dn (HS.o.below m);have zo:=dn (ownsRow_below HO.o m);have JS:Hid (Eg (fZ L) S.terms k s (a++[z])):=oP.o.snoc (by rw[zh.o];exact HX.o) hxk hz1' hz2' aeD hzv;have hs2:=m.size;have hdl:(nM a).length=j:=by rw[nM,List.length_map];exact zh.o
   have YH:=dn hdl;have HDS:Hid (nM (a++[z])=nM a++[dC.dec z]):=by show _=_;simp[nM]
   clear m hz2' aeD hzv b0 b1 b2 b3 b4 I hdl;have ali:(nM a).length<=4:=by rw[YH.o];omega
   generalize nM a=ds at *;generalize dC.dec z=dz at *;go_wp2_with (at_builtin;refine dU rfl (.tmp 36) (.tmp 38) 45 rfl (w.heap.size+1) 9 i0 (eB) 1 16 underlying45 hi hz0 hz1 hz2 rfl aY _ ds.length (ds.map eO) rfl (by exact zo.o.alloc _) (dA w2.heap.size 0) 1 [eO dz] rfl rfl bP bX bz aR aX ?_;intro gn fD w3 hown' hgrow _ tu);have BG:Hid (w3.ownsRow (w.heap.size+1) 9 1 (dJ gn (ds.length+1) fD) (ds++[dz]).length ((ds++[dz]).map eO)):=by rw[List.length_append,List.map_append];exact hown'
   have mO:Hid (Eh w w3 ⟨o,b,Z,r,s⟩ (some (dA ga 0)) cA):=(HS2.o.below ai).grown hgrow (λx u=>(zo.o.lt x u).1);clear hown' hgrow tu;go_wp2;go_roundw
   ·exact⟨j+1,a++[z],bL,aR,by rw[List.length_append,zh.o];rfl,by rw[HDS.o];exact BG.o,JS.o,mO.o⟩
   ·exact aph
  ·have hzn:a.length=v:=by rw[zh.o];omega
   have Dm:=dn hzn;have rE:=dn (Mm HO.o);obtain⟨av,cv,Y,hv1,hv2⟩:=rE.o.form;rw[show(nM a).length=v by rw[nM,List.length_map];exact hzn]at Y hv1;subst Y;have p:=dn HS.o.ek;have acf:∀(l Q:Nat) (z:Int),s[l]?=some Q->a[l]?=some z->((∃t,S.terms[Q]?=some t/\t.op=14)->(dC.dec z).length<=8)/\(jR S.terms Q->(dC.dec z).length<=10):=oP.o.num;have acH:=dn acf;have J:=dn oP.o.len
   have K:Hid (∀l,l<v->∃z g,a[l]?=some z/\z∈a/\av=some (dA g 0)/\wr.dQ g l=some (dD (dC.dec z))):=λl hi=>by
    obtain⟨z,H⟩:∃z,a[l]?=some z:=⟨_,aF (by rw[Dm.o];exact hi)⟩;obtain⟨g,T,e2⟩:=rE.o.get l _ (Oo H);exact⟨z,g,H,List.mem_of_getElem? H,T,e2⟩
   have aby:Hid (Doc.value (fZ L) S.terms k=Doc.tv (fZ L) ⟨o,b,Z,r,s⟩ a):=by
    show _=_;rw[Doc.yC HT.o Vi.o];have i:=oP.o.val;rw[List.take_of_length_le (by rw[Dq.o,Dm.o];exact ae)]at i;rw[<-i]
   have C:Hid (∀z:Int,b≠14->b≠15->(dC.dec z).length<=1000000+20*(k+1)->z=Doc.tv (fZ L) ⟨o,b,Z,r,s⟩ a->sN (fZ L) S.terms k (dF (dD (dC.dec z)))):=λz i q B h4=>sN.plain HT.o i q B (h4.trans aby.o.symm);clear acf hzn HO zh
   by_cases c1:b=1
   ·have e:Hid (sN (fZ L) S.terms k (dF (.string ⟨#[49]⟩))):=by have:=C.o 1 aR aR an9 (Doc.aee c1).symm;rw[dC.lD]at this;exact this
    subst c1;go_wp2;go_ret;exact⟨e.o,p.o⟩
   have t1:((b:Int)==1)=false:=ak aR
   by_cases c2:b=2
   ·have e:Hid (sN (fZ L) S.terms k (dF (.string ⟨#[48]⟩))):=by have:=C.o 0 aR aR aoa (Doc.aed c2).symm;rw[dC.gV]at this;exact this
    subst c2;go_wp2;go_ret;exact⟨e.o,p.o⟩
   have t2:((b:Int)==2)=false:=ak aR
   by_cases M:b=14
   ·have e:Hid (sN (fZ L) S.terms k (dF (dD o))):=by
     obtain⟨z,i,q⟩:=CW.o M;have B:z=Doc.value (fZ L) S.terms k:=by rw[aby.o,Doc.Si M];show z=Doc.num o;rw[i,Doc.EK]
     rw[i]at q ⊢;exact⟨z,rfl,B,aR,λ_=>q,λ_=>aR⟩
    subst M;go_wp2;go_ret;exact⟨e.o,p.o⟩
   have t14:((b:Int)==14)=false:=ak aR
   by_cases c13:b=13
   ·have n:=dn (Vs Q av bn cv R v r L (nM a) wr (HEN.o wr p.o) HN.o rE.o (by rw[nM,List.length_map];exact Dm.o) ⟨hv1,hv2⟩ (EE.o c13))
    have e:Hid (sN (fZ L) S.terms k (dF (dD (Doc.look (fZ L) r (nM a))))):=by
     obtain⟨z,i,H⟩:=HFV.o _ (Z0 L r (nM a));have q:=C.o z aR aR aR (by rw[Doc.Sj c13];show z=Doc.num (Doc.look (fZ L) r (nM a));rw[i,Doc.EK]);rw[i];exact q
    subst c13;go_wp2_with fail;refine n.o.mono ?_;rintro bg w2 ⟨hf,m⟩;unfold acU at hf;subst hf;have U:=dn e.o;have y:=dn (p.o.dW m);clear m;generalize Doc.look (fZ L) r (nM a)=tt at *;go_wp2;go_ret;exact⟨U.o,y.o⟩
   have t13:((b:Int)==13)=false:=ak aR
   by_cases c12:b=12
   ·have B:=O9.o c12;subst B;obtain⟨c,g,p0,D,rfl,E⟩:=K.o 0 aR;obtain⟨f,g',p1,V,d,I⟩:=K.o 1 aR;injection d with d
    injection d with d;subst d;obtain⟨x2,g',p2,m2',d,r2⟩:=K.o 2 aR;injection d with d;injection d with d;subst d;have N:Hid (Doc.tv (fZ L) ⟨o,b,Z,r,s⟩ a=if (c==1)=true then f else x2):=by show _=_;rw[Doc.Sk c12,Doc.iI p0,Doc.iI p1,Doc.iI p2];simp only[beq_iff_eq]
    have e:Hid ((c==1)=true->sN (fZ L) S.terms k (dF (dD (dC.dec f)))):=λh=>C.o f aR aR (aP (J.o f V)) (by rw[N.o,if_pos h]);have U:Hid ((c==1)=false->sN (fZ L) S.terms k (dF (dD (dC.dec x2)))):=λh=>C.o x2 aR aR (aP (J.o x2 m2')) (by rw[N.o,h];rfl);have Jb:=dn (Doc.yV c);clear D V m2' p0 p1 p2;generalize dC.dec c=X at *;generalize dC.dec f=y1 at *;generalize dC.dec x2=y2 at *;subst c12;cases e0:(X==[49])
    ·have HR3:=dn (U.o (by rw[<-Jb.o];exact e0));clear e U Jb N;go_wp2;go_ret;exact⟨HR3.o,p.o⟩
    ·have HR3:=dn (e.o (by rw[<-Jb.o];exact e0));clear e U Jb N;go_wp2;go_ret;exact⟨HR3.o,p.o⟩
   have t12:((b:Int)==12)=false:=ak aR
   by_cases O:b=15
   ·have i:=nC.o aR;subst i;obtain⟨c,g,F,D,rfl,E⟩:=K.o 0 aR;have l0:=J.o c D;have hnl:=rR c
    have e:Hid (sN (fZ L) S.terms k (dF (dD (dC.dec (-c))))):=by
     refine⟨-c,rfl,by rw[aby.o,Doc.Sg O,Doc.iI F],aR,fun⟨t',T,e2⟩=>?_,λhnt=>?_⟩
     ·rw[HT.o]at T;injection T with T;subst T;simp only at e2;exact aR
     ·obtain⟨j,T,e2⟩:=GD.o O hnt;have:=(acH.o 0 j c (by rw[T];rfl) F).1 e2;exact aR
    have n:=dn (RA c wr aR);clear F D l0 hnl;generalize dC.dec (-c)=y1 at *;generalize dC.dec c=X at *;subst O;go_wp2_with fail;refine n.o.dX λw2 m=>?_;have y:=dn (p.o.dW m);clear m;go_wp2;go_ret;exact⟨e.o,y.o⟩
   have t15:((b:Int)==15)=false:=ak aR
   by_cases c17:b=17
   ·have q:=xq.o aR;subst q;obtain⟨c,g,F,D,rfl,E⟩:=K.o 0 aR;obtain⟨f,g',hx1,V,d,I⟩:=K.o 1 aR;injection d with d
    injection d with d;subst d;have l0:=J.o c D;have l1:=J.o f V;have hsl:=vX c f;have e:=dn (C.o (c-f) aR aR aR (by rw[Doc.Sc c17,Doc.iI F,Doc.iI hx1]));have n:=dn (λW=>JR c f W aR aR);clear F hx1 D V l0 l1 hsl;generalize dC.dec (c-f)=y2 at *;generalize dC.dec c=X at *;generalize dC.dec f=y1 at *;subst c17;go_wp2_with fail;go_region_held3 (fun G=>G.dQ g 0=some (dD X)/\G.dQ g 1=some (dD y1)) (go_keep) (first|(go_at_call 160;refine(n.o _).dX fun w4 P=>?_;have s0:=(Below.cell P (p:=dA g 0) (aj E)).trans E;have s1:=(Below.cell P (p:=dA g 1) (aj I)).trans I));exact aqK
   have t17:((b:Int)==17)=false:=ak aR
   by_cases c18:b=18
   ·have q:=xq.o aR;subst q;obtain⟨c,g,F,D,rfl,E⟩:=K.o 0 aR;obtain⟨f,g',hx1,V,d,I⟩:=K.o 1 aR;injection d with d
    injection d with d;subst d;obtain⟨j0,m0',hja,hjn⟩:=I5.o c18;have l0':=(acH.o 0 j0 c (by rw[hja];rfl) F).2 hjn;have l0:=J.o c D;have l1:=J.o f V;have hsl:=Av c f;have e:=dn (C.o (c*f) aR aR aR (by rw[Doc.Sb c18,Doc.iI F,Doc.iI hx1]));have n:=dn (λW=>RB c f W aR aR);clear F hx1 D V l0 l1 hsl;generalize dC.dec (c*f)=y2 at *;generalize dC.dec c=X at *;generalize dC.dec f=y1 at *;subst c18;go_wp2_with fail;go_region_held3 (fun G=>G.dQ g 0=some (dD X)/\G.dQ g 1=some (dD y1)) (go_keep) (first|(go_at_call 161;refine(n.o _).dX fun w4 P=>?_;have s0:=(Below.cell P (p:=dA g 0) (aj E)).trans E;have s1:=(Below.cell P (p:=dA g 1) (aj I)).trans I));exact aqK
   have t18:((b:Int)==18)=false:=ak aR
   by_cases c16:b=16
   ·have HD0:Hid ([48]=dC.dec 0):=by show _=_;rw[dC.gV]
    have agz:Hid (b≠14/\b≠15):=⟨M,O⟩;have abD:Hid (Doc.tv (fZ L) ⟨o,b,Z,r,s⟩ a=a.sum):=Doc.Sd c16;have t16:((b:Int)==16)=true:=bM;clear c16 c1 c2 c12 c13 M O c17 c18;go_wp2_with fail
    go_loopw [11,12] (fun bD l wx=>∃(j:Nat) (z:Int),l=dw j/\j<=v/\bD=dD (dC.dec z)/\(dC.dec z).length<=1000000+20*k+2*j/\dB wr wx/\z=(a.take j).sum) (fun _ l _=>v-(intOf l).toNat)
    ·exact⟨0,0,rfl,aR,by rw[<-HD0.o],by rw[<-HD0.o];simp;omega,af,aW⟩
    case round=>
     obtain⟨j,z,rfl,hj,rfl,hzl,hbj,hsm⟩:=hrel;have oO:=dn hsm;clear hsm;rename World=>wj;have oh:=dn hbj;have jG:=dn (p.o.dW hbj)
     by_cases hjl:j<v
     ·obtain⟨x,g,hxj,hxm,rfl,E⟩:=K.o j hjl;have abE:Hid (z+x=(a.take (j+1)).sum):=by show _=_;rw[Doc.F7 hxj,<-oO.o]
      clear hxj;have I:=hbj.eT E;have lx:=J.o x hxm;have hal:=mX z x;have n:=dn (vQ z x wj aR aR);have HL2:Hid ((dC.dec (z+x)).length<=1000000+20*k+2*(j+1)):=by show _<=_;omega
      clear hbj E hxm lx hal;generalize dC.dec z=X at *;generalize dC.dec x=y1 at *;obtain⟨y2,hy2⟩:=aK (dC.dec (z+x));rw[hy2]at n;have RF:=dn hy2;clear hy2;go_wp2_with fail;refine n.o.dX λw2 m=>?_;have y:=dn (oh.o.dW m);clear m;go_wp2;go_roundw
      ·exact⟨j+1,z+x,bL,aR,by rw[RF.o],HL2.o,y.o,abE.o⟩
      ·exact aph
     ·have e:=dn (C.o z agz.o.1 agz.o.2 aR (by rw[abD.o,oO.o,List.take_of_length_le (by rw[Dm.o];omega)]));clear hbj;generalize dC.dec z=X at *;go_wp2;go_ret;exact⟨e.o,jG.o⟩
   have t16:((b:Int)==16)=false:=ak aR;have hr:=U4.o c1 c2 c13 M;have n:=dn (Vy b v cv av a wr rE.o Dm.o ⟨hv1,hv2⟩ hr.1 (λB=>hr.2 B O) (λz H=>aP (J.o z H)));have N:Hid (Doc.tv (fZ L) ⟨o,b,Z,r,s⟩ a=if Doc.truth b a then 1 else 0):=Doc.Mg c1 c2 M c13 c12 O c17 c18 c16;obtain⟨bb,hbb⟩:=aK (Doc.truth b a);rw[hbb]at n N;clear hbb
   have e:Hid (sN (fZ L) S.terms k (dF (eO (if bb=true then [49] else [48])))):=by
    cases bb
    ·have:=C.o 0 M O aoa N.o.symm;rw[dC.gV]at this;exact this
    ·have:=C.o 1 M O an9 N.o.symm;rw[dC.lD]at this;exact this
   clear N;have akf:=dn (λbb W=>adT bb W);go_wp2_with fail;refine n.o.dX λw2 m=>?_;have y:=dn (p.o.dW m);have U:=dn e.o;have jl:=dn (akf.o bb w2);clear m;obtain⟨tb,htb⟩:∃tb:dN,(if bb=true then [49] else [48])=tb:=⟨_,rfl⟩;rw[htb]at U jl;clear htb;go_wp2_with fail;refine jl.o.dX λw3 hw3=>?_;subst hw3;simp only[eO];go_wp2;go_ret;exact⟨U.o,y.o⟩
theorem UL (b O:Nat)(own:Own)(S:Doc.dO)(f:eu)(g n:Nat)(L:List fU)(w:World)(z:ed w own O b S)(i:Doc.iq S)(j:gI w f g L)(r:L.length=n)
 (A:∀x∈L,x.val.length<=1000000/\∀y∈x.args,y.length<=1000000) (P:∀x∈L,-9223372036854775808<=x.sym/\x.sym<=9223372036854775807) :
 dH 47 #[dK b 0,.slice f n g] w λk d=>kL S L k/\dB w d:=by
 have hR:=gU;obtain⟨aS,cS,aT,cT,aH,Q,aL,cL,l⟩:=z.view;have HV:=dn l;have xu:=dn (UR b O own S f g n L w z i j r A P)
 have AQ:Hid ((∀x∈L,OW S.syms x)->∀B,B<S.terms.length->∀W,dB w W->dH 108 #[dK b 0,.slice f n g,dw B] W λk d=>sN (fZ L) S.terms B k/\dB W d):=
  λhl=>XZ b S f g n L w aS cS aT cT aH Q aL cL l i j r hl (λx C=>(A x C).1)
 have R:=dn l.c2;obtain⟨m1,m2⟩:=l.l2;have RO:=dn i.held;have hh12:=i.qR;have hc1:=j.le;have hc2:=j.max;rw[r]at hc1;obtain⟨s,D⟩:=aK S.held.length;have T:=dn D;rw[D]at m1 hh12 R;clear l z i j r A P D;go_enter func47,ntmps47;go_wp2_with fail;refine xu.o.mono ?_;rintro k w1 ⟨U,V⟩;unfold pU at U;subst U;have X:=dn V;obtain⟨E,F⟩:=aK (Doc.lawful S.syms (fZ L));have t:=dn F;rw[F];clear F V;cases E
 ·go_wp2;go_ret2;exact⟨.law t.o,X.o⟩
 ·have HVA:=dn (AQ.o (λx C=>OW.of (by have c:=t.o;unfold Doc.lawful at c;rw[List.all_eq_true]at c;exact c x.en (List.mem_map_of_mem C))));go_wp2_with fail
  go_loopw [7] (fun G wr=>∃q:Nat,G=dw q/\q<=s/\dB w wr/\∀h∈S.held.take q,Doc.value (fZ L) S.terms h=1) (fun G _=>s-(intOf G).toNat)
  ·exact⟨0,rfl,aR,X.o,aW⟩
  case round=>
   obtain⟨q,rfl,hq,H,Y⟩:=hrel;have rF:=dn Y;clear Y;have e:=dn H;have I:=R.o wr H;clear H
   by_cases hlt:q<s
   ·obtain⟨h,m⟩:∃h,S.held[q]?=some h:=⟨_,aF (by rw[T.o];exact hlt)⟩;obtain⟨J,rfl,hgh,hch⟩:=HV.o.held q h m;have K:=hch wr e.o;have HC:=dn (λW hW=>HVA.o h (RO.o h (List.mem_of_getElem? m)).1 W hW);have u:Hid ((Doc.value (fZ L) S.terms h==1)=false->kL S L (dF (dM #[dP,dw 0]))):=λc=>.yes t.o false (by rw[List.all_eq_false];exact⟨h,List.mem_of_getElem? m,by rw[c];simp⟩)
    have v:Hid ((Doc.value (fZ L) S.terms h==1)=true->∀y∈S.held.take (q+1),Doc.value (fZ L) S.terms y=1):=λc y a=>by
     rw[List.take_add_one,m]at a;rcases List.mem_append.1 a with a|a
     ·exact rF.o y a
     ·have:y=h:=amr;rw[this];exact beq_iff_eq.1 c
    have o:=dn (Doc.yV (Doc.value (fZ L) S.terms h));clear m hch;obtain⟨Z,M⟩:=aK (Doc.value (fZ L) S.terms h);have HZ:=dn M;rw[M]at u v o;clear M;go_upto_region 7 with fail
    go_cut [8] (fun y wx=>y=dD (dC.dec Z)/\dB w wx)
    case first=>
     go_region_held3 (fun d=>d.dQ b 2=some (dJ J s Q)/\d.dQ J q=some (dw (h:Nat))) (go_keep) (first|(go_at_call 108;refine(HC.o _ (by first|exact e.o|exact e.o.drew)).mono ?_;rintro k w4 ⟨⟨bg,rfl,hzv,hz1,hz2,hz3⟩,N⟩;have ahI:=dn (hzv.trans HZ.o);clear hzv hz1 hz2 hz3;have s0:=(Below.cell N (p:=dA b 2) (aj I)).trans I;have s1:=(Below.cell N (p:=dA J q) (aj K)).trans K));go_wp2;go_meet
     ·exact⟨by rw[ahI.o],e.o.trans ((af.drew.trans N).mono e.o.size)⟩
    case rest=>
     obtain⟨rfl,hbw⟩:=hcut;have jG:=dn hbw;clear hbw I K;generalize dC.dec Z=tz at *;cases e1:(tz==[49])
     ·have p:=dn (u.o (by rw[<-o.o];exact e1));clear u v o;go_wp2;go_ret2;exact⟨p.o,jG.o⟩
     ·have p:=dn (v.o (by rw[<-o.o];exact e1));clear u v o;go_wp2;go_roundw
      ·exact⟨q+1,bL,aR,jG.o,p.o⟩
      ·exact aph
   ·have p:Hid (kL S L (dF (dM #[fu,dw 0]))):=.yes t.o true (by
     rw[List.all_eq_true];intro y a;rw[<-List.take_of_length_le (l:=S.held) (i:=q) (by rw[T.o];omega)]at a;rw[beq_iff_eq];exact rF.o y a)
    go_wp2;go_ret2;exact⟨p.o,e.o⟩
