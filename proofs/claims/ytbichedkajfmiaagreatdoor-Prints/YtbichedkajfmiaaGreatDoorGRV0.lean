import Derived.Test.YtbichedkajfmiaaGreatDoorGLW0
import Derived.Test.YtbichedkajfmiaaGreatDoorGNumMath2
import Derived.Test.YtbichedkajfmiaaGreatDoorGPS10
import Derived.Test.YtbichedkajfmiaaGreatDoorGRef22
import Derived.Test.YtbichedkajfmiaaGreatDoorC
set_option maxRecDepth 100000
set_option maxHeartbeats 16000000
namespace Go.Proofs.YtbichedkajfmiaaGreatDoor
open Go.RowKit
variable {N i j k m n:Nat}{W w:World}{a d:Option Addr}{c:List fU}{f:List Int}{l:List Nat}{v:Value}{x:List UInt8}{z:Int}
structure Yy (w:World)(sb:Nat)(S:Doc.dB)(aS:Option Addr)(cS:Nat)(aT:Option Addr)(cT:Nat)(aH:Option Addr)(cH:Nat)(aL:Option Addr)(cL:Nat):Prop where
 lt:sb<w.heap.size
 c0:∀W,Below w.heap.size w W->W.cell? ⟨sb,0,none⟩=some (.slice aS S.syms.length cS)
 c1:∀W,Below w.heap.size w W->W.cell? ⟨sb,1,none⟩=some (.slice aT S.terms.length cT)
 c2:∀W,Below w.heap.size w W->W.cell? ⟨sb,2,none⟩=some (.slice aH S.held.length cH)
 c3:∀W,Below w.heap.size w W->W.cell? ⟨sb,3,none⟩=some (.slice aL S.levels.length cL)
 l0:S.syms.length<=cS/\cS<=2 ^ 63-1
 l1:S.terms.length<=cT/\cT<=2 ^ 63-1
 l2:S.held.length<=cH/\cH<=2 ^ 63-1
 l3:S.levels.length<=cL/\cL<=2 ^ 63-1
 sym:∀i x,S.syms[i]?=some x->∃g,aS=some ⟨g,0,none⟩/\g<w.heap.size/\∃aA cA,x.args.length<=cA/\cA<=2 ^ 63-1/\∀W,Below w.heap.size w W->W.cell? ⟨g,i*3,none⟩=some (.string ⟨x.name.toArray⟩)/\W.cell? ⟨g,i*3+1,none⟩=some (.slice aA x.args.length cA)/\W.cell? ⟨g,i*3+2,none⟩=some (.int .i64 x.sort)/\dY W (.slice aA x.args.length cA) x.args
 term:∀i t,S.terms[i]?=some t->∃g,aT=some ⟨g,0,none⟩/\g<w.heap.size/\∃aA cA,t.args.length<=cA/\cA<=2 ^ 63-1/\∀W,Below w.heap.size w W->W.cell? ⟨g,i*5,none⟩=some (.string ⟨t.text.toArray⟩)/\W.cell? ⟨g,i*5+1,none⟩=some (.int .i64 t.op)/\W.cell? ⟨g,i*5+2,none⟩=some (.int .i64 t.sort)/\W.cell? ⟨g,i*5+3,none⟩=some (.int .i64 t.sym)/\W.cell? ⟨g,i*5+4,none⟩=some (.slice aA t.args.length cA)/\dY W (.slice aA t.args.length cA) t.args
 held:∀i n,S.held[i]?=some n->∃g,aH=some ⟨g,0,none⟩/\g<w.heap.size/\∀W,Below w.heap.size w W->W.cell? ⟨g,i,none⟩=some (.int .i64 (n:Nat))
 yJ:∀i l,S.levels[i]?=some l->∃g,aL=some ⟨g,0,none⟩/\g<w.heap.size/\∀W,Below w.heap.size w W->W.cell? ⟨g,i*3,none⟩=some (.int .i64 l.1)/\W.cell? ⟨g,i*3+1,none⟩=some (.int .i64 l.2.1)/\W.cell? ⟨g,i*3+2,none⟩=some (.int .i64 l.2.2)
theorem Ew (h:dY w v l):∃a c,v=.slice a l.length c/\l.length<=c/\c<=2 ^ 63-1:=by
 obtain⟨a,c,b,d,e,_⟩:=h;exact⟨a,c,b,d,e⟩
theorem dE.view {own:Own}{S:Doc.dB}(p:dE w own n m S):∃t u v x y z A B,Yy w m S t u v x y z A B:=by
 have P:=p.lt;have bk:=p.book;obtain⟨v0,Q,J⟩:=p.syms;obtain⟨v1,R,K⟩:=p.terms;obtain⟨v2,T,L⟩:=p.held;obtain⟨v3,U,M⟩:=p.levels;obtain⟨t,u,rfl,V,X⟩:=J.form;obtain⟨v,x,rfl,Y,Z⟩:=K.form;obtain⟨y,z,rfl,q21,q22⟩:=L.form;obtain⟨A,B,rfl,q31,q32⟩:=M.form;have c:∀{N:Addr} {O:Value},w.cell? N=some O->∀W,Below w.heap.size w W->W.cell? N=some O:=fun f W a=>(a.cell (ai f)).trans f;refine⟨t,u,v,x,y,z,A,B,P,c Q,c R,c T,c U,⟨V,X⟩,⟨Y,Z⟩,⟨q21,q22⟩,⟨q31,q32⟩,fun i bg g=>?_,fun i bn ht=>?_,fun i bq hn=>?_,fun i bA hl=>?_⟩
 ·obtain⟨hi,g⟩:=List.getElem?_eq_some_iff.1 g;obtain⟨C,D,d,_,_,h⟩:=J.sl;injection d with d _ _
  subst d;obtain⟨j,k,_,f⟩:=h i hi;obtain⟨q,_,l,b⟩:=f hi;obtain⟨av,rfl,o⟩:=l;rw[g]at b o;obtain⟨E,F,rfl,G,H⟩:=Ew o.ints;have e:=b 0 _ aO rfl;have r:=b 1 _ aO rfl;have s:=b 2 _ aO rfl;exact⟨j,k,ai e,E,F,G,H,fun W a=>⟨c e W a,c r W a,c s W a,o.ints.below a⟩⟩
 ·obtain⟨hi,g⟩:=List.getElem?_eq_some_iff.1 ht;obtain⟨C,D,d,_,_,h⟩:=K.sl;injection d with d _ _
  subst d;obtain⟨j,k,_,f⟩:=h i hi;obtain⟨q,_,l,b⟩:=f hi;obtain⟨av,rfl,o⟩:=l;rw[g]at b o;obtain⟨E,F,rfl,G,H⟩:=Ew o.ints;have e:=b 0 _ aO rfl;have r:=b 1 _ aO rfl;have s:=b 2 _ aO rfl;have d3:=b 3 _ aO rfl;have d4:=b 4 _ aO rfl;exact⟨j,k,ai e,E,F,G,H,fun W a=>⟨c e W a,c r W a,c s W a,c d3 W a,c d4 W a,o.ints.below a⟩⟩
 ·obtain⟨hi,g⟩:=List.getElem?_eq_some_iff.1 hn;obtain⟨C,D,d,_,_,h⟩:=L.sl;injection d with d _ _
  subst d;obtain⟨j,k,_,f⟩:=h i hi;obtain⟨q,_,l,b⟩:=f hi;have I:q=[.int .i64 (S.held[i]:Int)]:=l;subst I;have e:=b 0 _ aO rfl;rw[show i*1+0=i by omega,g]at e;exact⟨j,k,ai e,fun W a=>c e W a⟩
 ·obtain⟨hi,g⟩:=List.getElem?_eq_some_iff.1 hl;obtain⟨C,D,d,_,_,h⟩:=M.sl;injection d with d _ _
  subst d;obtain⟨j,k,_,f⟩:=h i hi;obtain⟨q,_,l,b⟩:=f hi;have I:q=[.int .i64 (S.levels[i].1:Int),.int .i64 (S.levels[i].2.1:Int),.int .i64 (S.levels[i].2.2:Int)]:=l;subst I;rw[g]at b;have e:=b 0 _ aO rfl;have r:=b 1 _ aO rfl;have s:=b 2 _ aO rfl;exact⟨j,k,ai e,fun W a=>⟨c e W a,c r W a,c s W a⟩⟩
def yY (S:Doc.dB)(q f0 f2:Nat)(y:List UInt8):Prop:=(q<=S.levels.length/\ym S q f0 f2 y)\/(q=S.levels.length+1/\y=Doc.print S)
theorem yY.cd {S:Doc.dB}(h:ym S n m k x)(u:n<=S.levels.length)(i:Doc.fQ S) :
 ∃c d:Nat,((n<S.levels.length/\∃b,S.levels[n]?=some (c,b,d))\/(n=S.levels.length/\c=S.syms.length/\d=S.held.length))/\m<=c/\c<=S.syms.length/\k<=d/\d<=S.held.length/\
  yY S (n+1) c d (x++(Doc.part S m k c d++(if n<S.levels.length then Doc.pI else []))):=by
 by_cases a:n<S.levels.length
 ·obtain⟨l,e⟩:∃l,S.levels[n]?=some l:=⟨_,aD a⟩;obtain⟨j,o,p,q,r⟩:=h.next i e;obtain⟨s,b,t⟩:=l;exact⟨s,t,.inl ⟨a,b,e⟩,j,p,o,q,.inl ⟨a,by rw[if_pos a];exact r⟩⟩
 ·have f:n=S.levels.length:=aO;have g:=h.text;rw[f,List.drop_length]at g;exact⟨S.syms.length,S.held.length,.inr ⟨f,rfl,rfl⟩,h.a,ae,h.b,ae,.inr ⟨aO,by rw[if_neg a,List.append_nil];exact g⟩⟩
theorem yY.len {S:Doc.dB}(h:yY S n m k x)(a:Doc.fQ S):x.length<=100000:=by
 rcases h with ⟨_,h⟩|⟨_,rfl⟩
 ·exact h.len a
 ·have c:=uj a S.levels 0 0;have b:Doc.print S=Doc.kU S S.levels 0 0:=rfl;have:=a.rY;have:(S.levels.length+1)*14000<=5*14000:=Nat.mul_le_mul_right _ aO;rw[b];exact aO
theorem UX {a:List Doc.Term}{t:Doc.Term}(h:a[n]?=some t):Doc.fe a n=t.text:=by unfold Doc.fe;rw[h]
theorem Qz (sb bg:Nat)(own:Own)(S:Doc.dB)(w:World)(hS:dE w own bg sb S)(o:Doc.fQ S) :
 Calls Tryz.prog 47 #[.pointer (some ⟨sb,0,none⟩)] w fun p P=>p=.returned (.string ⟨(Doc.print S).toArray⟩)/\Below w.heap.size w P:=by
 have hR:=fJ;have CU:=o.book.few;have hh12:=o.pE;have hl4:=o.rY;obtain⟨aS,cS,aT,cT,aH,cH,aL,cL,f⟩:=hS.view;have W:=di f;obtain⟨m01,m02⟩:=f.l0;obtain⟨m11,m12⟩:=f.l1;obtain⟨m21,m22⟩:=f.l2;obtain⟨m31,m32⟩:=f.l3;have HW:=di o;have HT:=di o.book.long;have Oh:=di o.held;have Dp:=di f.c0;have kv:=di f.c1;have X:=di f.c2;have Q:=di f.c3;have ry:Hid (yY S 0 0 0 []):=.inl ⟨aO,by simp[Doc.print],aO,aO,fun bB _=>⟨aO,aO⟩⟩
 have Y:Hid (∀q b c y,yY S q b c y->q<=S.levels.length->∃d e:Nat,((q<S.levels.length/\∃l1,S.levels[q]?=some (d,l1,e))\/(q=S.levels.length/\d=S.syms.length/\e=S.held.length))/\b<=d/\d<=S.syms.length/\c<=e/\e<=S.held.length/\
  yY S (q+1) d e (y++(Doc.part S b c d e++(if q<S.levels.length then Doc.pI else [])))):=fun q b c y h hq=>by
  rcases h with ⟨_,h⟩|⟨h,_⟩
  ·exact yY.cd h hq HW.o
  ·exact aO
 have HLEN:Hid (∀q b c y,yY S q b c y->y.length<=100000):=fun q b c y h=>h.len HW.o
 have acH:Hid (∀b c y,yY S (S.levels.length+1) b c y->y=Doc.print S):=fun b c y h=>by
  rcases h with ⟨h,_⟩|⟨_,h⟩
  ·exact aO
  ·exact h
 have Di:Hid (∀a i,(((S.syms.take i).drop a).flatMap Doc.jE).length<=1000):=fun a i=>by
  refine Nat.le_trans (mJ Doc.jE 100 _ (fun x H=>?_)) ?_
  ·rw[mZ,List.length_append];have:=sN (o.book.syms x (FN H));exact al6
  ·have:=vC S.syms a i;exact aO
 have HHL:Hid (∀u i,(((S.held.take i).drop u).flatMap (Doc.iw S.terms)).length<=12000):=fun u i=>by
  refine Nat.le_trans (mJ (Doc.iw S.terms) 1000 _ (fun x _=>Bp o.book.long x)) ?_;have:=vC S.held u i;exact aO
 have BQ:=di o.book.syms;have Uf:Hid (Doc.pI=[40,112,117,115,104,41,10]):=rfl;have YP:=di (fun bn bq=>Jq bn bq);have afc:=di ni;obtain⟨NS,Bq⟩:=aJ S.syms.length;obtain⟨NT,xy⟩:=aJ S.terms.length;obtain⟨NH,Av⟩:=aJ S.held.length;obtain⟨L,hL⟩:=aJ S.levels.length;generalize Doc.print S=res at *;have wM:=di Bq;have wL:=di xy;have Ul:=di Av;have HNL:=di hL;rw[Bq]at CU m01 Dp Y;rw[xy]at m11 kv;rw[Av]at hh12 m21 X Y;rw[hL]at hl4 m31 Q Y acH;have hsb:=f.lt;clear f hS o Bq xy Av hL;have I:=Q.o w af;go_enter Tryz.func47,Tryz.ntmps47;go_wp2_with fail;clear I
 go_loopw [3,4,5,6] (fun t a u i wr=>∃(q b c:Nat) (y:List UInt8),i=.int .i64 q/\a=.int .i64 b/\u=.int .i64 c/\q<=L+1/\t=.string ⟨y.toArray⟩/\yY S q b c y/\Below w.heap.size w wr) (fun _ _ _ i _=>L+1-(intOf i).toNat)
 case atStart=>exact⟨0,0,0,[],rfl,rfl,rfl,aO,rfl,ry.o,af⟩
 case round=>
  obtain⟨q,b,c,y,rfl,rfl,rfl,hq,rfl,hpr,g⟩:=hrel;have Ib:=di hpr;have qy:=di g;have hyl:=HLEN.o _ _ _ _ hpr;have d0:=Dp.o wr g;have d1:=kv.o wr g;have Z:=X.o wr g;have I:=Q.o wr g;clear hpr g
  by_cases hle:q<=L
  ·obtain⟨d,e,hcd,e1,e2,e3,e4,hnx⟩:=Y.o _ _ _ _ Ib.o hle;have jO:=di hnx;clear hnx;have hqi:(q:Int)<=(L:Int):=aO
   go_upto_if 39 with fail
   go_cut [7,8] (fun x z wx=>x=.int .i64 (d:Nat)/\z=.int .i64 (e:Nat)/\wx=wr)
   case first=>
    rcases hcd with ⟨hlt,l1,hl⟩|⟨rfl,rfl,rfl⟩
    ·obtain⟨bA,rfl,_,J⟩:=W.o.yJ q _ hl;obtain⟨z0,z1,z2⟩:=J wr qy.o;clear hl J;go_wp2_with fail;go_meet
     case rel=>exact⟨rfl,rfl,rfl⟩
    ·go_wp2_with fail;go_meet
     case rel=>exact⟨rfl,rfl,rfl⟩
   case rest=>
    obtain⟨rfl,rfl,hwc⟩:=hcut;have hwc':=hwc.symm;subst hwc';clear hwc d0 d1 Z I;have ahR:=di hcd;have HC8:Hid (d<=S.syms.length):=by show _<=_;rw[wM.o];exact e2
    have af5:Hid (e<=S.held.length):=by show _<=_;rw[Ul.o];exact e4
    have c8:d<=8:=aO;have d12:e<=12:=aO;clear hcd;go_wp2_with fail
    go_loopw [3,4] (fun t a wr=>∃(m:Nat) (z:List UInt8),a=.int .i64 m/\b<=m/\m<=d/\t=.string ⟨(y++z).toArray⟩/\z=((S.syms.take m).drop b).flatMap Doc.jE/\Below w.heap.size w wr) (fun _ a _=>d-(intOf a).toNat)
    case atStart=>exact⟨b,[],rfl,aO,e1,aP,by rw[Cq];rfl,qy.o⟩
    case round=>
     obtain⟨m,z,rfl,hfm,hmc,rfl,hz,g⟩:=hrel;rename World=>k;have HZ:=di hz;have E:=di g;have hzl:z.length<=1000:=by rw[hz];exact Di.o b m
     have Kw:(y++z).length<=101000:=akf;obtain⟨K,hu⟩:=aJ (y++z);rw[hu]at Kw ⊢;have HU:=di hu;clear hz g hu
     by_cases hlt:m<d
     ·obtain⟨x,H⟩:∃x,S.syms[m]?=some x:=⟨_,aD (Nat.lt_of_lt_of_le hlt HC8.o)⟩;obtain⟨bA,rfl,hgl,M,A,k1,k2,J⟩:=W.o.sym m x H;have hwx:=BQ.o x (List.mem_of_getElem? H);obtain⟨q0,q1,q2,_⟩:=J k E.o;have hbx:Below w.heap.size w (k.alloc (.cells #[.string ⟨x.name.toArray⟩,.slice M x.args.length A,.int .i64 x.sort] 174)):=E.o.alloc E.o.size _;have R:=di (eY (J _ hbx).2.2.2);have ug:=di hbx;have d0:=Dp.o k E.o;have hnl:=zF hwx;have pO:=hwx.few;have XF:=di (zG H hfm);have T:=di (mZ x);have B:Hid (lJ x=ky x++Doc.fK x.args++41::32::Doc.gZ x.sort++[41]):=rfl;have HH:Hid (ky x=[40,100,101,99,108,97,114,101,45,102,117,110,32]++x.name++[32,40]):=by show _=_;simp[ky,Doc.fV]
      have acg:=di (fun bg=>AU (x.args.take bg));obtain⟨r,tL⟩:=aJ x.args.length;have U:=di tL;rw[tL]at pO k1 q1 R ug;have aaY:=ni x.sort;obtain⟨l,hargs⟩:=aJ x.args;rw[hargs]at B acg U R;obtain⟨s,hso⟩:=aJ x.sort;rw[hso]at B q2 ug R aaY;obtain⟨F,hnm⟩:=aJ x.name;rw[hnm]at HH q0 hnl ug R;obtain⟨bd,hbd⟩:=aJ (lJ x);rw[hbd]at B T;obtain⟨hd,hhd⟩:=aJ (ky x);rw[hhd]at B HH;have hhl:hd.length<=30:=by rw[HH.o];simp;omega
      clear H hwx J hbx tL hargs hso hnm hbd hhd;go_wp2_with fail
      go_loopw [3,10] (fun t i wr=>∃(j:Nat) (v:List UInt8),i=.int .i64 j/\j<=r/\t=.string ⟨v.toArray⟩/\v=K++(hd++Doc.fK (l.take j))/\wr=k.alloc (.cells #[.string ⟨F.toArray⟩,.slice M r A,.int .i64 s] 174)) (fun _ i _=>r-(intOf i).toNat)
      case atStart=>exact⟨0,_,rfl,aO,rfl,by rw[HH.o];simp[Doc.fK],rfl⟩
      case round=>
       obtain⟨j,v,rfl,hj,rfl,f,hwr⟩:=hrel;rename World=>N;subst hwr;have O:=di f
       have hvl:v.length<=110000:=by
        have h2:=acg.o j;have h3:(l.take j).length<=2:=by rw[List.length_take,U.o];omega
        rw[f];simp only[List.length_append];exact aO
       clear f
       by_cases hjl:j<r
       ·obtain⟨n,hn⟩:∃n,l[j]?=some n:=⟨_,aD (by rw[U.o];exact hjl)⟩;obtain⟨ga,rfl,r1⟩:=R.o j n hn;have V:=di (YP.o n (k.alloc (.cells #[.string ⟨F.toArray⟩,.slice (some ⟨ga,0,none⟩) r A,.int .i64 s] 174)));have hnn:=afc.o n;have ru:Hid (l.take (j+1)=l.take j++[n]):=by show _=_;rw[List.take_add_one,hn];rfl
        have ach:=di (Eg n (l.take j));have kZ:Hid (0<j->l.take j≠[]):=fun h0 p=>by have:=congrArg List.length p;rw[List.length_take,U.o]at this;simp at this;omega
        have kG:Hid (j=0->Doc.fK (l.take j++[n])=Doc.gZ n):=fun h0=>by rw[h0];rfl
        have LG:Hid (j=0->Doc.fK (l.take j)=[]):=fun h0=>by rw[h0];rfl
        obtain⟨sn,G⟩:=aJ (Doc.gZ n);rw[G]at hnn ach kG;have Fx:Hid (Calls Tryz.prog 107 #[.int .i64 n] (k.alloc (.cells #[.string ⟨F.toArray⟩,.slice (some ⟨ga,0,none⟩) r A,.int .i64 s] 174)) fun p P=>p=.returned (.string ⟨sn.toArray⟩)/\P=(k.alloc (.cells #[.string ⟨F.toArray⟩,.slice (some ⟨ga,0,none⟩) r A,.int .i64 s] 174))):=by rw[<-G];exact V.o
        clear hn G V
        by_cases hj0:j=0
        ·have afh:=di (kG.o hj0);have afi:=di (LG.o hj0);subst hj0;go_wp2_with fail;refine Fx.o.mono ?_;rintro p w3 ⟨rfl,rfl⟩;go_wp2_with fail;go_roundw
         case rel=>exact⟨1,_,bJ,aO,rfl,by rw[O.o,ru.o,afh.o,afi.o];simp,by trivial⟩
         case measure=>exact akL
        ·have afd:=di (ach.o (kZ.o aO));have hj1:0<(j:Int):=aO;go_wp2_with fail;refine Fx.o.mono ?_;rintro p w3 ⟨rfl,rfl⟩;go_wp2_with fail;go_roundw
         case rel=>exact⟨j+1,_,bJ,aO,rfl,by rw[O.o,ru.o,afd.o];simp,by trivial⟩
         case measure=>exact akL
       ·have yu:Hid (l.take j=l):=by show _=_;rw[List.take_of_length_le];rw[U.o];omega
        have V:=di (YP.o s (k.alloc (.cells #[.string ⟨F.toArray⟩,.slice M r A,.int .i64 s] 174)));obtain⟨sn,G⟩:=aJ (Doc.gZ s);rw[G]at aaY B;have Fx:Hid (Calls Tryz.prog 107 #[.int .i64 s] (k.alloc (.cells #[.string ⟨F.toArray⟩,.slice M r A,.int .i64 s] 174)) fun p P=>p=.returned (.string ⟨sn.toArray⟩)/\P=(k.alloc (.cells #[.string ⟨F.toArray⟩,.slice M r A,.int .i64 s] 174))):=by rw[<-G];exact V.o
        clear G V;go_wp2_with fail;refine Fx.o.mono ?_;rintro p w3 ⟨rfl,rfl⟩;go_wp2_with fail;go_roundw
        case rel=>exact⟨m+1,z++(bd++[10]),bJ,aO,aO,by congr 1;congr 1;congr 1;rw[O.o,yu.o,B.o,<-HU.o];simp,by rw[XF.o,List.flatMap_append,HZ.o];simp[T.o],ug.o⟩
        case measure=>exact akL
     ·have HZC:Hid (z=((S.syms.take d).drop b).flatMap Doc.jE):=by show _=_;rw[HZ.o,show m=d by omega]
      have Z:=X.o k E.o;have I:=Q.o k E.o;go_wp2_with fail;clear Z I
      go_loopw [3,5] (fun t u wr=>∃(m:Nat) (C:List UInt8),u=.int .i64 m/\c<=m/\m<=e/\t=.string ⟨(K++C).toArray⟩/\C=((S.held.take m).drop c).flatMap (Doc.iw S.terms)/\Below w.heap.size w wr) (fun _ u _=>e-(intOf u).toNat)
      case atStart=>exact⟨c,[],rfl,aO,e3,aP,by rw[Cq];rfl,E.o⟩
      case round=>
       obtain⟨n,C,rfl,hfn,hnd,rfl,hr,g⟩:=hrel;rename World=>N;have HRR:=di hr;have D:=di g;have hrl:C.length<=12000:=by rw[hr];exact HHL.o c n
       have hvl:(K++C).length<=120000:=akf;obtain⟨v,f⟩:=aJ (K++C);rw[f]at hvl ⊢;have O:=di f;clear hr g f
       by_cases hlt2:n<e
       ·obtain⟨h,hh⟩:∃h,S.held[n]?=some h:=⟨_,aD (Nat.lt_of_lt_of_le hlt2 af5.o)⟩;have hht:=(Oh.o h (List.mem_of_getElem? hh)).1;obtain⟨t,ht⟩:∃t,S.terms[h]?=some t:=⟨_,aD hht⟩;obtain⟨gh,rfl,_,hch⟩:=W.o.held n h hh;obtain⟨gt,rfl,_,M,A,_,_,hct⟩:=W.o.term h t ht;have y1:=hch N D.o;obtain⟨y2,_⟩:=hct N D.o;have d1:=kv.o N D.o;have Z:=X.o N D.o;have htl:=HT.o t (List.mem_of_getElem? ht);have XF:=di (zG hh hfn);have T:Hid (Doc.iw S.terms h=[40,97,115,115,101,114,116,32]++t.text++[41,10]):=by show _=_;rw[Doc.iw,UX ht];simp[Doc.iM]
        have hhn:h<NT:=by rw[<-wL.o];exact hht
        obtain⟨tx,htx⟩:=aJ t.text;rw[htx]at htl y2 T;clear hh hht ht hch hct htx;go_wp2_with (go_quiet (fail));go_roundw
        case rel=>exact⟨n+1,C++([40,97,115,115,101,114,116,32]++tx++[41,10]),bJ,aO,aO,by rw[<-O.o];simp,by rw[XF.o,List.flatMap_append,HRR.o];simp[T.o],below_drewN D.o _⟩
        case measure=>exact akL
       ·have I:=Q.o N D.o;have rM:Hid (C=((S.held.take e).drop c).flatMap (Doc.iw S.terms)):=by show _=_;rw[HRR.o,show n=e by omega]
        have QR:Hid (Doc.part S b c d e=((S.syms.take d).drop b).flatMap Doc.jE++((S.held.take e).drop c).flatMap (Doc.iw S.terms)):=rfl;have Uy:Hid (v=y++Doc.part S b c d e):=by show _=_;rw[<-O.o,<-HU.o,QR.o,<-HZC.o,<-rM.o];simp
        by_cases hql:q<L
        ·have Dk:Hid (yY S (q+1) d e (v++[40,112,117,115,104,41,10])):=by
          have:=jO.o;rw[if_pos hql,Uf.o,<-List.append_assoc,<-Uy.o]at this;exact this
         exact alY
        ·have Dk:Hid (yY S (q+1) d e v):=by
          have:=jO.o;rw[if_neg hql,List.append_nil,<-Uy.o]at this;exact this
         exact alY
  ·have B:Hid (y=res):=acH.o b c y (by rw[show L+1=q by omega];exact Ib.o);go_wp2_with fail;go_ret;exact⟨iB B.o,qy.o⟩
def aeW (l:List UInt8)(e:Ending):Prop:=∃b:Bool,e=.returned (.bool b)/\(b=true->dn.Is l=true)
theorem aaM (h:dn.Is x=true):0<x.length:=by
 obtain⟨z,rfl⟩:=dn.qi h;exact List.length_pos_iff.2 (dn.ve z)
theorem Er (l:List UInt8)(s:Nat)(w:World)(h:l.length<=1000000) :
 Calls Tryz.prog 152 #[.string ⟨l.toArray⟩,.int .i64 s] w fun e d=>aeW l e/\d=w:=by
 have i:=fJ;have a:=di (fun W=>Lp l W aO);cases hI:dn.Is l with
 | false=>
  rw[hI]at a;go_enter Tryz.func152,Tryz.ntmps152;go_wp2_with fail;refine(a.o _).mono ?_;rintro e b ⟨rfl,rfl⟩;go_wp2_with fail;go_ret;exact⟨⟨false,rfl,aP⟩,rfl⟩
 | true=>
  have j:=aaM hI;have c:=di hI;rw[hI]at a;clear hI
  by_cases f:s=1
  ·subst f;cases e0:(l==[48])<;>cases e1:(l==[49])
   all_goals
    exact alk
  ·have k:((s:Int)==1)=false:=aj aO
   by_cases g:s=3
   ·subst g;exact alk
   ·have m:((s:Int)==3)=false:=aj aO;exact alk
structure Gf (ss:List Doc.Sym)(e:fU):Prop where
 lo:0<=e.sym
 hi:e.sym<ss.length
 val:dn.Is e.val=true
 args:e.other=false->e.args.length=(Doc.gK ss e.sym.toNat).length
def QF (ss:List Doc.Sym)(L:List fU)(e:Ending):Prop:=∃b:Bool,e=.returned (.bool b)/\(b=true->∀x∈L,Gf ss x)
theorem QF.no {a:List Doc.Sym}:QF a c (.returned (.bool false)):=⟨false,rfl,aP⟩
structure Fe (wx:World)(B C:Nat)(sy:Int)(ot:Bool)(aE:Option Addr)(nE cE:Nat)(va:List UInt8)(aA:Option Addr)(nA cA:Nat)(so:Nat):Prop where
 e0:wx.cell? ⟨B,0,none⟩=some (.int .i64 sy)
 e1:wx.cell? ⟨B,1,none⟩=some (.bool ot)
 e2:wx.cell? ⟨B,2,none⟩=some (.slice aE nE cE)
 e3:wx.cell? ⟨B,3,none⟩=some (.string ⟨va.toArray⟩)
 s1:wx.cell? ⟨C,1,none⟩=some (.slice aA nA cA)
 s2:wx.cell? ⟨C,2,none⟩=some (.int .i64 so)
theorem Fe.below {b:Bool}{c:Nat}(h:Fe w n m z b a k i x d j N c)(f:Below w.heap.size w W):Fe W n m z b a k i x d j N c:=
 have t:∀{p:Addr} {v:Value},w.cell? p=some v->W.cell? p=some v:=fun e=>(f.cell (ai e)).trans e
 ⟨t h.e0,t h.e1,t h.e2,t h.e3,t h.s1,t h.s2⟩
theorem QE (sb bA:Nat)(own:Own)(S:Doc.dB)(s:Option Addr)(bq n:Nat)(L:List fU)(w:World)(hS:dE w own bA sb S)(hw:Doc.fQ S)(P:fZ w s bq L)(hn:L.length=n)
 (hval:∀x∈L,x.val.length<=1000000/\∀bg∈x.args,bg.length<=1000000) (aaT:∀x∈L,-9223372036854775808<=x.sym/\x.sym<=9223372036854775807) :
 Calls Tryz.prog 105 #[.pointer (some ⟨sb,0,none⟩),.slice s n bq] w fun bn D=>QF S.syms L bn/\Below w.heap.size w D:=by
 have hR:=fJ;obtain⟨aS,cS,aT,cT,aH,cH,aL,cL,Q⟩:=hS.view;have HV:=di Q;have CU:=hw.book.few;obtain⟨m01,m02⟩:=Q.l0;have R:=di Q.c0;have hc1:=P.le;have hc2:=P.max;rw[hn]at hc1;have HG:=di (fun W (l:Below w.heap.size w W)=>(P.below l).get);have Xr:=di hval;have Xw:=di aaT;have BQ:=di hw.book.syms;have HN:=di hn;have Ie:=di (fun bB G W l=>Er bB G W l);obtain⟨NS,Bq⟩:=aJ S.syms.length;have wM:=di Bq;rw[Bq]at CU m01 R;clear Q hS hw P hn hval aaT Bq;go_enter Tryz.func105,Tryz.ntmps105;go_wp2_with fail
 go_loopw [5] (fun k wr=>∃q:Nat,k=.int .i64 q/\q<=n/\Below w.heap.size w wr/\∀x∈L.take q,Gf S.syms x) (fun k _=>n-(intOf k).toNat)
 case atStart=>exact⟨0,rfl,aO,af,aP⟩
 case round=>
  obtain⟨q,rfl,hq,hbel,hall⟩:=hrel;have T:=di hbel;have yu:=di hall;clear hbel hall
  by_cases hlt:q<n
  ·obtain⟨x,f⟩:∃x,L[q]?=some x:=⟨_,aD (by rw[HN.o];exact hlt)⟩;have HX:=di f;have hxm:=List.mem_of_getElem? f;obtain⟨v1,v2⟩:=Xr.o x hxm;have HV2:=di v2;obtain⟨y1,y2⟩:=Xw.o x hxm;obtain⟨bD,o,rfl,he⟩:=HG.o wr T.o q x f;obtain⟨a1,a2,⟨g,e,a3,a4,a5,a6⟩,a7⟩:=he;have wI:=di (fun W (l:Below wr.heap.size wr W)=>(a6.below l).get);obtain⟨h,b,t,c⟩:=x;simp only at a1 a2 a3 a4 a7 v1 y1 y2 wI HV2
   have Ur:Hid (∀(m:Nat) (G:Doc.Sym),h=m->S.syms[m]?=some G->dn.Is c=true->(b=false->t.length=G.args.length)->∀z∈L.take (q+1),Gf S.syms z):=fun m G hm hs hI ha z i=>by
    rw[List.take_add_one,HX.o]at i;rcases List.mem_append.1 i with i|i
    ·exact yu.o z i
    ·have:z=⟨h,b,t,c⟩:=by simpa using i
     subst this;have hms:=(List.getElem?_eq_some_iff.1 hs).1;refine⟨by show 0<=h;omega,by show h<_;omega,hI,fun ho=>?_⟩;show t.length=_;rw[ha ho];show _=(Doc.gK S.syms h.toNat).length;rw[hm,Int.toNat_natCast,Doc.gK,hs]
   have hbx:Below w.heap.size w (wr.alloc (.cells #[.int .i64 h,.bool b,.slice g t.length e,.string ⟨c.toArray⟩] 142)):=T.o.alloc T.o.size _;have H:=di hbx;have d0:=R.o _ hbx;have acv:Hid (∀j,j<t.length->∃z,t[j]?=some z/\z.length<=1000000):=fun j hj=>⟨t[j],aD hj,HV2.o _ (List.getElem_mem hj)⟩;obtain⟨a,tL⟩:=aJ t.length;rw[tL]at a3 a4 Ur H acv d0;clear a6 v2 f hxm hbx tL HV2 HG
   by_cases h1:h<0
   ·go_wp2_with (go_quiet (fail));go_ret;exact⟨.no,below_drewN H.o _⟩
   ·have t1:decide (h<0)=false:=decide_eq_false h1
    by_cases h2:(NS:Int)<=h
    ·go_wp2_with (go_quiet (fail));go_ret;exact⟨.no,below_drewN H.o _⟩
    ·obtain⟨m,rfl⟩:∃m:Nat,h=(m:Int):=⟨h.toNat,aO⟩;have qJ:m<NS:=aO;obtain⟨x,f⟩:∃x,S.syms[m]?=some x:=⟨_,aD (by rw[wM.o];exact qJ)⟩;obtain⟨g2,rfl,hg2,E,v,k1,k2,hcc⟩:=HV.o.sym m x f;have I:=di hcc;have XG:=di (Ur.o m x rfl f);have U:=BQ.o x (List.mem_of_getElem? f);have pO:=U.few;have t2:decide ((NS:Int)<=(m:Int))=false:=decide_eq_false aO;clear f U hcc Ur;go_upto_region 7 with (go_quiet (fail))
     have y:=below_drewN H.o nq;have hbR:Below wr.heap.size wr ((wr.alloc (.cells #[.int .i64 (m:Int),.bool b,.slice g a e,.string ⟨c.toArray⟩] 142)).drewN nq):=below_drewN ag nq;have f0:((wr.alloc (.cells #[.int .i64 (m:Int),.bool b,.slice g a e,.string ⟨c.toArray⟩] 142)).drewN nq).cell? ⟨wr.heap.size,0,none⟩=some (.int .i64 (m:Int)):=aP;have f1:((wr.alloc (.cells #[.int .i64 (m:Int),.bool b,.slice g a e,.string ⟨c.toArray⟩] 142)).drewN nq).cell? ⟨wr.heap.size,1,none⟩=some (.bool b):=aP;have f2:((wr.alloc (.cells #[.int .i64 (m:Int),.bool b,.slice g a e,.string ⟨c.toArray⟩] 142)).drewN nq).cell? ⟨wr.heap.size,2,none⟩=some (.slice g a e):=aP;have f3:((wr.alloc (.cells #[.int .i64 (m:Int),.bool b,.slice g a e,.string ⟨c.toArray⟩] 142)).drewN nq).cell? ⟨wr.heap.size,3,none⟩=some (.string ⟨c.toArray⟩):=aP;have J:wr.heap.size<((wr.alloc (.cells #[.int .i64 (m:Int),.bool b,.slice g a e,.string ⟨c.toArray⟩] 142)).drewN nq).heap.size:=aP;clear a1 a2 a3 a7 d0 t1 t2;generalize (wr.alloc (.cells #[.int .i64 (m:Int),.bool b,.slice g a e,.string ⟨c.toArray⟩] 142)).drewN nq=d at *;obtain⟨V,hnm⟩:=aJ x.name;obtain⟨p,X⟩:=aJ x.args.length;obtain⟨A,hso⟩:=aJ x.sort;rw[hnm,X,hso]at I;rw[X]at k1 XG pO;have jO:=di X;have z0:=R.o d y;obtain⟨z1,z2,z3,_⟩:=I.o d y;have hb2:Below w.heap.size w (d.alloc (.cells #[.string ⟨#[]⟩,.slice none 0 0,.int .i64 0] 174)):=y.alloc y.size _;have y0:=R.o _ hb2;obtain⟨y3,y4,y5,_⟩:=I.o _ hb2;have B:Below d.heap.size d (d.alloc (.cells #[.string ⟨V.toArray⟩,.slice E p v,.int .i64 A] 174)):=ag;have u0:(d.alloc (.cells #[.string ⟨#[]⟩,.slice none 0 0,.int .i64 0] 174)).cell? ⟨wr.heap.size,0,none⟩=some (.int .i64 (m:Int)):=(((Below.refl _ d).alloc ae _).cell (p:=⟨wr.heap.size,0,none⟩) J).trans f0
     have ack:Hid (Fe (d.alloc (.cells #[.string ⟨V.toArray⟩,.slice E p v,.int .i64 A] 174)) wr.heap.size d.heap.size m b g a e c E p v A):=
      ⟨(B.cell (p:=⟨wr.heap.size,0,none⟩) J).trans f0,(B.cell (p:=⟨wr.heap.size,1,none⟩) J).trans f1,(B.cell (p:=⟨wr.heap.size,2,none⟩) J).trans f2,(B.cell (p:=⟨wr.heap.size,3,none⟩) J).trans f3,aP,aP⟩
     have uh:Hid (Below w.heap.size w (d.alloc (.cells #[.string ⟨V.toArray⟩,.slice E p v,.int .i64 A] 174))):=y.trans (B.mono y.size);have Ik:Hid (Below wr.heap.size wr (d.alloc (.cells #[.string ⟨V.toArray⟩,.slice E p v,.int .i64 A] 174))):=hbR.trans (B.mono hbR.size);have Zi:=di (fun W (l:Below w.heap.size w W)=>eY (I.o W l).2.2.2);clear y hbR hb2 B hnm X hso I H f1 f2 f3;go_cut [7] (fun bC r=>bC=.pointer (some ⟨d.heap.size,0,none⟩)/\Fe r wr.heap.size d.heap.size m b g a e c E p v A/\Below w.heap.size w r/\Below wr.heap.size wr r)
     case first=>
      go_region
      all_goals
       go_wp2_with fail;go_meet
       case rel=>exact⟨rfl,ack.o.below af.drew,uh.o.drew,Ik.o.drew⟩
     case rest=>
      obtain⟨rfl,uu,F,K⟩:=hcut;have wP:=di uu;have u:=di F;have acK:=di K;obtain⟨e0,e1,e2,e3,s1,s2⟩:=uu;have Y:=di (Ie.o c A wc v1);clear u0 y0 y3 y4 y5 z0 z1 z2 z3 f0 ack uh Ik F K;go_wp2_with fail;refine Y.o.mono ?_;rintro bn M ⟨⟨C,rfl,Z⟩,hw3⟩;subst hw3;have HIS:=di Z;clear Z Y;cases C
      ·go_wp2_with fail;go_ret;exact⟨.no,u.o⟩
      ·have afI:Hid (dn.Is c=true):=HIS.o rfl;clear HIS;have QX:Hid ((b=false->a=p)->∀z∈L.take (q+1),Gf S.syms z):=fun l=>XG.o afI.o l;clear XG;cases b
       ·by_cases hne:a=p
        ·subst hne;have LQ:=di (QX.o (fun _=>rfl));clear QX;go_wp2_with fail
         go_loopw [9] (fun k r=>∃j:Nat,k=.int .i64 j/\j<=a/\Below M.heap.size M r) (fun k _=>a-(intOf k).toNat)
         case atStart=>exact⟨0,rfl,aO,af⟩
         case round=>
          obtain⟨j,rfl,hj,N⟩:=hrel;rename World=>wj;clear e0 e1 e2 e3 s1 s2;obtain⟨e0,e1,e2,e3,s1,s2⟩:=wP.o.below N;have F:=u.o.trans (N.mono u.o.size);have K:=acK.o.trans (N.mono acK.o.size);have qx:=di N;have af9:=di F;clear N
          by_cases hjl:j<a
          ·obtain⟨z,i,hzl⟩:=acv.o j hjl;obtain⟨ga,rfl,r1⟩:=wI.o wj K j z i;obtain⟨O,hn2⟩:∃O,x.args[j]?=some O:=⟨_,aD (by rw[jO.o];exact hjl)⟩;obtain⟨gb,rfl,r2⟩:=Zi.o wj F j O hn2;have Y:=di (fun W=>Ie.o z O W hzl);clear i hn2 F K;go_upto_region 14 with fail
           go_cut [10] (fun bg r=>(∃C:Bool,bg=.bool C)/\Below M.heap.size M r)
           case first=>
            go_region_held3 (fun D=>D.cell? ⟨wr.heap.size,2,none⟩=some (.slice (some ⟨ga,0,none⟩) a e)/\D.cell? ⟨d.heap.size,1,none⟩=some (.slice (some ⟨gb,0,none⟩) a v)/\D.cell? ⟨ga,j,none⟩=some (.string ⟨z.toArray⟩)/\D.cell? ⟨gb,j,none⟩=some (.int .i64 (O:Int))) (go_keep) (first|(go_at_call 152;refine(Y.o _).mono ?_;rintro bn w4 ⟨⟨C,rfl,Z⟩,rfl⟩;clear Z));go_wp2_with fail;go_meet
            case rel=>exact⟨⟨C,rfl⟩,by first|exact qx.o|exact qx.o.drew⟩
           case rest=>
            obtain⟨⟨C,rfl⟩,hbk⟩:=hcut;rename World=>wk;have Fy:=di hbk;clear hbk r1 r2 e0 e1 e2 e3 s1 s2;cases C
            ·go_wp2_with fail;go_ret;exact⟨.no,u.o.trans (Fy.o.mono u.o.size)⟩
            ·go_wp2_with fail;go_roundw
             case rel=>exact⟨j+1,bJ,aO,Fy.o⟩
             case measure=>exact akL
          ·go_wp2_with fail;go_roundw
           case rel=>exact⟨q+1,bJ,aO,af9.o,LQ.o⟩
           case measure=>exact akL
        ·have tn:((a:Int) !=(p:Int))=true:=aZ;go_wp2_with fail;go_ret;exact⟨.no,u.o⟩
       ·have LQ:=di (QX.o aP);clear QX
        by_cases i:a=0
        ·subst i;go_wp2_with fail
         go_loopw [9] (fun k r=>k=.int .i64 0/\r=M) (fun k _=>0)
         case atStart=>exact⟨rfl,rfl⟩
         case round=>
          obtain⟨rfl,U⟩:=hrel;subst U;go_wp2_with fail;go_roundw
          case rel=>exact⟨q+1,bJ,aO,u.o,LQ.o⟩
          case measure=>exact akL
        ·have tz:(0:Int)<(a:Int):=aO;go_wp2_with fail;go_ret;exact⟨.no,u.o⟩
  ·have HE:Hid (L.take q=L):=by show _=_;rw[List.take_of_length_le];rw[HN.o];omega
   go_wp2_with fail;go_ret;exact⟨⟨true,rfl,fun _ x f=>yu.o x (by rw[HE.o];exact f)⟩,T.o⟩
def Zl (L:List fU)(e:Ending):Prop:=∃t:List UInt8,e=.returned (.string ⟨t.toArray⟩)/\(t=[48]\/∃x∈L,t=x.val)
theorem Rf (R t:Option Addr)(S u n q s:Nat)(L:List fU)(B:List (List UInt8))(w:World)(v:fZ w R S L)(C:L.length=n)(T:kD w (.slice t q u) B)(U:B.length=q)(hd:q<=u/\u<=2 ^ 63-1)
 (V:∀x∈L,x.sym=s->x.other=false->x.args.length=q) :
 Calls Tryz.prog 153 #[.slice R n S,.int .i64 s,.slice t q u] w fun bg w'=>Zl L bg/\Below w.heap.size w w':=by
 have hR:=fJ;have hc1:=v.le;have hc2:=v.max;rw[C]at hc1;obtain⟨hd1,hd2⟩:=hd;have D:=di (fun W (h:Below w.heap.size w W)=>(v.below h).get);have HS:=di (fun W (h:Below w.heap.size w W)=>(T.below h).get);have X:=di C;have HQ:=di U;have BU:=di V;clear v C T U V;go_enter Tryz.func153,Tryz.ntmps153;go_wp2_with fail
 go_loopw [7] (fun i wr=>∃k:Nat,i=.int .i64 k/\k<=n/\Below w.heap.size w wr) (fun i _=>n-(intOf i).toNat)
 case atStart=>exact⟨0,rfl,aO,af⟩
 case round=>
  obtain⟨k,rfl,hk,l⟩:=hrel;have e:=di l;clear l
  by_cases hlt:k<n
  ·obtain⟨x,a⟩:∃x,L[k]?=some x:=⟨_,aD (by rw[X.o];exact hlt)⟩;have f:=List.mem_of_getElem? a;obtain⟨E,o,rfl,F⟩:=D.o wr e.o k x a;have uf:=di (fun W h=>(D.o W h k x a));obtain⟨G,H,⟨aE,cE,g,y,Y,z⟩,m⟩:=F;have Z:=di (fun W (h:Below wr.heap.size wr W)=>(z.below h).get);have I:=di f;have J:=di (BU.o x f);obtain⟨d,K,M,va⟩:=x;simp only at G H g y m Z J;obtain⟨NA,N⟩:=aJ M.length;rw[N]at g y J;have Dj:=di N;clear z a f N
   by_cases b:d=s
   ·have O:(d !=(s:Int))=false:=by simp[b]
    have afC:=di (J.o b);clear b;cases K
    ·have hnq:NA=q:=afC.o rfl;go_wp2_with fail
     go_loopw [8,9] (fun t i wx=>∃(A:Bool) (j:Nat),t=.bool A/\i=.int .i64 j/\j<=q/\Below wr.heap.size wr wx) (fun _ i _=>q-(intOf i).toNat)
     case atStart=>exact⟨true,0,rfl,rfl,aO,af⟩
     case round=>
      obtain⟨A,j,rfl,rfl,hj,c⟩:=hrel;rename World=>wj;have qx:=di c;have p:=e.o.trans (c.mono e.o.size);have mo:=di p;have b3:=(c.cell (p:=⟨E,o+k*4+2,none⟩) (ai g)).trans g;have b7:=(c.cell (p:=⟨E,o+k*4+3,none⟩) (ai m)).trans m
      by_cases hjl:j<q
      ·cases A
       ·clear c p;go_wp2_with (go_quiet (fail));go_roundw
        case rel=>exact⟨false,j+1,rfl,bJ,aO,below_drewN qx.o _⟩
        case measure=>exact akL
       ·obtain⟨P,hz⟩:∃P,M[j]?=some P:=⟨_,aD (by rw[Dj.o];omega)⟩;obtain⟨Q,hy⟩:∃Q,B[j]?=some Q:=⟨_,aD (by rw[HQ.o];omega)⟩;obtain⟨ga,rfl,r1⟩:=Z.o wj c j P hz;obtain⟨gb,rfl,r2⟩:=HS.o wj p j Q hy;have hjn:(j:Int)<(NA:Int):=aO;clear c p hz hy;go_wp2_with (go_quiet (fail));go_roundw
        case rel=>exact⟨_,j+1,rfl,bJ,aO,below_drewN qx.o _⟩
        case measure=>exact akL
      ·clear c p;cases A
       ·go_wp2_with fail;go_roundw
        case rel=>exact⟨k+1,bJ,aO,mo.o⟩
        case measure=>exact akL
       ·go_wp2_with fail;go_ret;exact⟨⟨_,rfl,.inr ⟨_,I.o,rfl⟩⟩,mo.o⟩
    ·exact amO
   ·have O:(d !=(s:Int))=true:=by simp[b]
    exact amO
  ·go_wp2_with fail
   go_loopw [10] (fun i wr=>∃k:Nat,i=.int .i64 k/\k<=n/\Below w.heap.size w wr) (fun i _=>n-(intOf i).toNat)
   case atStart=>exact⟨0,rfl,aO,e.o⟩
   case round=>
    obtain⟨k,rfl,hk,l⟩:=hrel;rename World=>wz;have r:=di l;clear l
    by_cases hlt2:k<n
    ·obtain⟨x,a⟩:∃x,L[k]?=some x:=⟨_,aD (by rw[X.o];exact hlt2)⟩;have f:=List.mem_of_getElem? a;obtain⟨E,o,rfl,F⟩:=D.o wz r.o k x a;obtain⟨G,H,⟨aE,cE,g,y,Y,z⟩,m⟩:=F;have I:=di f;obtain⟨d,K,M,va⟩:=x;simp only at G H m;clear g y Y z a f
     by_cases b:d=s
     ·have O:(d==(s:Int))=true:=by simp[b]
      clear b;cases K
      ·exact amN
      ·go_wp2_with fail;go_ret;exact⟨⟨_,rfl,.inr ⟨_,I.o,rfl⟩⟩,r.o⟩
     ·have O:(d==(s:Int))=false:=by simp[b]
      exact amN
    ·go_wp2_with fail;go_ret;exact⟨⟨[48],rfl,.inl rfl⟩,r.o⟩
def oO (zs:List Int):List (List UInt8):=zs.map dn.dec
theorem KX (h:f[n]?=some z):(oO f)[n]?=some (dn.dec z):=by simp[oO,h]
theorem Rj (a n B:Nat)(F:Option Addr)(m:List Int)(w:World)(P:kD w (.slice F n B) (oO m))(hn:m.length=n)(hc:n<=B/\B<=2 ^ 63-1)(Q:1<=n)(p:a≠3->2<=n)(R:∀z∈m,(dn.dec z).length<=700000000000) :
 Calls Tryz.prog 158 #[.int .i64 a,.slice F n B] w fun G e=>gL G/\Below w.heap.size w e:=by
 have hR:=fJ;obtain⟨hc1,hc2⟩:=hc
 have q:Hid (∀W,Below w.heap.size w W->∀j,j<n->∃z g,z∈m/\F=some ⟨g,0,none⟩/\W.cell? ⟨g,j,none⟩=some (.string ⟨(dn.dec z).toArray⟩)):=fun W bg j hj=>by
  obtain⟨z,C⟩:∃z,m[j]?=some z:=⟨_,aD aO⟩;obtain⟨g,e1,e2⟩:=(P.below bg).get j _ (KX C);exact⟨z,g,List.mem_of_getElem? C,e1,e2⟩
 have S:=di R;have T:=di (fun H y W Q p=>Xo H y W Q p);clear P hn R;go_enter Tryz.func158,Tryz.ntmps158;go_wp2_with fail
 go_loopw [5,6,7,8] (fun bn o I i wr=>∃(J K L:Bool) (k:Nat),bn=.bool J/\o=.bool K/\I=.bool L/\i=.int .i64 k/\k<=n/\Below w.heap.size w wr) (fun _ _ _ i _=>n-(intOf i).toNat)
 case atStart=>exact⟨true,false,false,0,rfl,rfl,rfl,rfl,aO,af⟩
 case round=>
  obtain⟨J,K,L,k,rfl,rfl,rfl,rfl,hk,U⟩:=hrel;have b:=di U;clear U
  by_cases V:k<n
  ·obtain⟨z,g,C,rfl,r⟩:=q.o wr b.o k V;clear C;generalize dn.dec z=tz at *;go_upto_region 7 with fail
   go_cut [5] (fun y s=>(∃M:Bool,y=.bool M)/\s=wr)
   case first=>
    cases J
    ·exact alN
    ·exact alN
   case rest=>
    obtain⟨⟨b4,rfl⟩,t⟩:=hcut;have N:=t.symm;subst N;clear t;go_upto_region 8 with fail
    go_cut [6] (fun y s=>(∃M:Bool,y=.bool M)/\s=wr)
    case first=>
     cases K
     ·exact alN
     ·exact alN
    case rest=>
     obtain⟨⟨b5,rfl⟩,t⟩:=hcut;have N:=t.symm;subst N;clear t;go_wp2_with fail
     go_loopw [7,9] (fun I i s=>∃(D:Bool) (j:Nat),I=.bool D/\i=.int .i64 j/\j<=k/\Below w.heap.size w s) (fun _ i _=>k-(intOf i).toNat)
     case atStart=>exact⟨L,0,rfl,rfl,aO,b.o⟩
     case round=>
      obtain⟨D,j,rfl,rfl,hj,X⟩:=hrel;rename World=>Y;have u:=di X;clear X
      by_cases hjl:j<k
      ·cases D
       ·obtain⟨y,g1,hy,v,q1⟩:=q.o Y u.o k V;injection v with v
        injection v with v;subst v;obtain⟨H,g2,hx,x,q2⟩:=q.o Y u.o j aO;injection x with x;injection x with x;subst x;clear hx hy;generalize dn.dec H=dx at *;generalize dn.dec y=dy at *;have hjn:(j:Int)<(n:Int):=aO;exact amb
       ·exact amb
      ·go_wp2_with fail;go_roundw
       case rel=>exact⟨b4,b5,D,k+1,rfl,rfl,rfl,bJ,aO,u.o⟩
       case measure=>exact akL
  ·obtain⟨c,g,Z,rfl,E⟩:=q.o wr b.o 0 aO;have l0:=S.o c Z;clear Z
   by_cases O:a=3
   ·subst O;clear p;go_wp2_with fail;go_ret;exact⟨⟨_,rfl⟩,b.o⟩
   ·have hn2:2<=n:=p O;have t3:((a:Int)==3)=false:=aj aO;obtain⟨d,g',hz1,A,r⟩:=q.o wr b.o 1 aO;have l1:=S.o d hz1;injection A with A
    injection A with A;subst A;have rC:=di (fun W=>T.o c d W l0 l1);have acy:=di (fun W=>T.o d c W l1 l0);have ag8:(1:Int)<(n:Int):=aO;have hn1:0<n:=aO;clear hz1 p O
    by_cases c4:a=4
    ·subst c4;go_wp2_with fail;go_ret;exact⟨⟨_,rfl⟩,b.o⟩
    have t4:((a:Int)==4)=false:=aj aO;clear c4
    by_cases c5:a=5
    ·subst c5;go_wp2_with fail;go_ret;exact⟨⟨_,rfl⟩,b.o⟩
    have t5:((a:Int)==5)=false:=aj aO;clear c5
    by_cases c6:a=6
    ·subst c6;exact al5
    have t6:((a:Int)==6)=false:=aj aO;clear c6
    by_cases c7:a=7
    ·subst c7;generalize dn.dec c=f at *;generalize dn.dec d=l at *;cases e0:(f==[48])
     all_goals
      go_wp2_with fail;go_ret;exact⟨⟨_,rfl⟩,b.o⟩
    have t7:((a:Int)==7)=false:=aj aO;clear c7
    by_cases c8:a=8
    ·subst c8;exact al5
    have t8:((a:Int)==8)=false:=aj aO;clear c8
    by_cases c9:a=9
    ·subst c9;go_wp2_with fail;go_ret;exact⟨⟨_,rfl⟩,b.o⟩
    have t9:((a:Int)==9)=false:=aj aO;clear c9
    by_cases c11:a=11
    ·subst c11;generalize decide (c<d)=bl at *;generalize decide (d<c)=bm at *;generalize dn.dec c=f at *;generalize dn.dec d=l at *;go_wp2_with fail;go_region_held3 (fun e=>e.cell? ⟨g,0,none⟩=some (.string ⟨f.toArray⟩)/\e.cell? ⟨g,1,none⟩=some (.string ⟨l.toArray⟩)) (go_keep) (first|(go_at_call 191;refine(rC.o _).mono ?_;rintro G w4 ⟨rfl,h⟩;have s0:=(Below.cell h (p:=⟨g,0,none⟩) (ai E)).trans E;have s1:=(Below.cell h (p:=⟨g,1,none⟩) (ai r)).trans r));exact amI
    have t11:((a:Int)==11)=false:=aj aO;clear c11;generalize decide (c<d)=bl at *;generalize decide (d<c)=bm at *;generalize dn.dec c=f at *;generalize dn.dec d=l at *;go_wp2_with fail;go_region_held3 (fun e=>e.cell? ⟨g,0,none⟩=some (.string ⟨f.toArray⟩)/\e.cell? ⟨g,1,none⟩=some (.string ⟨l.toArray⟩)) (go_keep) (first|(go_at_call 191;refine(acy.o _).mono ?_;rintro G w4 ⟨rfl,h⟩;have s0:=(Below.cell h (p:=⟨g,0,none⟩) (ai E)).trans E;have s1:=(Below.cell h (p:=⟨g,1,none⟩) (ai r)).trans r));exact amI
end Go.Proofs.YtbichedkajfmiaaGreatDoor
