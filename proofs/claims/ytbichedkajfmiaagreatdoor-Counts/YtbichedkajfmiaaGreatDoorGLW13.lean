import Derived.Test.YtbichedkajfmiaaGreatDoorGLW4
import Derived.Test.YtbichedkajfmiaaGreatDoorC
set_option maxRecDepth 100000
set_option maxHeartbeats 16000000
namespace Go.Proofs.YtbichedkajfmiaaGreatDoor
open Go.RowKit
variable {A:List Doc.Tr}{L M:jv}{N i j k m n:Nat}{O o:Own}{W u w:World}{Z z:Int}{a d:Option Addr}{c:List fU}{h:Ending}{v:Value}{x:List UInt8}
theorem aad (c:Nat)(own:Own)(M:jv)(o:iK)(bg:Nat)(w:World)(x:eT w own c M)(hfr:dH own w)(p:gD bg M)(ho:pX o) :
 Calls Tryz.prog 94 #[.pointer (some ⟨c,0,none⟩),o.val] w fun q a=>q=.returned (.tuple #[])/\ic w a own c bg:=by
 obtain⟨kd,r,s,y,os,z⟩:=o;obtain⟨⟨uD,uC⟩,⟨mR,qd⟩,⟨xg,xe⟩,_,ht⟩:=ho;simp only at uD uC mR qd xg xe ht;obtain⟨d,J⟩:∃d,w.alloc (.cells #[.int .i64 kd,.int .i64 r,.int .i64 s,.int .i64 y,.string ⟨os.toArray⟩,.string ⟨z.toArray⟩] 33)=d:=⟨_,rfl⟩;have K:Below w.heap.size w d:=by rw[<-J];exact af.alloc ae _
 have h:eT d own c M:=x.keep (fun e hb'=>⟨K.block e hb',rfl⟩) (x.iE.ed (fun e _ hlt=>K.block e hlt));obtain⟨v3,O,P⟩:=h.ls;obtain⟨v4,a4,t4⟩:=h.lw;have pM:=h.lt;have f:=di K;have afE:=di p.lim;have HQ:Hid (∀W,Below w.heap.size w W->ic w W own c bg):=fun W hW=>⟨M,p,gJ.below x hfr hW⟩;have xQ:=x.lt;have f1:d.cell? ⟨w.heap.size,1,none⟩=some (.int .i64 r):=by rw[<-J];simp
 have f2:d.cell? ⟨w.heap.size,2,none⟩=some (.int .i64 s):=by rw[<-J];simp
 have f3:d.cell? ⟨w.heap.size,3,none⟩=some (.int .i64 y):=by rw[<-J];simp
 have f5:d.cell? ⟨w.heap.size,5,none⟩=some (.string ⟨z.toArray⟩):=by rw[<-J];simp
 have BS:=di (fun(m:Nat) W (h:0<m) (h2:m<=1000000)=>jo r m W uD uC h aO);have LH:=di (fun(m:Nat) W (h:0<m) (h2:m<=1000000)=>jo s m W mR qd h aO);have HPC:=di (fun(m:Nat) W (h:0<m) (h2:m<=1000000)=>jo y m W xg xe h aO);have HH:=di h;clear h;have mq:=di p;have lS:=di hfr;have Q:=di O;have R:=di a4;have S:=di P;have Dh:=di t4;have hls:=p.ls;have hlim:=p.lim;simp only[iK.val]
 by_cases hn0:M.ls.length=0
 ·obtain⟨bq,cp,rfl,p1,p2⟩:=P.form;have e1:=O;rw[hn0]at e1;clear x hfr p P t4 O a4 hn0 K Q S;go_enter Tryz.func94,Tryz.ntmps94;go_wp2_with fail;exact bodyPost_ret (v:=.tuple #[]) ajr rfl ⟨rfl,HQ.o _ f.o⟩
 ·have Bl:0<M.ls.length:=aO;have hpk:=l6 r Bl;obtain⟨L,A⟩:∃L,M.ls[pk r M.ls.length]?=some L:=⟨_,aD hpk⟩;have T:=di (fun W=>BS.o M.ls.length W Bl aO);obtain⟨k,hk⟩:=aJ (pk r M.ls.length);rw[hk]at A T hpk;have KR:=List.mem_of_getElem? A;have KS:=p.l L KR;have HLA:=di (p.la L KR);obtain⟨g,B,u3,rfl,q1,q2,o3,d3,l3,m3⟩:=P.mO A;obtain⟨g4,c4,u4,rfl,q3,q4,o4,d4,l4,m4⟩:=t4.mO A;have Uj:=di o3;have HO4:=di o4;have HD4:=di d4;have U:=di l3;have V:=di l4;have YY:=di m3;have YX:=di m4;have Fv:=di A;have Ic:=di (show M.ls.length=M.ls.length from rfl);have e3:=O;have e5:=d3;obtain⟨al,C,hu3,k1,_⟩:=l3.Bz;obtain⟨bl,Yt,SA,k2,_⟩:=l4.Bz;subst hu3 SA;have hkl:=k1.le;have hkm:=k1.max;obtain⟨N,hN⟩:=aJ M.ls.length;have kZ:=di hN;rw[hN]at T hpk q1 q3 e3 hls Bl;clear x hfr p P t4 O a4 hn0 K d3 d4 l3 l4 m3 m4 A hk KR o3 o4 Ic k1 k2
  by_cases hl0:L.length=0
  ·rw[hl0]at e5;clear hl0 U V HD4 YY YX S Dh Q R;go_enter Tryz.func94,Tryz.ntmps94;go_wp2_with fail;go_region_held3 (fun a=>a.cell? ⟨c,3,none⟩=some (.slice (some ⟨g,0,none⟩) N B)/\a.cell? ⟨w.heap.size,1,none⟩=some (.int .i64 r)/\a.cell? ⟨g,k,none⟩=some (.slice al 0 C)) (go_keep) (first|(go_at_call 37;refine(T.o _).mono ?_;rintro q X ⟨rfl,i⟩;subst i));go_wp2_with fail;exact bodyPost_ret (v:=.tuple #[]) ajr rfl ⟨rfl,HQ.o _ (by first|exact f.o.drew|exact f.o|exact below_drewN f.o _)⟩
  ·have hlp:0<L.length:=aO;have hpi:=l6 s hlp;obtain⟨t,D⟩:∃t,L[pk s L.length]?=some t:=⟨_,aD hpi⟩;have jB:=di (fun W=>LH.o L.length W hlp aO);obtain⟨u,hi⟩:=aJ (pk s L.length);rw[hi]at D jB hpi;have Y:=di (HLA.o t (List.mem_of_getElem? D));have hal:=Y.o.Co;obtain⟨E,cl,aa,ca,Z⟩:=U.o.mO D;obtain⟨gm,cm,ab,cb,E4⟩:=V.o.mO D;have hv:=Z.val;injection hv with hv1 _ hv2
   subst hv1 hv2;have hv:=E4.val;injection hv with hv1 _ hv2;subst hv1 hv2;have Oj:=di Z;have F:=di E4;have Y9:=di D;have z2:=Z.c2;have hm3:=Z.max;obtain⟨v,CW⟩:=aJ L.length;have QT:=di CW;rw[CW]at jB hpi KS e5 hkl hlp;clear hl0 hi D Z E4 CW;have hii:(u:Int)<(v:Int):=aO
   by_cases ha0:t.args.length=0
   ·rw[ha0]at z2;clear ha0 U V HD4 YY YX S Dh Q R Oj F;go_enter Tryz.func94,Tryz.ntmps94;go_wp2_with fail;go_region_held3 (fun a=>a.cell? ⟨c,3,none⟩=some (.slice (some ⟨g,0,none⟩) N B)/\a.cell? ⟨w.heap.size,1,none⟩=some (.int .i64 r)/\a.cell? ⟨g,k,none⟩=some (.slice (some ⟨E,0,none⟩) v C)) (go_keep) (first|(go_at_call 37;refine(T.o _).mono ?_;rintro q X ⟨rfl,i⟩;subst i));go_wp2_with fail;go_region_held3 (fun a=>a.cell? ⟨c,3,none⟩=some (.slice (some ⟨g,0,none⟩) N B)/\a.cell? ⟨w.heap.size,2,none⟩=some (.int .i64 s)/\a.cell? ⟨g,k,none⟩=some (.slice (some ⟨E,0,none⟩) v C)) (go_keep) (first|(go_at_call 37;refine(jB.o _).mono ?_;rintro q X ⟨rfl,i⟩;subst i));go_wp2_with fail;exact bodyPost_ret (v:=.tuple #[]) ajr rfl ⟨rfl,HQ.o _ (by first|exact f.o.drew|exact f.o.drew.drew|exact f.o|exact below_drewN f.o _)⟩
   ·have hap:0<t.args.length:=aO;have Ar:=l6 y hap;have mi:=di (fun W=>HPC.o t.args.length W hap aO);obtain⟨j,hj⟩:=aJ (pk y t.args.length);rw[hj]at mi Ar;obtain⟨n,ya,ahE,rfl,l,x1,x2,d5,x3⟩:=Oj.o.args.mO Ar;obtain⟨G,yb,ahD,rfl,H,x4,x5,d6,x6⟩:=F.o.args.mO Ar;have d7:=qR x3 j;have d8:=qR x6 j;have WB:L.length<262143:=by have:=mq.o.l L (List.mem_of_getElem? Fv.o);omega
    have hilt:u<L.length:=(List.getElem?_eq_some_iff.1 Y9.o).1
    have n1:n≠c:=fun b=>by
     rw[b,HH.o.mine]at l;have:=iP 0 k (u+1);exact aO
    have n2:n≠g4:=fun b=>by
     rw[b,HO4.o]at l;have:=iP 0 k (u+1);exact aO
    have n3:n≠gm:=fun b=>by
     rw[b,F.o.mine]at l;unfold eO at l;exact aO
    have n4:n≠G:=fun b=>by
     rw[b,H]at l;unfold eO at l;exact aO
    have n5:n≠w.heap.size:=fun b=>by
     rw[b,lS.o _ ae]at l;unfold eO at l;exact aO
    have n6:G≠w.heap.size:=fun b=>by
     rw[b,lS.o _ ae]at H;unfold eO at H;exact aO
    have iQ:Hid (ic w ((d.setCell ⟨n,j,none⟩ (.string ⟨z.toArray⟩)).setCell ⟨G,j,none⟩ (.string ⟨z.toArray⟩)) own c bg):=by
     refine⟨_,?_,own,?_,HH.o.ZG (j:=j) (y:=z) mq.o Fv.o Y9.o Q.o R.o S.o Dh.o YY.o YX.o U.o V.o Oj.o F.o l H x3 x6,?_,?_,?_⟩
     ·refine mq.o.aaw Fv.o aP (fun q he=>?_);rcases List.mem_or_eq_of_mem_set he with h3|h3
      ·exact HLA.o q h3
      ·rw[h3];refine⟨by simpa using Y.o.Co,Y.o.val,fun bn hy=>?_,Y.o.sym⟩;rcases List.mem_or_eq_of_mem_set hy with h4|h4
       ·exact Y.o.args bn h4
       ·rw[h4];exact aO
     ·intro e hb;have:=f.o.size;simp[World.setCell]at hb;exact lS.o e aO
     ·intro e hb hb0;refine⟨?_,hb0⟩;rw[aC (fun b=>?_),aC (fun b=>?_)]
      ·exact f.o.block e hb
      ·have hc':e=n:=b;rw[hc',l]at hb0;unfold eO at hb0;exact aO
      ·have hc':e=G:=b;rw[hc',H]at hb0;unfold eO at hb0;exact aO
     ·have:=f.o.size;simp[World.setCell];exact aO
     ·exact(Same.below f.o:Same w d)
    have e4:d.cell? ⟨c,4,none⟩=some (.slice (some ⟨g4,0,none⟩) N c4):=by rw[<-kZ.o];exact R.o
    have e6:d.cell? ⟨g4,k,none⟩=some (.slice (some ⟨gm,0,none⟩) v Yt):=by rw[<-QT.o];exact HD4.o
    have z3:=F.o.c2;obtain⟨NA,tL⟩:=aJ t.args.length;rw[tL]at mi Ar z2 z3 hal hap x1 x4;obtain⟨wz,hwz⟩:∃wz,d.setCell ⟨n,j,none⟩ (.string ⟨z.toArray⟩)=wz:=⟨_,rfl⟩
    have I:∀e m,e≠n->wz.cell? ⟨e,m,none⟩=d.cell? ⟨e,m,none⟩:=fun e m hb=>by
     rw[<-hwz];exact ak (fun b=>hb (by injection b with b _ _;exact b.symm))
    have u4:=(I c 4 n1.symm).trans e4;have u6:=(I g4 k n2.symm).trans e6;have u7:=(I gm (u*4+2) n3.symm).trans z3;have u8:=(I G j n4.symm).trans d6;have u9:=(I w.heap.size 5 n5.symm).trans f5;have u10:wz.frozen? ⟨G,j,none⟩=false:=by rw[<-hwz,World.frozen?_setCell];exact d8
    rw[hwz]at iQ;have hjj:(j:Int)<(NA:Int):=aO;clear I tL hj ha0 l H x3 x6 U V HD4 YY YX S Dh Q R Oj F WB hilt;go_enter Tryz.func94,Tryz.ntmps94;go_wp2_with fail;go_region_held3 (fun a=>a.cell? ⟨c,3,none⟩=some (.slice (some ⟨g,0,none⟩) N B)/\a.cell? ⟨w.heap.size,1,none⟩=some (.int .i64 r)/\a.cell? ⟨g,k,none⟩=some (.slice (some ⟨E,0,none⟩) v C)) (go_keep) (first|(go_at_call 37;refine(T.o _).mono ?_;rintro q X ⟨rfl,i⟩;subst i));go_wp2_with fail;go_region_held3 (fun a=>a.cell? ⟨c,3,none⟩=some (.slice (some ⟨g,0,none⟩) N B)/\a.cell? ⟨w.heap.size,2,none⟩=some (.int .i64 s)/\a.cell? ⟨g,k,none⟩=some (.slice (some ⟨E,0,none⟩) v C)) (go_keep) (first|(go_at_call 37;refine(jB.o _).mono ?_;rintro q X ⟨rfl,i⟩;subst i));go_wp2_with fail;go_region_held3 (fun a=>a.cell? ⟨c,3,none⟩=some (.slice (some ⟨g,0,none⟩) N B)/\a.cell? ⟨w.heap.size,3,none⟩=some (.int .i64 y)/\a.cell? ⟨g,k,none⟩=some (.slice (some ⟨E,0,none⟩) v C)/\a.cell? ⟨E,u*4+2,none⟩=some (.slice (some ⟨n,0,none⟩) NA ca)) (go_keep) (first|(go_at_call 37;refine(mi.o _).mono ?_;rintro q X ⟨rfl,i⟩;subst i));go_wp2_with fail;go_region
    all_goals go_wp2_with fail
    go_region
    all_goals go_wp2_with fail
    all_goals
     go_end0;exact⟨rfl,by first|exact iQ.o|exact iQ.o.more (af.drew.drew.drew.drew.drew)⟩
theorem fO.set {a:Type}{C:List Value->a->Prop}{z z':a}(e:∀f,C f z->C f z'):∀{g:List (List Value)} {b:List a} {i:Nat},fO C g b->b[i]?=some z->fO C g (b.set i z')
 | _,_,i,.nil,h=>ajo
 | _,_,0,.cons c d,h=>by
  simp at h;subst h;exact .cons (e _ c) d
 | _,_,i+1,.cons c d,h=>by
  simp at h;exact .cons c (fO.set e d h)
theorem U8 {own:Own}{a:List (Nat × Nat × Doc.dB)}{S b:Doc.dB}(h:dN w own 3 75 2 Cn v a)(c:a[n]?=some (m,k,S)):dN w own 3 75 2 Cn v (a.set n (m,k,b)):=by
 obtain⟨d,e,f,g,i⟩:=h;exact⟨d,by rw[List.length_set];exact e,fO.set (z:=(m,k,S)) (z':=(m,k,b)) (fun l j=>j) f c,g,i⟩
theorem eT.Jt {own own':Own}{S f:Doc.dB}(h:eT w own n L)(u:L.dM[m]?=some (k,i,S))(g:∀b,b<w.heap.size->own b≠4*m+2->own b≠4*m+4->W.heap[b]?=w.heap[b]?/\own' b=own b)(K:dH own' W)(M:dA W own' (4*m+2) k f)(N:dE W own' (4*m+4) i f)(O:w.heap.size<=W.heap.size)(P:Same w W):gJ w W own n { L with dM:=L.dM.set m (k,i,f) }:=by
 obtain⟨Q,R,T,U,V,X⟩:=h.parts (w2:=W) (own':=own') (fun o=>o=4*m+2\/o=4*m+4) (fun b d v=>g b d (fun l=>v (.inl l)) (fun l=>v (.inr l)));obtain⟨x,y,b0⟩:=h.s;obtain⟨z,A,b1⟩:=h.words;obtain⟨B,C,b2⟩:=h.reg;obtain⟨D,E,b3⟩:=h.ls;obtain⟨F,G,b4⟩:=h.lw;obtain⟨Y,Z⟩:=h.obj;have p:=h.lt;obtain⟨q,hwo⟩:=g n p (by rw[h.mine];omega) (by rw[h.mine];omega);have a:∀{o:Nat} {H:Value},w.cell? ⟨n,o,none⟩=some H->W.cell? ⟨n,o,none⟩=some H:=fun hv=>(World.cell?_of_block (w:=w) (a:=⟨n,_,none⟩) q).trans hv;have I:∀s c j,¬(eO s c j=4*m+2\/eO s c j=4*m+4):=fun s c j=>by have:=iP s c j;omega
 have r:∀b,b<w.heap.size->own b=0->W.heap[b]?=w.heap[b]?/\own' b=0:=fun b d t=>by
  obtain⟨q1,q2⟩:=g b d (by rw[t];omega) (by rw[t];omega);exact⟨q1,q2.trans t⟩
 have hgs:=h.iE.size;refine⟨own',K,?_,r,O,P⟩;refine⟨hwo.trans h.mine,⟨Y,by rw[q];exact Z⟩,fun o=>(World.frozen?_of_block (w:=w) (a:=⟨n,o,none⟩) q).trans (h.fr o),⟨x,a y,U8 (Q aO x y) u⟩,⟨z,a A,R aO z A⟩,⟨B,a C,T aO aO B C⟩,⟨D,a E,U aO (fun c j=>I 0 c j) D E⟩,⟨F,a G,V aO (fun c j=>I 1 c j) F G⟩,a h.at_,a h.n,a h.ex,fun j x' m' S2 e=>?_,h.iE.ed (fun b d p=>(r b p (h.g0 b d)).1),fun b d=>(r b aO (h.g0 b d)).2⟩
 by_cases J:m=j
 ·subst J;rw[List.getElem?_set_self (List.getElem?_eq_some_iff.1 u).1]at e;simp at e;obtain⟨rfl,rfl,rfl⟩:=e;exact⟨M,N⟩
 ·rw[List.getElem?_set_ne J]at e;exact X aO j x' m' S2 aO aO e
theorem xk {R:Except (Nat × Nat) Doc.dB}{r:Doc.dB × Bool}(h:R.map (fun s=>(s,false))=.ok r):r.2=false:=by
 cases R with
 | error x=>cases h
 | ok s=>injection h with h;rw[<-h]
theorem RG {S:Doc.dB}{r:Doc.dB × Bool}(h:Doc.run S n A=.ok r)(a:r.2=true):r.1=S:=by
 cases A with
 | nil=>cases h
 | cons k rest=>
  simp only[Doc.run]at h;split at h
  ·rw[xk h]at a;cases a
  ·split at h
   ·rw[xk h]at a;cases a
   ·split at h
    ·rw[xk h]at a;cases a
    ·split at h
     ·rw[xk h]at a;cases a
     ·split at h
      ·split at h
       ·cases h
       ·injection h with h;rw[<-h]
      ·split at h
       ·split at h
        ·cases h
        ·injection h with h;rw[<-h]at a;cases a
       ·cases h
theorem Qj {S:Doc.dB}{l:Doc.Str}{r:Doc.dB × Bool}(h:Doc.jV S l=.ok r)(a:r.2=true):r.1=S:=by
 unfold Doc.jV at h;split at h
 ·cases h
 ·split at h
  ·cases h
  ·exact RG h a
theorem Qi {S a:Doc.dB}{l:Doc.Str}(h:ib S (Doc.jV S l)=(n,m,true,a)):n=0/\a=S:=by
 cases hd:Doc.jV S l with
 | error x=>rw[hd]at h;simp[ib]at h
 | ok r=>
  rw[hd]at h;simp[ib]at h;obtain⟨b,_,c,d⟩:=h;exact⟨b.symm,by rw[<-d];exact Qj hd c⟩
theorem Tg {S a:Doc.dB}{l:Doc.Str}(h:ib S (Doc.jV S l)=(n,m,false,a)):Hm S l 0=(rep n m 0 0,a):=by
 unfold Hm;rw[if_neg aO];cases hd:Doc.jV S l with
 | error x=>
  rw[hd]at h;simp[ib]at h;obtain⟨rfl,rfl,rfl⟩:=h;rfl
 | ok r=>
  rw[hd]at h;simp[ib]at h;obtain⟨rfl,rfl,b,rfl⟩:=h;simp[b]
theorem Z0 {S a:Doc.dB}{l:Doc.Str}{c:Bool}(b:Doc.fQ S)(h:ib S (Doc.jV S l)=(n,m,c,a)):Doc.fQ a:=by
 cases hd:Doc.jV S l with
 | error x=>
  rw[hd]at h;simp[ib]at h;rw[<-h.2.2.2];exact b
 | ok r=>
  rw[hd]at h;simp[ib]at h;rw[<-h.2.2.2];exact Doc.F4 b hd
theorem Ng (l g o j x m:Nat)(own:Own)(M:jv)(S:Doc.dB)(s:List UInt8)(bu:Int)(w:World)(A:eT w own l M)(J:dH own w)(B:M.dM[j]?=some (x,m,S))(v:Doc.fQ S)(K:s.length<=1000000)(L:own g=3)(N:w.cell? ⟨g,o,none⟩=some (.pointer (some ⟨x,0,none⟩)))(p1:w.cell? ⟨g,o+1,none⟩=some (.pointer (some ⟨m,0,none⟩))) :
 Calls Tryz.prog 40 #[.pointer (some ⟨l,0,none⟩),.pointer (some ⟨g,o,none⟩),.string ⟨s.toArray⟩,.int .i64 bu,.bool false] w fun t w'=>t=.returned (.bool true)/\∃e,Doc.fQ e/\gJ w w' own l { M with dM:=M.dM.set j (x,m,e) }:=by
 obtain⟨O,Q⟩:=A.dM j x m S B;obtain⟨E,P,C,e,y⟩:∃E P C e,ib S (Doc.jV S s)=(E,P,C,e):=⟨_,_,_,_,rfl⟩;have D:=di (aal m (4*j+4) own S s w Q J aO v K);rw[y]at D;have R:=di y;have T:=di (Z0 v y);have hgl:=ai N;have n:=di A;have U:=di B;have V:=di O;have HG:=di L;have Ia:=di v;have HP0:=di N;have HP1:=di p1;clear A J B v L O Q y;cases C with
 | true=>
  obtain⟨rfl,rfl⟩:=Qi R.o;go_enter Tryz.func40,Tryz.ntmps40;go_wp2_with fail;refine D.o.mono ?_;rintro t a ⟨p,h,rfl,u⟩;have c:=di h;have F:=di u;clear h u;go_wp2_with fail;go_ret
  have G:Hid (gJ w a own l { M with dM:=M.dM.set j (x,m,e) }):=
   n.o.Jt (own':=p) U.o (fun b f _ H=>⟨c.o.block b f H,c.o.ext b f⟩) c.o.fresh (V.o.fr' c.o aO aO) F.o c.o.size ⟨c.o.os,c.o.tape,c.o.output⟩
  exact⟨rfl,e,T.o,G.o.more ((Below.refl a.heap.size a).alloc ae _)⟩
 | false=>
  have HDR:=di (Tg R.o);go_enter Tryz.func40,Tryz.ntmps40;go_wp2_with fail;refine D.o.mono ?_;rintro t a ⟨p,h,rfl,u⟩;have c:=di h;have F:=di u;have hsz1:=h.size;have q0:a.cell? ⟨g,o,none⟩=some (.pointer (some ⟨x,0,none⟩)):=(World.cell?_of_block (w:=w) (a:=⟨g,o,none⟩) (h.block g hgl (by rw[HG.o];omega))).trans HP0.o;have aeo:g<a.heap.size:=aO;have hgs:=n.o.iE.size;have W:eU a:=n.o.iE.ed (fun b f I=>h.block b I (by rw[n.o.g0 b f];omega));have X:∀b,b<2->p b=0:=fun b f=>by rw[h.ext b aO];exact n.o.g0 b f
  clear h u;obtain⟨k,q⟩:∃k,a.alloc (.cells #[.int .i64 (E:Int),.int .i64 (P:Int),.bool false] 147)=k:=⟨_,rfl⟩;have r:Below a.heap.size a k:=by rw[<-q];exact af.alloc ae _
  have q3:k.cell? ⟨a.heap.size,0,none⟩=some (.int .i64 (E:Int)):=akq;have q4:k.cell? ⟨a.heap.size,1,none⟩=some (.int .i64 (P:Int)):=akq;have q5:k.cell? ⟨a.heap.size,2,none⟩=some (.bool false):=akq;have q6:k.cell? ⟨g,o,none⟩=some (.pointer (some ⟨x,0,none⟩)):=(r.cell (p:=⟨g,o,none⟩) aeo).trans q0;have z:=di r;have Y:=di (Mf x (4*j+2) p S s 0 k ((V.o.fr' c.o aO aO).below r) (fun b f=>c.o.fresh b (by have:=r.size;omega)) aO Ia.o (W.ed (fun b _ I=>r.block b I)) X K);rw[HDR.o]at Y;have HWA:=di q;clear r W X q;obtain⟨bE,tE⟩:=aJ (((E:Int)==0));cases bE
  all_goals
   go_wp2_with fail;rw[HWA.o];refine Y.o.mono ?_;rintro t i ⟨mM,d,rfl,Z⟩;simp only[rep];have r0:i.cell? ⟨a.heap.size,0,none⟩=some (.int .i64 (E:Int)):=d.cell (p:=⟨a.heap.size,0,none⟩) q3 akB;have r1:i.cell? ⟨a.heap.size,1,none⟩=some (.int .i64 (P:Int)):=d.cell (p:=⟨a.heap.size,1,none⟩) q4 akB;have hr3:a.heap.size<i.heap.size:=ai r0
   have G:Hid (gJ w i own l { M with dM:=M.dM.set j (x,m,e) }):=by
    have hsA:=z.o.size;have hs3:=d.size;refine n.o.Jt (own':=mM) U.o (fun b f h2 H=>?_) d.fresh Z ((F.o.below z.o).fr' d aO aO) aO (Same.trans (Same.trans ⟨c.o.os,c.o.tape,c.o.output⟩ (Same.below z.o)) ⟨d.os,d.tape,d.output⟩);have k1:=c.o.ext b f;refine⟨?_,?_⟩
    ·rw[d.block b aO (by rw[k1];exact h2),z.o.block b aO,c.o.block b f H]
    ·rw[d.ext b aO,k1]
   clear d Z;go_wp2_with fail;refine(FJ i.heap.size (i.heap.size+1) E P 0 0 _ ?r1 ?r2).mono ?_
   case r1=>exact⟨aP,aP,aP,aP,aP,aP⟩
   case r2=>exact⟨aP,aP,aP,aP,aP,aP⟩
   rintro t w5 ⟨rfl,hd⟩
   have CB:Hid (gJ w w5 own l { M with dM:=M.dM.set j (x,m,e) }):=by
    obtain⟨bg,rfl⟩:=hd;exact G.o.more (below_drewN (((Below.refl i.heap.size i).alloc ae _).alloc aP _) _)
   clear hd;go_wp2_with fail;go_ret;exact⟨rfl,e,T.o,CB.o⟩
def pG (kd:Int)(e:Ending):Prop:=∃v:Int,e=.returned (.int .i64 v)/\(kd=3->v=16)/\(kd=4->v=32)
theorem Js {own:Own}{k:Nat}{s:Nat × Nat × Doc.dB}(h:eT w own n L)(a:w.cell? ⟨n,0,none⟩=some v)(f:L.dM[k]?=some s):∃g c,v=.slice (some ⟨g,0,none⟩) L.dM.length c/\L.dM.length<=c/\c<=2 ^ 63-1/\own g=3/\w.cell? ⟨g,k*2,none⟩=some (.pointer (some ⟨s.1,0,none⟩))/\w.cell? ⟨g,k*2+1,none⟩=some (.pointer (some ⟨s.2.1,0,none⟩)):=by
 obtain⟨z,i,j⟩:=h.s;rw[i]at a;injection a with a
 subst a;obtain⟨d,l⟩:=List.getElem?_eq_some_iff.1 f;obtain⟨A,m,a,o,e,p⟩:=j.sl;unfold maxLen at e;obtain⟨g,q,r,t⟩:=p k d;obtain⟨x,_,u,b⟩:=t d;have y:x=[.pointer (some ⟨L.dM[k].1,0,none⟩),.pointer (some ⟨L.dM[k].2.1,0,none⟩)]:=u;subst y;rw[l]at b;exact⟨g,m,by rw[a,q],o,e,r,b 0 _ aO rfl,b 1 _ aO rfl⟩
theorem Vk (f:Nat)(own:Own)(M:jv)(o:iK)(bn:Nat)(w:World)(h:eT w own f M)(E:gD bn M)(ho:pX o) :
 Calls Tryz.prog 20 #[.pointer (some ⟨f,0,none⟩),o.val] w fun n i=>pG o.kind n/\Below w.heap.size w i:=by
 obtain⟨v0,a0,b0⟩:=h.s;have YQ:=di (fun k s q=>Js (k:=k) (s:=s) h a0 q);obtain⟨bA,cp,rfl,p1,p2⟩:=b0.form;have rP:=di (fun W (hb:Below w.heap.size w W)=>J7 f own M o W (h.keep (fun bg hb'=>⟨hb.block bg hb',rfl⟩) (h.iE.ed (fun bg _ hlt=>hb.block bg hlt))) ho E.word (by have:=E.words;have:=E.lim;omega));obtain⟨a,e,I,oc,S,ot⟩:=o;obtain⟨⟨uD,uC⟩,⟨mR,qd⟩,_,hos,ht⟩:=ho;simp only at uD uC mR qd ht hos;simp only[iK.val]at rP;obtain⟨b,r⟩:∃b,w.alloc (.cells #[.int .i64 a,.int .i64 e,.int .i64 I,.int .i64 oc,.string ⟨S.toArray⟩,.string ⟨ot.toArray⟩] 33)=b:=⟨_,rfl⟩;have hb1:Below w.heap.size w b:=by rw[<-r];exact af.alloc ae _
 have c:=di hb1;have xQ:=h.lt;have J:=(hb1.cell (p:=⟨f,0,none⟩) xQ).trans a0;have f0:b.cell? ⟨w.heap.size,0,none⟩=some (.int .i64 a):=ajM;have f1:b.cell? ⟨w.heap.size,1,none⟩=some (.int .i64 e):=ajM;have f2:b.cell? ⟨w.heap.size,2,none⟩=some (.int .i64 I):=ajM;have f3:b.cell? ⟨w.heap.size,3,none⟩=some (.int .i64 oc):=ajM;have f5:b.cell? ⟨w.heap.size,5,none⟩=some (.string ⟨ot.toArray⟩):=ajM;have f4:b.cell? ⟨w.heap.size,4,none⟩=some (.string ⟨S.toArray⟩):=ajM;have BS:=di (fun(m:Nat) W (j:0<m) (p:m<=1000000)=>jo e m W uD uC j aO);have LH:=di (fun(m:Nat) W (j:0<m) (p:m<=1000000)=>jo I m W mR qd j aO);have hls:M.dM.length<=100000:=by have:=E.dM;have:=E.lim;omega
 simp only[iK.val];clear h E b0 a0 hb1;have t:Hid (∀T,a≠3->a≠4->pG a (.returned (.int .i64 T))):=fun T j p=>⟨T,rfl,fun h=>absurd h j,fun h=>absurd h p⟩
 by_cases j:a=1
 ·have d:Hid (pG a (.returned (.int .i64 256))):=⟨256,rfl,fun h=>aO,fun h=>aO⟩;subst j;exact ak7
 ·have t1:(a==1)=false:=aj j
  by_cases p:a=2
  ·by_cases u:M.dM.length=0
   ·rw[u]at J;have d:Hid (pG a (.returned (.int .i64 0))):=t.o 0 aO aO;subst p;clear u;exact ak7
   ·have v:0<M.dM.length:=aO;have x:=l6 e v;obtain⟨s,q⟩:∃s,M.dM[pk e M.dM.length]?=some s:=⟨_,aD x⟩;have y:=di (fun W=>BS.o M.dM.length W v aO);obtain⟨g,c0,hv,k1,k2,_,z,A⟩:=YQ.o _ s q;obtain⟨k,K⟩:=aJ (pk e M.dM.length);rw[K]at y x z A;injection hv with hv1 _ hv2
    subst hv1 hv2;have L:Hid (g<w.heap.size):=ai z;have d2:=(c.o.cell (p:=⟨g,k*2+1,none⟩) L.o).trans A;obtain⟨N,O⟩:=aJ M.dM.length;rw[O]at y x J hls v k1 p1;clear u K q O z A;have hkk:(k:Int)<(N:Int):=aO;subst p;go_enter Tryz.func20,Tryz.ntmps20;go_wp2_with fail;go_region_held3 (fun i=>i.cell? ⟨f,0,none⟩=some (.slice (some ⟨g,0,none⟩) N cp)/\i.cell? ⟨w.heap.size,1,none⟩=some (.int .i64 e)/\i.cell? ⟨g,k*2+1,none⟩=some (.pointer (some ⟨s.2.1,0,none⟩))) (go_keep) (first|(go_at_call 37;refine(y.o _).mono ?_;rintro n U ⟨rfl,hw3⟩;subst hw3));go_wp2_with fail;refine(Mi s.2.1 S _ aO).mono ?_;rintro n P ⟨rfl,Q⟩;have l:=di Q;clear Q;obtain⟨B,R⟩:=aJ (Doc.asks S);rw[R];clear R;cases B with
    | true=>
     exact alZ
    | false=>
     exact alZ
  ·have t2:(a==2)=false:=aj p
   by_cases V:a=15
   ·by_cases u:M.dM.length=0
    ·rw[u]at J;have d:Hid (pG a (.returned (.int .i64 0))):=t.o 0 aO aO;subst V;clear u;exact ak7
    ·have v:0<M.dM.length:=aO;have x:=l6 e v;obtain⟨s,q⟩:∃s,M.dM[pk e M.dM.length]?=some s:=⟨_,aD x⟩;have y:=di (fun W=>BS.o M.dM.length W v aO);obtain⟨g,c0,hv,k1,k2,_,z,A⟩:=YQ.o _ s q;obtain⟨k,K⟩:=aJ (pk e M.dM.length);rw[K]at y x z A;injection hv with hv1 _ hv2
     subst hv1 hv2;have L:Hid (g<w.heap.size):=ai z;have d2:=(c.o.cell (p:=⟨g,k*2+1,none⟩) L.o).trans A;obtain⟨N,O⟩:=aJ M.dM.length;rw[O]at y x J hls v k1 p1;clear u K q O z A;have hkk:(k:Int)<(N:Int):=aO;subst V;go_enter Tryz.func20,Tryz.ntmps20;go_wp2_with fail;refine(rP.o b c.o).mono ?_;rintro n F ⟨⟨bq,rfl,hy⟩,C⟩;have HB2:Hid (Below w.heap.size w F):=c.o.trans (C.mono c.o.size);have P9:w.heap.size<b.heap.size:=ai f0;have x0:=(C.cell (p:=⟨f,0,none⟩) (by show f<b.heap.size;omega)).trans J;have x1:=(C.cell (p:=⟨w.heap.size,1,none⟩) P9).trans f1;have x2:=(C.cell (p:=⟨w.heap.size,2,none⟩) P9).trans f2;have x3:=(C.cell (p:=⟨g,k*2+1,none⟩) (by show g<b.heap.size;have:=L.o;omega)).trans d2;have agY:b.heap.size<=F.heap.size:=C.size;clear C;go_wp2_with fail;refine(BB bq _ aO).mono ?_;rintro n U ⟨⟨T,G,rfl,hown,hpos,hlen,hcnt⟩,H⟩;have X:Hid (Below w.heap.size w U):=HB2.o.trans (H.mono HB2.o.size);obtain⟨ao,cap,rfl,m1,m2,hel⟩:=dQ hown;have Y:=l6 I hpos;have rR:=di (fun W=>LH.o G.length W hpos aO);obtain⟨g5,rfl,CV,_⟩:=hel _ Y;obtain⟨D,hj⟩:=aJ (pk I G.length);rw[hj]at rR Y CV;have hyl:=hlen (G[D]) (List.getElem_mem _);have hc6:U.cell? ⟨g5,D,none⟩=some (.string ⟨(G[D]).toArray⟩):=by rw[CV,List.getElem?_map,aD Y];rfl
     have y0:=(H.cell (p:=⟨f,0,none⟩) (by show f<F.heap.size;omega)).trans x0;have y1:=(H.cell (p:=⟨w.heap.size,1,none⟩) (by show w.heap.size<F.heap.size;omega)).trans x1;have y2:=(H.cell (p:=⟨w.heap.size,2,none⟩) (by show w.heap.size<F.heap.size;omega)).trans x2;have y3:=(H.cell (p:=⟨g,k*2+1,none⟩) (by show g<F.heap.size;have:=L.o;omega)).trans x3;obtain⟨Z,htx⟩:=aJ (G[D]);rw[htx]at hc6 hyl;obtain⟨NW,SL⟩:=aJ G.length;rw[SL]at rR Y m1 hpos hcnt ⊢;have hjj:(D:Int)<(NW:Int):=aO;clear H hown hel hlen hj CV htx SL;go_wp2_with fail;refine(rR.o _).mono ?_;rintro n P ⟨rfl,hw4⟩;subst hw4;go_wp2_with fail;go_region_held3 (fun i=>i.cell? ⟨f,0,none⟩=some (.slice (some ⟨g,0,none⟩) N cp)/\i.cell? ⟨w.heap.size,1,none⟩=some (.int .i64 e)/\i.cell? ⟨g,k*2+1,none⟩=some (.pointer (some ⟨s.2.1,0,none⟩))) (go_keep) (first|(go_at_call 37;refine(y.o _).mono ?_;rintro n U ⟨rfl,hw3⟩;subst hw3));go_wp2_with fail;refine(Mi s.2.1 Z _ aO).mono ?_;rintro n w9 ⟨rfl,Q⟩;have l:=di Q;clear Q;obtain⟨B,R⟩:=aJ (Doc.asks Z);rw[R];clear R;cases B with
     | true=>
      exact al0
     | false=>
      exact al0
   ·have t15:(a==15)=false:=aj V
    by_cases h16:a=16
    ·have d:Hid (pG a (.returned (.int .i64 8))):=⟨8,rfl,fun h=>aO,fun h=>aO⟩;subst h16;exact ak7
    ·have t16:(a==16)=false:=aj h16
     by_cases h3:a=3
     ·have d:Hid (pG a (.returned (.int .i64 16))):=⟨16,rfl,fun h=>aO,fun h=>aO⟩;subst h3;exact ak7
     ·have t3:(a==3)=false:=aj h3
      by_cases h4:a=4
      ·have d:Hid (pG a (.returned (.int .i64 32))):=⟨32,rfl,fun h=>aO,fun h=>aO⟩;subst h4;exact ak7
      ·have t4:(a==4)=false:=aj h4
       by_cases h5:a=5
       ·have d:Hid (pG a (.returned (.int .i64 64))):=⟨64,rfl,fun h=>aO,fun h=>aO⟩;subst h5;exact ak7
       ·have t5:(a==5)=false:=aj h5
        by_cases h6:a=6
        ·have d:Hid (pG a (.returned (.int .i64 128))):=⟨128,rfl,fun h=>aO,fun h=>aO⟩;subst h6;exact ak7
        ·have t6:(a==6)=false:=aj h6;have d:Hid (pG a (.returned (.int .i64 0))):=t.o 0 h3 h4;clear j p V h16 h3 h4 h5 h6;exact ak7
structure QC (w:World)(g o:Nat)(v:iK):Prop where
 kind:w.cell? ⟨g,o,none⟩=some (.int .i64 v.kind)
 a:w.cell? ⟨g,o+1,none⟩=some (.int .i64 v.a)
 b:w.cell? ⟨g,o+2,none⟩=some (.int .i64 v.b)
 c:w.cell? ⟨g,o+3,none⟩=some (.int .i64 v.c)
 s:w.cell? ⟨g,o+4,none⟩=some (.string ⟨v.s.toArray⟩)
 t:w.cell? ⟨g,o+5,none⟩=some (.string ⟨v.t.toArray⟩)
structure kY (w:World)(ao:Option Addr)(cap:Nat)(ops:List iK):Prop where
 le:ops.length<=cap
 max:cap<=2 ^ 63-1
 get:∀i v,ops[i]?=some v->∃g o,ao=some ⟨g,o,none⟩/\QC w g (o+i*6) v
theorem QC.same {o:Nat}{v:iK}(h:QC w n o v)(a:W.heap[n]?=w.heap[n]?):QC W n o v:=by
 have q:∀i,W.cell? ⟨n,i,none⟩=w.cell? ⟨n,i,none⟩:=fun i=>World.cell?_of_block (w:=w) (a:=⟨n,i,none⟩) a;exact⟨(q _).trans h.kind,(q _).trans h.a,(q _).trans h.b,(q _).trans h.c,(q _).trans h.s,(q _).trans h.t⟩
theorem kY.same {c:List iK}(h:kY w a n c)(e:∀b,b<w.heap.size->W.heap[b]?=w.heap[b]?):kY W a n c:=
 ⟨h.le,h.max,fun i v f=>by
  obtain⟨g,o,j,d⟩:=h.get i v f;exact⟨g,o,j,d.same (e g (ai d.kind))⟩⟩
def jq:List iK->Nat
 | []=>0
 | o::os=>o.s.length+o.t.length+jq os
theorem ML {a:List iK}{v:iK}(h:a[n]?=some v):jq (a.take (n+1))=jq (a.take n)+v.s.length+v.t.length:=by
 induction a generalizing n with
 | nil=>simp at h
 | cons o c b=>
  cases n with
  | zero=>simp at h;subst h;simp[jq]
  | succ n=>
   simp at h;have:=b h;simp only[List.take_succ_cons,jq];exact aO
theorem zC {a:List iK}{v:iK}(h:v∈a):v.s.length+v.t.length<=jq a:=by
 induction a with
 | nil=>simp at h
 | cons o c b=>
  rcases List.mem_cons.1 h with rfl|h
  ·simp only[jq];exact aO
  ·have:=b h;simp only[jq];exact aO
def EY (ops:List iK)(e:Ending):Prop:=∃b:Bool,e=.returned (.bool b)/\(b=true->ops.length<=65536/\jq ops<=65536)
theorem AV (q:Option Addr)(s b:Nat)(a:List iK)(w:World)(h:kY w q s a)(g:a.length=b)(l:∀v∈a,v.s.length<=1000000000000000/\v.t.length<=1000000000000000) :
 Calls Tryz.prog 12 #[.slice q b s] w fun B C=>EY a B/\fF w C:=by
 have D:=h.le;have Q:=h.max;rw[g]at D;have E:=di h.get;have F:=di l;have t:Hid (EY a (.returned (.bool false))):=⟨false,rfl,aP⟩;have u:=di g
 by_cases j:65536<b
 ·clear h g l;go_enter Tryz.func12,Tryz.ntmps12;go_wp2_with fail;go_ret;exact⟨t.o,fF.refl _⟩
 ·have G:Hid (jq a<=65536->EY a (.returned (.bool true))):=fun m=>⟨true,rfl,fun _=>⟨aO,m⟩⟩;have H:b<=65536:=aO;clear h g l j;go_enter Tryz.func12,Tryz.ntmps12;go_wp2_with fail
  go_loopw [3,4] (fun I r wr=>∃(i z:Nat),I=.int .i64 z/\r=.int .i64 i/\i<=b/\z=b+jq (a.take i)/\z<=65536/\fF w wr) (fun _ r _=>b-(intOf r).toNat)
  case atStart=>exact⟨0,b,rfl,rfl,aO,by simp[jq],H,fF.refl _⟩
  case round=>
   obtain⟨i,z,rfl,rfl,hi,n,R,c⟩:=hrel;have d:=di c;have x:=di n
   by_cases J:i<b
   ·obtain⟨v,k⟩:∃v,a[i]?=some v:=⟨_,aD (by rw[u.o];exact J)⟩;obtain⟨y,o,rfl,p⟩:=E.o i v k;obtain⟨K,L⟩:=F.o v (List.mem_of_getElem? k);have M:=(c.cell ⟨y,o+i*6+4,none⟩).trans p.s;have N:=(c.cell ⟨y,o+i*6+5,none⟩).trans p.t
    have A:Hid (z+v.s.length+v.t.length=b+jq (a.take (i+1))):=by
     show _=_;rw[ML k,x.o];exact aO
    obtain⟨S,T,U,V,e,f⟩:=v;simp only at M N K L A;have W:(i:Int)<(b:Int):=aO;clear c k p n
    by_cases j:65536<z+e.length+f.length
    ·have O:(65536:Int)<(z:Int)+(e.length:Int)+(f.length:Int):=aO;clear j;go_wp2_with fail;go_quiet (fail);go_wp2_with fail;go_ret;exact⟨t.o,by first|exact d.o.more _|exact d.o⟩
    ·have O:(z:Int)+(e.length:Int)+(f.length:Int)<=65536:=aO;have X:¬(65536:Int)<(z:Int)+(e.length:Int)+(f.length:Int):=aO;clear j;go_wp2_with fail;go_quiet (fail);go_wp2_with fail;go_roundw
     case rel=>exact⟨i+1,z+e.length+f.length,bJ,bJ,aO,A.o,aO,by first|exact d.o.more _|exact d.o⟩
     case measure=>exact akL
   ·have P:Hid (EY a (.returned (.bool true))):=G.o (by
     have m:=x.o;rw[show i=a.length by rw[u.o];omega,List.take_length]at m;omega)
    clear c n;go_wp2_with fail;go_ret;exact⟨P.o,d.o⟩
def jv.zero:jv:=⟨[],[],[],[],0,0,0⟩
theorem gD.zero:gD 0 jv.zero:=⟨aO,ah9,ah9,ah9,ah9,ah9,ah9,ah9,ah9,ah9,ah9,ah9,ah9⟩
theorem gu.nil (w:World)(own:Own)(a:Nat):gu w own a (.slice none 0 0) []:=
 ⟨⟨[],World.ownsRow_nil _ _ _ _,rfl,fun k u L b=>by simp at b⟩,fun d c=>by simp[Value.ownBlock]at c⟩
theorem eT.new (a:eU w):eT (w.alloc (.cells #[.slice none 0 0,.slice none 0 0,.slice none 0 0,.slice none 0 0,.slice none 0 0,.int .i64 0,.int .i64 0,.int .i64 0] 48)) (dw (fun _=>0) w.heap.size 1) w.heap.size jv.zero:=by
 have f:=a.size;have b:Below w.heap.size w (w.alloc (.cells #[.slice none 0 0,.slice none 0 0,.slice none 0 0,.slice none 0 0,.slice none 0 0,.int .i64 0,.int .i64 0,.int .i64 0] 48)):=ag;refine⟨aiN,⟨#[.slice none 0 0,.slice none 0 0,.slice none 0 0,.slice none 0 0,.slice none 0 0,.int .i64 0,.int .i64 0,.int .i64 0],by first|(simp;done)|(simp[World.heap_alloc];done)|(show(w.heap.push _)[w.heap.size]?=_;rw[Array.getElem?_push_size])⟩,fun o=>aP,⟨.slice none 0 0,aP,dN.nil _ _ _ _ _ _⟩,⟨.slice none 0 0,aP,dN.nil _ _ _ _ _ _⟩,⟨.slice none 0 0,aP,dN.nil _ _ _ _ _ _⟩,⟨.slice none 0 0,aP,gu.nil _ _ _⟩,⟨.slice none 0 0,aP,gu.nil _ _ _⟩,ah9,ah9,ah9,fun i x m S d=>by simp[jv.zero]at d,a.ed (fun c _ e=>b.block c e),fun c b=>?_⟩;unfold dw;rw[if_neg aO]
def lY (w:World)(g o:Nat)(v0 v1 v2 v3:Value):World:=(((w.setCell ⟨g,o,none⟩ v0).setCell ⟨g,o+1,none⟩ v1).setCell ⟨g,o+2,none⟩ v2).setCell ⟨g,o+3,none⟩ v3
theorem tu (w:World)(g o:Nat)(c d e f:Value)(b:Nat)(a:b≠g):(lY w g o c d e f).heap[b]?=w.heap[b]?:=by
 unfold lY;rw[aC a,aC a,aC a,aC a]
theorem GH (w:World)(g o:Nat)(a b c d:Value):(lY w g o a b c d).heap.size=w.heap.size:=by
 unfold lY;exact aik
theorem RS (w:World)(g o:Nat)(a c d e:Value)(b m:Nat)(f:b≠g):(lY w g o a c d e).cell? ⟨b,m,none⟩=w.cell? ⟨b,m,none⟩:=World.cell?_of_block (tu w g o a c d e b f)
theorem MC (w:World)(g o:Nat)(b c d e:Value)(a:Addr):(lY w g o b c d e).frozen? a=w.frozen? a:=by
 unfold lY;rw[World.frozen?_setCell,World.frozen?_setCell,World.frozen?_setCell,World.frozen?_setCell]
theorem eT.ZF {own:Own}{i:Nat}{e:fU}{r x l B h y K C:Nat}(D:eT w own n L)(_hB:gD m L)(z:L.ls[k]?=some c)(hi:i<c.length)(M:w.cell? ⟨n,3,none⟩=some (.slice (some ⟨j,0,none⟩) L.ls.length N))(O:w.cell? ⟨n,4,none⟩=some (.slice (some ⟨r,0,none⟩) L.ls.length x))
 (d3:w.cell? ⟨j,k,none⟩=some (.slice (some ⟨l,0,none⟩) c.length B)) (d4:w.cell? ⟨r,k,none⟩=some (.slice (some ⟨h,0,none⟩) c.length y)) (s3:jX w own (eO 0 k (i+1)) (.slice a e.args.length K) e.args) (P:jX w own (eO 1 k (i+1)) (.slice d e.args.length C) e.args)
 (Q:lY w l (i*4) (.int .i64 e.sym) (.bool e.other) (.slice a e.args.length K) (dO e.val)=W) (R:lY W h (i*4) (.int .i64 e.sym) (.bool e.other) (.slice d e.args.length C) (dO e.val)=u) :
 eT u own n { L with ls:=L.ls.set k (c.set i e) }:=by
 obtain⟨v3,b3,S⟩:=D.ls;obtain rfl:v3=.slice (some ⟨j,0,none⟩) L.ls.length N:=Option.some.inj (b3.symm.trans M);obtain⟨v4,b4,E⟩:=D.lw;obtain rfl:v4=.slice (some ⟨r,0,none⟩) L.ls.length x:=Option.some.inj (b4.symm.trans O);obtain⟨g3',c3',u3,s,_,_,o3,T,F,m3⟩:=S.mO z
 have KW:j=g3':=by
  injection s with s;injection s with s;injection s
 rw[<-KW]at T;obtain rfl:u3=.slice (some ⟨l,0,none⟩) c.length B:=Option.some.inj (T.symm.trans d3);obtain⟨g4',c4',u4,t,_,_,o4,U,G,m4⟩:=E.mO z
 have e2':r=g4':=by
  injection t with t;injection t with t;injection t
 rw[<-e2']at U;obtain rfl:u4=.slice (some ⟨h,0,none⟩) c.length y:=Option.some.inj (U.symm.trans d4);have H:own l=eO 0 k 0:=F.head l rfl;have A:own h=eO 1 k 0:=G.head h rfl;obtain⟨q1,q2,q3,V,X⟩:=F.mO (aD hi);obtain⟨r1,r2,r3,r4,Y⟩:=G.mO (aD hi)
 have hv3:l=q1:=by
  have f:=X.val;injection f with f
  injection f with f;injection f
 have hv4:h=r1:=by
  have f:=Y.val;injection f with f
  injection f with f;injection f
 obtain⟨aeN,Z⟩:=X.type;obtain⟨abT,hgm⟩:=Y.type;rw[<-hv3]at Z;rw[<-hv4]at hgm;have o:∀b,b≠l->W.heap[b]?=w.heap[b]?:=fun b p=>by rw[<-Q];exact tu _ _ _ _ _ _ _ b p
 have I:∀b,b≠h->u.heap[b]?=W.heap[b]?:=fun b p=>by rw[<-R];exact tu _ _ _ _ _ _ _ b p
 have p3:iX W own (eO 0 k) (.slice (some ⟨l,0,none⟩) c.length B) (c.set i e):=by
  rw[<-Q];unfold lY;exact F.put hi s3
 have s0:gu W own 0 (.slice (some ⟨j,0,none⟩) L.ls.length N) (L.ls.set k (c.set i e)):=S.put z m3 Z H o p3
 have v:∀b,(own b=9+2*1\/∃k i,own b=eO 1 k i)->b≠l:=fun b g q=>by
  rw[q,H]at g;rcases g with g|⟨k',J,g⟩
  ·have:=iP 0 k 0;exact aO
  ·unfold eO at g;exact aO
 have hnm:∀b,(own b=9+2*0\/∃k i,own b=eO 0 k i)->b≠h:=fun b g q=>by
  rw[q,A]at g;rcases g with g|⟨k',J,g⟩
  ·have:=iP 1 k 0;exact aO
  ·unfold eO at g;exact aO
 have s1:gu u own 0 (.slice (some ⟨j,0,none⟩) L.ls.length N) (L.ls.set k (c.set i e)):=s0.keep (fun b _ g=>⟨I b (hnm b g),rfl⟩);have V:gu W own 1 (.slice (some ⟨r,0,none⟩) L.ls.length x) L.ls:=E.keep (fun b _ g=>⟨o b (v b g),rfl⟩);have p4:iX W own (eO 1 k) (.slice (some ⟨h,0,none⟩) c.length y) c:=G.keep (fun b _ ⟨J,_,g⟩=>⟨o b (v b (.inr ⟨k,J,g⟩)),rfl⟩);have s4':jX W own (eO 1 k (i+1)) (.slice d e.args.length C) e.args:=P.keep (fun b p=>⟨o b (v b (.inr ⟨k,i+1,P.2 b p⟩)),rfl⟩)
 have p5:iX u own (eO 1 k) (.slice (some ⟨h,0,none⟩) c.length y) (c.set i e):=by
  rw[<-R];unfold lY;exact p4.put hi s4'
 have aen:W.heap[h]?=some (.cells abT 142 (0,0)):=(o h (v h (.inr ⟨k,0,A⟩))).trans hgm
 have s2:gu u own 1 (.slice (some ⟨r,0,none⟩) L.ls.length x) (L.ls.set k (c.set i e)):=
  V.put z (fun vs hvs=>m4 vs (Ba hvs (fun b p=>o b (v b (.inl (E.head b p)))))) aen A I p5
 refine D.Jy (fun b _ hn=>?_) (fun bg f=>?_) (fun bg f=>?_)
 ·rw[I b (fun q=>hn 1 k 0 (by rw[q];exact A)),o b (fun q=>hn 0 k 0 (by rw[q];exact H))]
 ·rw[M]at f;injection f with f;rw[<-f];exact s1
 ·rw[O]at f;injection f with f;rw[<-f];exact s2
structure Mg (w w':World)(own own':Own)(c:Nat)(e:fU)(a:Option Addr)(cp:Nat):Prop where
 dG:Below w.heap.size w w'
 lt:w.heap.size<w'.heap.size
 ext:∀b,b<w.heap.size->own' b=own b
 fresh:dH own' w'
 c0:w'.cell? ⟨w.heap.size,0,none⟩=some (.int .i64 e.sym)
 c1:w'.cell? ⟨w.heap.size,1,none⟩=some (.bool e.other)
 c2:w'.cell? ⟨w.heap.size,2,none⟩=some (.slice a e.args.length cp)
 c3:w'.cell? ⟨w.heap.size,3,none⟩=some (dO e.val)
 args:jX w' own' c (.slice a e.args.length cp) e.args
def NK (c:Nat)(i:Nat):Nat:=if i=0 then 0 else c+(i-1)
theorem NJ (a:0<n):∀i j,i<=1->j<=1->NK n i=NK n j->i=j:=by
 intro i j hi b h;unfold NK at h;split at h<;>split at h<;>omega
def yw (w w':World)(own:Own)(c:Nat)(e:fU)(x:Ending):Prop:=x=.returned (.slice (some ⟨w.heap.size,0,none⟩) 1 1)/\∃own' a cp,Mg w w' own own' c e a cp
theorem yw.Nv {own:Own}{e:fU}(j:CF w W own (NK n) [e] h):yw w W own n e h:=by
 obtain⟨k,l,b⟩:=j;refine⟨k,l,?_⟩;obtain⟨m,o,f,p,q⟩:=b.row;have u:m.length=1:=f;obtain⟨v,x,a,_,_,_,r⟩:=Row.dW o f.symm p;obtain⟨y,s,c⟩:=r 0 aO;rw[s]at a;injection a with a
 injection a with a;injection a with a;subst a;obtain⟨g,i,d,t⟩:=q 0 _ e aP (aD aO) rfl;refine⟨g,i,b.dG,b.lt,b.ext,b.fresh,?_,?_,?_,?_,t⟩
 ·have:=c 0 aO (.int .i64 e.sym) aiL;simpa using this
 ·have:=c 1 aO (.bool e.other) aiL;simpa using this
 ·have:=c 2 aO (.slice g e.args.length i) aiL;simpa using this
 ·have:=c 3 aO (dO e.val) aiL;simpa using this
theorem yw.drawn {own:Own}{e:fU}(b:yw W u own n e h)(c:fF w W):yw w u own n e h:=by
 obtain⟨q,rfl⟩:=c;obtain⟨d,f,g,i,a⟩:=b;have j:(w.drewN q).heap.size=w.heap.size:=rfl;refine⟨d,f,g,i,?_⟩;exact⟨(below_drewN af q).trans a.dG,a.lt,a.ext,a.fresh,a.c0,a.c1,a.c2,a.c3,a.args⟩
theorem Vb {own:Own}{e:fU}(j:dN w own 7 142 4 (AZ w own) v c)(k:c[n]?=some e)(l:c.length=n+1):∃g a,v=.slice (some ⟨g,0,none⟩) (n+1) a/\n+1<=a/\a<=2 ^ 63-1/\fZ w (some ⟨g,n*4,none⟩) (a-n) [e]:=by
 obtain⟨m,o,d,p,D⟩:=j;have f:=d.len;obtain⟨E,q,r,F,h,_,s⟩:=Row.dW o f.symm p;obtain⟨g,t,u⟩:=s n aO;unfold maxLen at h;refine⟨g,q,by rw[r,t,f,l],aO,h,aQ,aO,fun x G b=>?_⟩
 have hi:x=0:=by
  have:=(List.getElem?_eq_some_iff.1 b).1;simp at this;exact this
 subst hi;simp at b;subst b;refine⟨g,n*4,rfl,?_⟩
 have y:pR w own 0 (m[n]' aO) e:=by
  have i:=d.get n aO aO;rw[(List.getElem?_eq_some_iff.1 k).2]at i;exact i
 have:=y.at (g:=g) (o:=n*4) (fun z A B C=>u z B A C);simpa using this
theorem gD.mono (h:gD n L)(d:n<=m)(a:m<=100000):gD m L:=
 ⟨a,by have:=h.dM;omega,h.wf,by have:=h.words;omega,h.word,by have:=h.reg;omega,h.vP,by have:=h.ls;omega,fun b c=>by have:=h.l b c;omega,h.la,h.at_,h.n_,h.ex⟩
theorem gD.NQ (h:gD n L)(b:n+1<=100000)(c:x.length<=90000):gD (n+1) { L with words:=L.words++[x] }:=by
 refine⟨b,aiq,h.wf,by have:=h.words;simp;omega,fun d e=>?_,aiD,h.vP,aip,fun f g=>by have:=h.l f g;omega,h.la,h.at_,h.n_,h.ex⟩;rcases List.mem_append.1 e with a|a
 ·exact h.word d a
 ·simp at a;rw[a];exact c
theorem gD.ab4 {e:fU}(h:gD n L)(b:n+1<=100000)(c:Aj e):gD (n+1) { L with reg:=L.reg++[e] }:=by
 refine⟨b,aiq,h.wf,aib,h.word,by have:=h.reg;simp;omega,fun x d=>?_,aip,fun f g=>by have:=h.l f g;omega,h.la,h.at_,h.n_,h.ex⟩;rcases List.mem_append.1 d with a|a
 ·exact h.vP x a
 ·simp at a;rw[a];exact c
theorem gD.clear (h:gD n L)(a:n+1<=100000):gD (n+1) { L with reg:=[] }:=
 ⟨a,aiq,h.wf,aib,h.word,aP,fun x b=>by simp at b,aip,fun c d=>by have:=h.l c d;omega,h.la,h.at_,h.n_,h.ex⟩
theorem gD.NR (h:gD n L)(d:n+1<=100000)(g:c.length<=n)(e:∀f∈c,Aj f):gD (n+1) { L with ls:=L.ls++[c] }:=by
 refine⟨d,aiq,h.wf,aib,h.word,aiD,h.vP,by have:=h.ls;simp;omega,fun x b=>?_,fun x b=>?_,h.at_,h.n_,h.ex⟩
 ·rcases List.mem_append.1 b with a|a
  ·have:=h.l x a;exact aO
  ·simp at a;rw[a];exact aO
 ·rcases List.mem_append.1 b with a|a
  ·exact h.la x a
  ·simp at a;rw[a];exact e
theorem gD.ZC {c:Int}(h:gD n L)(a:n+1<=100000)(b:-9223372036854775808<=z/\z<=9223372036854775807)(d:-9223372036854775808<=Z/\Z<=9223372036854775807)(e:-9223372036854775808<=c/\c<=9223372036854775807):gD (n+1) { L with at_:=z,n:=Z,ex:=c }:=
 ⟨a,aiq,h.wf,aib,h.word,aiD,h.vP,aip,fun f g=>by have:=h.l f g;omega,h.la,b,d,e⟩
theorem gD.ZA {b:Doc.dB}(h:gD n L)(c:Doc.fQ b):gD n { L with dM:=L.dM.set m (k,i,b) }:=by
 refine⟨h.lim,by simp[h.dM],fun s d=>?_,h.words,h.word,h.reg,h.vP,h.ls,h.l,h.la,h.at_,h.n_,h.ex⟩;rcases List.mem_or_eq_of_mem_set d with a|a
 ·exact h.wf s a
 ·rw[a];exact c
theorem gD.aai (h:gD n L)(b:n+1<=100000):gD (n+1) { L with dM:=L.dM++[(m,k,Doc.dB.empty)] }:=by
 refine⟨b,by have:=h.dM;simp;omega,fun s c=>?_,aib,h.word,aiD,h.vP,aip,fun d e=>by have:=h.l d e;omega,h.la,h.at_,h.n_,h.ex⟩;rcases List.mem_append.1 c with a|a
 ·exact h.wf s a
 ·simp at a;rw[a];exact Doc.fQ.empty
theorem gJ.Qd {own:Own}(a:Below w.heap.size w W)(d:∀b,b<w.heap.size->o b=own b)(h:gJ W u o n L):gJ w u own n L:=by
 obtain⟨g,i,j,e,l,k⟩:=h;have m:=a.size;exact⟨g,i,j,fun b c f=>⟨(e b aO (by rw[d b c];exact f)).1.trans (a.block b c),(e b aO (by rw[d b c];exact f)).2⟩,aO,(Same.below a).trans k⟩
theorem gJ.from {own:Own}(a:Below w.heap.size w W)(h:gJ W u own n L):gJ w u own n L:=h.Qd a (fun _ _=>rfl)
theorem ic.from {own:Own}(a:Below w.heap.size w W)(h:ic W u own n m):ic w u own n m:=by
 obtain⟨b,c,d⟩:=h;exact⟨b,c,d.from a⟩
theorem ic.mono {own:Own}(h:ic w W own n m)(a:m<=k)(b:k<=100000):ic w W own n k:=by
 obtain⟨c,d,e⟩:=h;exact⟨c,d.mono a b,e⟩
theorem dH.up {own:Own}(h:dH own w)(a:Below w.heap.size w W):dH own W:=fun b c=>h b (by have:=a.size;omega)
theorem eT.up {own:Own}(h:eT w own n L)(a:Below w.heap.size w W):eT W own n L:=h.keep (fun b c=>⟨a.block b c,rfl⟩) (h.iE.ed (fun b _ d=>a.block b d))
theorem eT.aaG {own:Own}(h:eT w own n L)(a:uA w W own O n 2 7 v)(q:dN W O 7 142 4 (AZ W O) v c):eT W O n { L with reg:=c }:=by
 obtain⟨r,t,J,u,x,y⟩:=h.parts (w2:=W) (own':=O) (fun o=>o=1\/o=7) (fun z A B=>a.keep z A B);obtain⟨b,d,K⟩:=h.s;obtain⟨e,f,M⟩:=h.words;obtain⟨g,j,N⟩:=h.ls;obtain⟨l,m,P⟩:=h.lw;obtain⟨C,D⟩:=h.obj;obtain⟨E,F⟩:=a.iE h.iE h.g0 aO;have p:∀s k i,¬(eO s k i=1\/eO s k i=7):=fun s k i=>ajU;exact⟨aj7,a.type C _ D,fun o=>(a.frozen o).trans (h.fr o),⟨b,(a.cells 0 aO).trans d,r aO b d⟩,⟨e,(a.cells 1 aO).trans f,t aO e f⟩,⟨v,a.cell,q⟩,⟨g,(a.cells 3 aO).trans j,u aO (p 0) g j⟩,⟨l,(a.cells 4 aO).trans m,x aO (p 1) l m⟩,(a.cells 5 aO).trans h.at_,(a.cells 6 aO).trans h.n,(a.cells 7 aO).trans h.ex,fun i G H S I=>y aO i G H S aO aO I,E,F⟩
theorem eT.WO {own:Own}(h:eT w own n L)(x:dH own w):gJ w (w.setCell ⟨n,2,none⟩ (.slice none 0 0)) own n { L with reg:=[] }:=by
 have f:∀b,b≠n->(w.setCell ⟨n,2,none⟩ (.slice none 0 0)).heap[b]?=w.heap[b]?:=fun b c=>aC c;have K:(w.setCell ⟨n,2,none⟩ (.slice none 0 0)).heap.size=w.heap.size:=aik;have g:∀b,b<w.heap.size->own b=0->b≠n:=fun b _ d a=>by rw[a,h.mine]at d;omega
 obtain⟨y,z,M,A,B,C⟩:=h.parts (w2:=w.setCell ⟨n,2,none⟩ (.slice none 0 0)) (own':=own) (fun o=>o=1) (fun b c D=>⟨f b (fun e=>D (by rw[e];exact h.mine)),rfl⟩);obtain⟨j,l,N⟩:=h.s;obtain⟨m,p,O⟩:=h.words;obtain⟨P,E,Q⟩:=h.reg;obtain⟨q,r,R⟩:=h.ls;obtain⟨t,u,T⟩:=h.lw;obtain⟨U,F⟩:=h.obj;have V:=h.iE.size;have a:∀{o:Nat},o≠2->(w.setCell ⟨n,2,none⟩ (.slice none 0 0)).cell? ⟨n,o,none⟩=w.cell? ⟨n,o,none⟩:=fun d=>ak (fun e=>d (by injection e with _ e;exact e.symm));have v:∀s k i,¬eO s k i=1:=fun s k i=>ajU;refine⟨own,fun b c=>x b aO,?_,fun b c d=>⟨f b (g b c d),d⟩,aO,⟨rfl,rfl,rfl⟩⟩;exact⟨h.mine,jK F,fun o=>by rw[World.frozen?_setCell];exact h.fr o,⟨j,(a aO).trans l,y aO j l⟩,⟨m,(a aO).trans p,z aO m p⟩,⟨_,World.cell?_setCell_same _ _ _ E,dN.nil _ _ _ _ _ _⟩,⟨q,(a aO).trans r,A aO (v 0) q r⟩,⟨t,(a aO).trans u,B aO (v 1) t u⟩,(a aO).trans h.at_,(a aO).trans h.n,(a aO).trans h.ex,fun i G H S I=>C aO i G H S aO aO I,h.iE.ed (fun b c J=>f b (g b J (h.g0 b c))),h.g0⟩
theorem eT.setInt {own:Own}{z:Int}(h:eT w own n L)(O:dH own w)(P:m=5/\M={ L with at_:=z }\/m=6/\M={ L with n:=z }\/m=7/\M={ L with ex:=z }):gJ w (w.setCell ⟨n,m,none⟩ (.int .i64 z)) own n M:=by
 have u:∀b,b≠n->(w.setCell ⟨n,m,none⟩ (.int .i64 z)).heap[b]?=w.heap[b]?:=fun b c=>aC c;have R:(w.setCell ⟨n,m,none⟩ (.int .i64 z)).heap.size=w.heap.size:=aik;have C:∀b,b<w.heap.size->own b=0->b≠n:=fun b _ d a=>by rw[a,h.mine]at d;omega
 obtain⟨D,E,F,G,H,I⟩:=h.parts (w2:=w.setCell ⟨n,m,none⟩ (.int .i64 z)) (own':=own) (fun o=>o=1) (fun b c Q=>⟨u b (fun v=>Q (by rw[v];exact h.mine)),rfl⟩);obtain⟨e,f,T⟩:=h.s;obtain⟨g,j,U⟩:=h.words;obtain⟨k,l,V⟩:=h.reg;obtain⟨p,q,W⟩:=h.ls;obtain⟨r,s,X⟩:=h.lw;obtain⟨Y,J⟩:=h.obj;have Z:=h.iE.size;have a:∀{o:Nat},o≠m->(w.setCell ⟨n,m,none⟩ (.int .i64 z)).cell? ⟨n,o,none⟩=w.cell? ⟨n,o,none⟩:=fun d=>ak (fun v=>d (by injection v with _ v;exact v.symm));have t:∀K N i,¬eO K N i=1:=fun K N i=>by have:=iP K N i;omega
 refine⟨own,fun b c=>O b aO,?_,fun b c d=>⟨u b (C b c d),d⟩,aO,⟨rfl,rfl,rfl⟩⟩;rcases P with ⟨rfl,rfl⟩|⟨rfl,rfl⟩|⟨rfl,rfl⟩
 ·exact⟨h.mine,jK J,fun o=>by rw[World.frozen?_setCell];exact h.fr o,⟨e,(a aO).trans f,D aO e f⟩,⟨g,(a aO).trans j,E aO g j⟩,⟨k,(a aO).trans l,F aO aO k l⟩,⟨p,(a aO).trans q,G aO (t 0) p q⟩,⟨r,(a aO).trans s,H aO (t 1) r s⟩,World.cell?_setCell_same _ _ _ h.at_,(a aO).trans h.n,(a aO).trans h.ex,fun i x y S A=>I aO i x y S aO aO A,h.iE.ed (fun b c B=>u b (C b B (h.g0 b c))),h.g0⟩
 ·exact⟨h.mine,jK J,fun o=>by rw[World.frozen?_setCell];exact h.fr o,⟨e,(a aO).trans f,D aO e f⟩,⟨g,(a aO).trans j,E aO g j⟩,⟨k,(a aO).trans l,F aO aO k l⟩,⟨p,(a aO).trans q,G aO (t 0) p q⟩,⟨r,(a aO).trans s,H aO (t 1) r s⟩,(a aO).trans h.at_,World.cell?_setCell_same _ _ _ h.n,(a aO).trans h.ex,fun i x y S A=>I aO i x y S aO aO A,h.iE.ed (fun b c B=>u b (C b B (h.g0 b c))),h.g0⟩
 ·exact⟨h.mine,jK J,fun o=>by rw[World.frozen?_setCell];exact h.fr o,⟨e,(a aO).trans f,D aO e f⟩,⟨g,(a aO).trans j,E aO g j⟩,⟨k,(a aO).trans l,F aO aO k l⟩,⟨p,(a aO).trans q,G aO (t 0) p q⟩,⟨r,(a aO).trans s,H aO (t 1) r s⟩,(a aO).trans h.at_,(a aO).trans h.n,World.cell?_setCell_same _ _ _ h.ex,fun i x y S A=>I aO i x y S aO aO A,h.iE.ed (fun b c B=>u b (C b B (h.g0 b c))),h.g0⟩
theorem gJ.trans {own:Own}(h:gJ w W own n L)(g:∀a,eT W a n L->dH a W->gJ W u a n M):gJ w u own n M:=by
 obtain⟨a,i,j,c,q,k⟩:=h;obtain⟨l,m,o,f,r,p⟩:=g a j i;exact⟨l,m,o,fun b d e=>⟨(f b aO (c b d e).2).1.trans (c b d e).1,(f b aO (c b d e).2).2⟩,aO,k.trans p⟩
theorem iX.nil (w:World)(own:Own)(cd:Nat->Nat):iX w own cd (.slice none 0 0) []:=
 ⟨⟨[],World.ownsRow_nil _ _ _ _,rfl,aP,fun i x e a=>by simp at a⟩,fun c b=>by simp[Value.ownBlock]at b⟩
theorem nX.lat {wr:World}{own:Own}{cd:Nat->Nat}(h:nX w wr own o cd c c.length):iX wr o cd (.slice (some ⟨w.heap.size,0,none⟩) c.length c.length) c:=by
 obtain⟨b,d,e,f,g⟩:=h.row;refine⟨⟨b,GL d,e,f,fun i x j k a=>g i x j (List.getElem?_eq_some_iff.1 a).1 k a⟩,fun l m=>?_⟩;have:w.heap.size=l:=aj3;rw[<-this];exact h.head
theorem Vd {own:Own}(l:dN w own 7 142 4 (AZ w own) v c):∃e a,v=.slice e c.length a/\c.length<=a/\a<=2 ^ 63-1/\fZ w e a c:=by
 obtain⟨m,n,f,o,E⟩:=l;have g:=f.len;obtain⟨p,q,h,b,d,_,r⟩:=Row.dW n g.symm o;unfold maxLen at d;rw[g]at h b;refine⟨p,q,h,b,d,b,d,fun i s t=>?_⟩;obtain⟨hi,u⟩:=List.getElem?_eq_some_iff.1 t;obtain⟨j,x,y⟩:=r i aO;refine⟨j,0,x,?_⟩
 have z:pR w own 0 (m[i]' aO) s:=by
  have k:=f.get i aO hi;rw[u]at k;exact k
 have:=z.at (g:=j) (o:=i*4) (fun A B C D=>y A C B D);simpa using this
end Go.Proofs.YtbichedkajfmiaaGreatDoor
