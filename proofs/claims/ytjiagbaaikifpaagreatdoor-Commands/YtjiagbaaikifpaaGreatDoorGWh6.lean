import Derived.Deep.OwnRows
import Derived.Test.YtjiagbaaikifpaaGreatDoorGPL0
import Derived.Test.YtjiagbaaikifpaaGreatDoorGRef21
set_option maxRecDepth 100000
set_option maxHeartbeats 16000000
namespace Go.Proofs.YtjiagbaaikifpaaGreatDoor
open Go.RowKit Go.Proofs.Tryz
variable {K l:List Nat}{N i j k m n:Nat}{W u w:World}{a d:eu}{c:List fU}{f:List Int}{v:Value}{x:dN}
structure BD (w wx:World)(b1:Bool)(a1:eu)(n1 c1:Nat)(b2:Bool)(a2:eu)(n2 c2:Nat)(P:List Nat):Prop where
 ek:dB w wx
 box:nN wx w.heap.size b1 a1 n1 c1 b2 a2 n2 c2
 arr:∀(i x:Nat),P[i]?=some x->wx.cell? (dA (w.heap.size+1+1+1) i)=some (dw x)
 fr:∀o,wx.frozen? (dA (w.heap.size+1+1+1) o)=false
 lt:w.heap.size+1+1+1<wx.heap.size
theorem BD.below {c:Bool}{e:Bool}(h:BD w W c a n m e d k i l)(b:dB W u):BD w u c a n m e d k i l:=
 ⟨h.ek.dW b,h.box.below b,λf x g=>(b.cell (aj (h.arr f x g))).trans (h.arr f x g),λo=>(b.gq (h.fr o) h.lt),Nat.lt_of_lt_of_le h.lt b.size⟩
theorem nN.set {b:Bool}{c:Bool}{f:Nat}(h:nN w n b a i j c d N f)(q:n+1+1<m):nN (w.setCell (dA m k) v) n b a i j c d N f:=by
 have t:∀{g o:Nat} {u:Value},g≠m->w.cell? (dA g o)=some u->(w.setCell (dA m k) v).cell? (dA g o)=some u:=λl p=>(ax (λe=>l (by injection e with e;exact e.symm))).trans p;exact⟨t aR h.d0,t aR h.d1,t aR h.e0,t aR h.e1,t aR h.r0,t aR h.r1,λo=>by rw[World.frozen?_setCell];exact h.rf o⟩
theorem BD.set {e:Bool}{f:Bool}(h:BD w W e a n m f d k i l)(j y:Nat)(g:j<l.length):BD w (W.setCell (dA (w.heap.size+1+1+1) j) (dw (y:Nat))) e a n m f d k i (l.set j y):=by
 refine⟨h.ek.setCell (by show w.heap.size<=w.heap.size+1+1+1;omega) _,h.box.set aR,λp x b=>?_,λo=>by rw[World.frozen?_setCell];exact h.fr o,amC⟩
 by_cases c:j=p
 ·subst c;rw[List.getElem?_set_self g]at b;injection b with b;subst b;exact aC (h.arr j l[j] (aF g))
 ·rw[List.getElem?_set_ne c]at b;exact(ax (λq=>c (by injection q))).trans (h.arr p x b)
theorem ZW (z:Value)(n i:Nat)(h:i<n):(madeCells #[z] n)[i]?=some z:=by
 rw[<-Array.getElem?_toList,toList_madeCells_one,List.getElem?_replicate,if_pos h]
theorem BD.start (w:World)(b:Bool)(c:eu)(d e:Nat)(f:Bool)(g:eu)(h i n:Nat) :
 BD w ((((w.alloc (.cells #[.bool b,.slice c d e] 229)).alloc (.cells #[.bool f,.slice g h i] 229)).alloc (.cells #[dP,dE] 229)).alloc (.cells (madeCells #[dw 0] n) 2)) b c d e f g h i (List.replicate n 0):=by
 have l:=nN.start w b c d e f g h i;have m:dB w (((w.alloc (.cells #[.bool b,.slice c d e] 229)).alloc (.cells #[.bool f,.slice g h i] 229)).alloc (.cells #[dP,dE] 229)):=(ai.alloc aW _).alloc aX _;have j:(((w.alloc (.cells #[.bool b,.slice c d e] 229)).alloc (.cells #[.bool f,.slice g h i] 229)).alloc (.cells #[dP,dE] 229)).heap.size=w.heap.size+1+1+1:=aW;generalize ((w.alloc (.cells #[.bool b,.slice c d e] 229)).alloc (.cells #[.bool f,.slice g h i] 229)).alloc (.cells #[dP,dE] 229)=W at *;refine⟨m.fO,l.below ai,λk x a=>?_,λo=>?_,by simp[j]⟩
 ·rw[List.getElem?_replicate]at a
  by_cases hi:k<n
  ·rw[if_pos hi]at a;injection a with a;subst a;rw[<-j];have:=ZW (dw 0) n k hi;simp[this]
  ·rw[if_neg hi]at a;cases a
 ·rw[<-j];exact aW
theorem adb (n:Nat):dZ.val (List.replicate n 0)=0:=by
 induction n with
 | zero=>rfl
 | succ n a=>rw[List.replicate_succ];simp[dZ.val,a]
theorem BD.ints {b:Bool}{c:Bool}(h:BD w W b a n m c d k i l)(e:l.length=j)(o:j<=1000000000):eX W (dJ (w.heap.size+1+1+1) j j) l:=by
 subst e;exact⟨_,_,rfl,ae,bz,λf hi=>⟨_,rfl,λg=>h.arr f _ (aF g)⟩⟩
theorem adv {a:List Nat}(c:dZ.Ok K)(d:dZ.Ok a)(r:n<K.length)(e:K.getD n 0=k)(f:i=dZ.val (K.take n)*dZ.val a)
 (h:dZ.val l+1000000000 ^ (n+a.length+1)*m=i+1000000000 ^ n*(k*dZ.val (a.take (n+a.length+1-n)))):dZ.val l=dZ.val (K.take (n+1))*dZ.val a:=by
 rw[dZ.kX aR]at h;have g:i+1000000000 ^ n*(k*dZ.val a)=dZ.val (K.take (n+1))*dZ.val a:=by rw[f,dZ.iQ,e,Nat.add_mul,Nat.mul_assoc]
 rw[g]at h
 have j:dZ.val (K.take (n+1))<1000000000 ^ (n+1):=by
  have:=dZ.kQ (c.take (n+1));rwa [List.length_take,Nat.min_eq_left aR]at this
 have o:=dZ.kQ d
 have s:dZ.val (K.take (n+1))*dZ.val a<1000000000 ^ (n+a.length+1):=by
  have p:1000000000 ^ (n+a.length+1)=1000000000 ^ (n+1)*1000000000 ^ a.length:=by rw[<-Nat.pow_add];congr 1;omega
  rw[p];exact Nat.mul_lt_mul'' j o
 have q:m=0:=by
  rcases Nat.eq_zero_or_pos m with b|b
  ·exact b
  ·exfalso;have:1000000000 ^ (n+a.length+1)*1<=1000000000 ^ (n+a.length+1)*m:=Nat.mul_le_mul_left _ b;exact aR
 rw[q,Nat.mul_zero]at h;exact h
theorem aek (h:dZ.Ok l)(b:m<1000000000):dZ.Ok (l.set n m):=λx c=>by
 rcases List.mem_or_eq_of_mem_set c with a|a
 ·exact h x a
 ·rw[a];exact b
theorem adz (a b:Bool)(c d P:List Nat)(h:dZ.val P=dZ.val c*dZ.val d):dZ.int (a !=b) P=dZ.int a c*dZ.int b d:=by
 unfold dZ.int;rw[h];cases a<;>cases b<;>simp[Int.natCast_mul,Int.neg_mul,Int.mul_neg]
theorem OT (O bq:Value)(x Q:Int)(w:World)(hu:gL w O x)(hv:gL w bq Q)(j:(dC.dec x).length<=100000000)(hy:(dC.dec Q).length<=100000000) :
 dH 264 #[O,bq] w λZ C=>qH C (x*Q) Z/\dB w C:=by
 obtain⟨d,E,c,t,l,rfl,i1,m1,rfl,p1⟩:=hu;obtain⟨e,m,a,n,f,rfl,i2,m2,rfl,p2⟩:=hv;obtain⟨hl1,hc1,hc1'⟩:=iy i1;obtain⟨hl2,hc2,hc2'⟩:=iy i2;have hn1:c<=100000000:=by have:=Bb (b:=d) m1;rw[hl1]at this;omega
 have hn2:a<=100000000:=by have:=Bb (b:=e) m2;rw[hl2]at this;omega
 obtain⟨R,hR⟩:=aK (dZ.int d l*dZ.int e f);rw[hR];obtain⟨b,hNN⟩:=aK (c+a);have alu:b<=200000000:=aR;have hmk:=run_make_row' (P:=prog) 227 2 (dw 0) 8 underlying227 OL rfl .i64 .i64 b aR aR;have hadd:((c:Int)+(a:Int))=(b:Int):=aR;have g:=BD.start w d E c t e m a n b;obtain⟨W,S⟩:∃W,((w.alloc (.cells #[.bool d,.slice E c t] 229)).alloc (.cells #[.bool e,.slice m a n] 229)).alloc (.cells #[dP,dE] 229)=W:=⟨_,rfl⟩;have hws:W.heap.size=w.heap.size+1+1+1:=by rw[<-S];simp
 rw[S]at g;have hbx:nN W w.heap.size d E c t e m a n:=by rw[<-S];exact nN.start w d E c t e m a n
 obtain⟨W2,hW2⟩:=aK (W.alloc (.cells (madeCells #[dw 0] b) 2));rw[hW2]at g;have HST:=dn g;obtain⟨u,v,y,z,_,_,_⟩:=hbx;obtain⟨d0',d1',e0',Ii,_,_,_⟩:=g.box;have HI1:=dn (λU (bg:dB w U)=>mU (i1.below bg));have HI2:=dn (λF U (bg:dB w U)=>xN m a n F f U (i2.below bg));have uS:=dn m1.ok;have zo:=dn m2.ok;have I8:=dn hl1;have HL2:=dn hl2;have HR:=dn hR;have af9:Hid ((List.replicate b 0:List Nat).length=b):=List.length_replicate ..;have af8:Hid (dZ.Ok (List.replicate b 0)):=λx j=>by rw[(List.mem_replicate.1 j).2];omega
 have FT:=dn hNN;clear i1 i2 m1 m2 p1 p2 j hy g hl1 hl2 hR hNN;go_enter func264,ntmps264;go_wp2_with fail;clear u v y z d0' d1' e0' Ii hmk hadd S hW2
 go_loopw [21] (fun F wr=>∃(k:Nat) (P:List Nat),F=dw k/\k<=c/\P.length=b/\dZ.Ok P/\dZ.val P=dZ.val (l.take k)*dZ.val f/\BD w wr d E c t e m a n P) (fun F _=>c-(intOf F).toNat)
 ·exact⟨0,List.replicate b 0,rfl,aR,af9.o,af8.o,by rw[adb];simp[dZ.val],HST.o⟩
 case round=>
  obtain⟨k,P,rfl,hk,G,H,I,g⟩:=hrel;have i:=dn G;have r:=dn H;have s:=dn I;have h:=dn g;clear G H I;obtain⟨u,v,y,z,A,J,K⟩:=g.box;clear g
  by_cases hlt:k<c
  ·obtain⟨x,j⟩:∃x,l[k]?=some x:=⟨_,aF (by rw[I8.o];exact hlt)⟩;obtain⟨bA,rfl,q1⟩:=HI1.o wr h.o.ek k x j;have hx9:x<1000000000:=uS.o x (List.mem_of_getElem? j);have HX:Hid (l.getD k 0=x):=Doc.iI j;have hkn:(k:Int)<(c:Int):=aR;obtain⟨V,hV⟩:=aK (dZ.val P);have HV:=dn hV;have HVE:Hid (V=dZ.val (l.take k)*dZ.val f):=hV.symm.trans s.o;clear j hV;go_wp2_with fail
   go_loopw [8,9] (fun cy bn X=>∃(q B:Nat) (P:List Nat),bn=dw q/\cy=dw B/\k<=q/\q<=k+a+1/\B<1000000000/\P.length=b/\dZ.Ok P/\dZ.val P+1000000000 ^ q*B=V+1000000000 ^ k*(x*dZ.val (f.take (q-k)))/\BD w X d (some (dA bA 0)) c t e m a n P) (fun _ bn _=>k+a+1-(intOf bn).toNat)
   ·exact⟨k,0,P,rfl,rfl,aR,aR,aR,i.o,r.o,by rw[HV.o,Nat.sub_self];simp[dZ.val],h.o⟩
   case round=>
    clear u v y z A J K q1 i r h s;obtain⟨q,B,P,rfl,rfl,hkq,hq,hc,G,H,I,g⟩:=hrel;rename World=>X;have i:=dn G;have r:=dn H;have s:=dn I;have h:=dn g;clear G H I;obtain⟨u,v,y,z,A,J,K⟩:=g.box;clear g
    by_cases hle:q<=k+a
    ·have hqN:q<b:=aP FT.o;obtain⟨p,Y⟩:∃p,P[q]?=some p:=⟨_,aF (by rw[i.o];exact hqN)⟩;have hp9:p<1000000000:=r.o p (List.mem_of_getElem? Y);have k0:=h.o.arr q p Y;have kf:=h.o.fr;have hy9:=zo.o.getD (q-k);have yc:=dn (dZ.ZT (b:=f) (by rw[i.o];exact hqN) hkq s.o);have jl:=dn (HI2.o (q-k));rw[Doc.iI Y]at yc;have hxy:x*f.getD (q-k) 0<=999999999*999999999:=Nat.mul_le_mul aR aR;have hM2:(x:Int)*((f.getD (q-k) 0:Nat):Int)=((x*f.getD (q-k) 0:Nat):Int):=(Int.natCast_mul ..).symm;generalize x*f.getD (q-k) 0=M at *;generalize f.getD (q-k) 0=Q at *;obtain⟨T,hT⟩:=aK (B+p+M);rw[hT]at yc;have Ob:(B:Int)+((p:Int)+(M:Int))=(T:Int):=aR;have hT9:T<=999999999999999999:=aR;have hTd:T / 1000000000<1000000000:=aR;have hpM:(p:Int)+(M:Int)<=9000000000000000000:=aR;obtain⟨D,hD⟩:=aK (q-k);rw[hD]at jl;have hD2:(q:Int)-(k:Int)=(D:Int):=aR;have w0:IntKind.i64.wrap ((q:Int)-(k:Int))=(D:Int):=bV;have w1:IntKind.i64.wrap (D:Int)=(D:Int):=bV;have w2:IntKind.i64.wrap (M:Int)=(M:Int):=bV;have w3:IntKind.i64.wrap ((p:Int)+(M:Int))=(p:Int)+(M:Int):=bV;have w4:IntKind.i64.wrap (T:Int)=(T:Int):=bV;have g1:Int.tmod (T:Int) 1000000000=((T % 1000000000:Nat):Int):=(Int.ofNat_tmod T 1000000000).symm;have g2:Int.tdiv (T:Int) 1000000000=((T / 1000000000:Nat):Int):=(Int.ofNat_tdiv T 1000000000).symm;have t1:(q:Int)<=(k:Int)+(a:Int):=aR;have t2:(q:Int)<(b:Int):=aR;clear Y hT hD s hxy;go_upto_region 9 with fail
     go_cut [8] (fun O wy=>O=dw (T:Int)/\dB X wy)
     case first=>
      go_region_held3 (fun C=>C.dQ (w.heap.size+1+1+1) q=some (dw (p:Nat))/\C.dQ (w.heap.size+1) 1=some (.slice m a n)) (go_keep) (first|(go_at_call 286;refine(jl.o _ (by first|exact h.o.ek|exact h.o.ek.drew)).mono ?_;rintro Z w4 ⟨rfl,rfl⟩));go_wp2;go_meet
      ·exact⟨rfl,af.drew⟩
     case rest=>
      obtain⟨rfl,hbc⟩:=hcut;have HS2:=dn (h.o.below hbc);rename World=>wy;have k1:=(hbc.cell (aj k0)).trans k0;have kg:=HS2.o.fr;have mO:=dn (HS2.o.set q (T % 1000000000) (by rw[i.o];exact hqN));have CV:Hid (dZ.Ok (P.set q (T % 1000000000))):=aek r.o (Nat.mod_lt _ aR);clear hbc k0 kf u v y z A J K;go_wp2;go_roundw
      ·exact⟨q+1,T / 1000000000,P.set q (T % 1000000000),bL,by first|rfl|rw[g2],aR,aR,hTd,by rw[List.length_set];exact i.o,CV.o,yc.o,mO.o⟩
      ·exact aph
    ·have hqe:q=k+a+1:=aR
     have iP:Hid (dZ.val P=dZ.val (l.take (k+1))*dZ.val f):=by
      have L:=s.o;rw[hqe,<-HL2.o]at L;exact adv uS.o zo.o (by rw[I8.o];exact hlt) HX.o HVE.o L
     have t1:¬((q:Int)<=(k:Int)+(a:Int)):=aR;clear hqe;go_wp2;go_roundw
     ·exact⟨k+1,P,bL,aR,i.o,r.o,iP.o,h.o⟩
     ·exact aph
  ·have hkn:¬((k:Int)<(c:Int)):=aR
   have HEE:Hid (dZ.int (d !=e) P=R):=by
    have L:=s.o;rw[dZ.kX (l:=l) (by rw[I8.o];omega)]at L;show _=_;rw[<-HR.o];exact adz d e l f P L
   have HCX:=dn (vw (d !=e) (some (dA (w.heap.size+1+1+1) 0)) b b P wr (h.o.ints i.o aR) r.o);have HSV:Hid (w.heap.size+1+1<wr.heap.size):=aj A;have om:=dn h.o.ek;clear s h HST i r HI1 HI2 af9 af8;obtain⟨bb,hbb,HE⟩:∃bb,(d !=e)=bb/\Hid (dZ.int bb P=R):=⟨_,rfl,HEE.o⟩;clear HEE;cases d<;>cases e
   all_goals
    cases hbb;go_wp2_with fail;refine HCX.o.mono ?_;rintro Z w3 ⟨⟨vv,rfl,hvv⟩,N⟩;rw[HE.o]at hvv;have HV:=dn hvv;obtain⟨b4,a4,n4,c4,l4,rfl,hq⟩:=hvv;have HB3:=dn (om.o.dW N);have f0:=N.dL A HSV.o;have f1:=N.dL J HSV.o;have ff:∀o,w3.uV (w.heap.size+1+1) o=false:=λo=>(N.gq (K o) HSV.o);obtain⟨wz,hwz,z0,z1,zb,zk⟩:=jV f0 f1 (.bool b4) (.slice a4 n4 c4);have ZB:=dn (zb _ _ HB3.o aR);have HZ:=dn (HV.o.put f0 zk);clear zb zk hq N u v y z A J K;go_wp2;exact dR (.agg #[.bool b4,.slice a4 n4 c4]) (by simp[results,results264,go_sem,z0,z1]) rfl ⟨⟨_,rfl,HZ.o⟩,ZB.o⟩
def fd (t:dN):Nat:=if t.head?=some 45 then 1 else 0
theorem digit_eq (c:UInt8):(decide (48<=c)&&decide (c<=57))=Doc.digit c:=by
 unfold Doc.digit;simp[UInt8.le_iff_toNat_le]
theorem KU (l:dN):l.all (λc=>decide (48<=c)&&decide (c<=57))=l.all Doc.digit:=by
 induction l with
 | nil=>rfl
 | cons c l a=>simp only[List.all_cons];rw[digit_eq,a]
theorem Gi (t:dN):dC.Is t=(if t.length<=fd t then false else if t[fd t]?=some 48 then t.length==1 else(t.drop (fd t)).all Doc.digit):=by
 unfold dC.Is fd;cases t with
 | nil=>rfl
 | cons c r=>
  by_cases b:c=45
  ·subst b;simp only[List.head?_cons,if_true,List.tail_cons];rw[KU];cases r with
   | nil=>rfl
   | cons d r=>
    by_cases f:d=48
    ·subst f;exact aW
    ·simp[f]
  ·simp only[List.head?_cons,Option.some.injEq,b,if_false];rw[KU]
   by_cases a:c=48
   ·subst a;cases r with
    | nil=>rfl
    | cons d r=>simp
   ·have g:(c==48)=false:=beq_eq_false_iff_ne.2 a;have h:(some c !=some 48)=true:=by rw[bne_iff_ne];intro e;injection e with e;exact a e
    simp[a,g,h]
theorem Br (t:dN)(w:World)(h:t.length<=1000000000) :
 dH 281 #[dD t] w λe f=>e=dF (dw (fd t:Nat))/\f=w:=by
 have i:=gU;obtain⟨R,a⟩:=aK (fd t);rw[a];cases t with
 | nil=>
  have c:Hid (R=0):=a.symm;clear a;exact aqh
 | cons d r=>
  have j:=d.toNat_lt
  by_cases b:d=45
  ·have c:Hid (R=1):=by show _=_;rw[<-a,b];rfl
   have g:((d.toNat:Int)==45)=true:=by rw[beq_iff_eq,b];rfl
   clear a b;exact aqh
  ·have c:Hid (R=0):=by show _=_;rw[<-a];unfold fd;rw[List.head?_cons,if_neg (λe=>b anS)]
   have g:((d.toNat:Int)==45)=false:=by rw[beq_eq_false_iff_ne];intro e;exact b (UInt8.toNat_inj.1 (by show d.toNat=45;omega))
   clear a b;exact aqh
theorem Du (t:dN)(w:World)(E:t.length<=1000000000) :
 dH 257 #[dD t] w λe F=>e=dF (.bool (dC.Is t))/\dB w F:=by
 have P:=gU;have a:=dn (Gi t);obtain⟨R,i⟩:=aK (dC.Is t);rw[i];rw[i]at a;clear i;have G:=dn (Br t w E);have Q:fd t<=1:=by unfold fd;split<;>omega
 have H:=dn (λc W=>AP c W);generalize fd t=f at *;go_enter func257,ntmps257;go_wp2_with fail;refine G.o.dX λS r=>?_;have I:=r.symm;subst I;clear r
 by_cases j:t.length<=f
 ·have b:Hid (R=false):=by show _=_;rw[a.o,if_pos j]
  have J:(t.length:Int)<=(f:Int):=aR;go_wp2;go_ret;exact⟨dS b.o.symm,af⟩
 ·have J:¬((t.length:Int)<=(f:Int)):=aR;have T:(f:Int)<(t.length:Int):=aR;have K:f<t.length:=aR;obtain⟨c,h⟩:∃c,t[f]?=some c:=⟨_,aF K⟩;have U:t[f]=c:=(aG h).2;have V:=c.toNat_lt
  by_cases g:c=48
  ·have b:Hid (R=((t.length:Int)==1)):=by
    show _=_;rw[a.o,if_neg j,if_pos (by rw[h,g])];exact ao3
   have s:((c.toNat:Int)==48)=true:=by rw[beq_iff_eq,g];rfl
   clear h g a;go_wp2;go_ret;exact⟨dS b.o.symm,af⟩
  ·have b:Hid (R=(t.drop f).all Doc.digit):=by show _=_;rw[a.o,if_neg j,if_neg (by rw[h];intro e;injection e with e;exact g e)]
   have s:((c.toNat:Int)==48)=false:=by rw[beq_eq_false_iff_ne];intro e;exact g (UInt8.toNat_inj.1 (by show c.toNat=48;omega))
   clear h g a;go_wp2_with fail;clear s
   go_loopw [4] (fun l wr=>∃k:Nat,l=dw k/\f<=k/\k<=t.length/\((t.drop f).take (k-f)).all Doc.digit=true/\dB w wr) (fun l _=>t.length-(intOf l).toNat)
   ·exact⟨f,rfl,aR,aR,aW,af⟩
   case round=>
    obtain⟨k,rfl,X,Y,u,v⟩:=hrel;have x:=dn u;have m:=dn v;clear u v
    by_cases L:k<t.length
    ·obtain⟨d,n⟩:∃d,t[k]?=some d:=⟨_,aF L⟩;have Z:t[k]=d:=(aG n).2;have o:(t.drop f)[k-f]?=some d:=by rw[List.getElem?_drop,show f+(k-f)=k by omega];exact n
     have y:Hid (((t.drop f).take (k+1-f)).all Doc.digit=Doc.digit d):=by
      show _=_;rw[show k+1-f=(k-f)+1 by omega,List.take_add_one,o,List.all_append,x.o];exact aW
     have z:Hid (Doc.digit d=false->R=false):=λM=>by
      rw[b.o,List.all_eq_false];exact⟨d,List.mem_of_getElem? o,by rw[M];simp⟩
     have A:=dn (H.o d wr);obtain⟨p,B⟩:=aK (Doc.digit d);rw[B]at y z A;have N:(k:Int)<(t.length:Int):=aR;clear n o B;go_wp2_with fail;refine A.o.dX λw2 C=>?_;have O:=C.symm;subst O;clear C;cases p
     ·have q:=dn (z.o rfl);go_wp2;go_ret;exact⟨dS q.o.symm,m.o⟩
     ·go_wp2;go_roundw
      ·exact⟨k+1,bL,aR,aR,y.o,m.o⟩
      ·exact aph
    ·have q:Hid (R=true):=by
      have D:=x.o;rw[List.take_of_length_le aoz]at D;show _=_;rw[b.o,D]
     have N:¬((k:Int)<(t.length:Int)):=aR;go_wp2;go_ret;exact⟨dS q.o.symm,m.o⟩
def iG (f e:Nat):Nat:=if e<f+9 then f else e-9
def kG (t:dN)(s i:Nat):dN:=(t.take i).drop s
theorem Zi {c:UInt8}(h:x[m]?=some c)(a:n<=m):kG x n (m+1)=kG x n m++[c]:=by
 have hi:=(aG h).1;unfold kG;rw[List.take_add_one,h,Option.toList_some,List.drop_append_of_le_length amg]
theorem Jm (h:m<=x.length):(kG x n m).length=m-n:=by unfold kG;rw[List.length_drop,List.length_take];omega
theorem Ga (t:dN)(s:Nat):kG t s s=[]:=by unfold kG;rw[List.drop_eq_nil_of_le];rw[List.length_take];omega
theorem VX {i:Nat}(d:∀(j:Nat) c,n<=j->x[j]?=some c->Doc.digit c=true)(f:n<=m):dC.Dg (kG x m i):=by
 intro c b;unfold kG at b;obtain⟨j,a⟩:=List.getElem?_of_mem b;rw[List.getElem?_drop]at a
 have e:x[m+j]?=some c:=by
  rw[List.getElem?_take]at a;split at a
  ·exact a
  ·cases a
 have:=d (m+j) c aR e;unfold Doc.digit at this;simp only[Bool.and_eq_true,decide_eq_true_eq]at this;exact this
theorem Tu (t:dN)(f e:Nat)(w:World)(U:t.length<=1000000000)(V:e<=t.length)(W:f<e)(j:∀(q:Nat) c,f<=q->t[q]?=some c->Doc.digit c=true) :
 dH 283 #[dD t,dw f,dw e] w λz A=>z=dF (dw (dC.val (kG t (iG f e) e):Nat))/\A=w:=by
 have X:=gU;obtain⟨R,l⟩:=aK (dC.val (kG t (iG f e) e));rw[l];have B:=dn l;have m:f<=iG f e/\iG f e<=e/\e<=iG f e+9:=aoN
 have r:Hid ((e<f+9/\iG f e=f)\/(¬(e<f+9)/\iG f e=e-9)):=by
  show _\/_;unfold iG
  by_cases h:e<f+9
  ·exact .inl ⟨h,if_pos h⟩
  ·exact .inr ⟨h,if_neg h⟩
 clear l;generalize iG f e=s at *;obtain⟨m,Y,Z⟩:=m;have C:=dn (λi=>VX (i:=i) j m);have D:=dn j;have E:IntKind.i64.wrap ((e:Int)-9)=(e:Int)-9:=bV;clear j;obtain⟨b,F⟩:∃b:Int,(e:Int)-9=b:=⟨_,rfl⟩;rw[F]at E;have G:(b<(f:Int)/\s=f)\/(¬(b<(f:Int))/\b=(s:Int)):=aP r.o;clear r
 have H:Hid (∀(k:Nat) (c:UInt8),t[k]?=some c->s<=k->dC.val (kG t s (k+1))=dC.val (kG t s k)*10+dC.dv c/\dC.dv c<=9/\c.toNat=48+dC.dv c):=λk c a u=>by
  have d:=D.o k c aR a;unfold Doc.digit at d;simp only[Bool.and_eq_true,decide_eq_true_eq]at d;rw[Zi a u,dC.val_append];refine⟨?_,by unfold dC.dv;omega,by unfold dC.dv;omega⟩;simp[dC.val]
 have I:Hid (∀k,k<=e->dC.val (kG t s k)<1000000000):=λk u=>by
  have d:=dC.kQ (C.o k);rw[Jm aR]at d;have h2:10 ^ (k-s)<=10 ^ 9:=Nat.pow_le_pow_right aR aR;exact aR
 have J:Hid (dC.val (kG t s s)=0):=by show _=_;rw[Ga];rfl
 rcases G with ⟨K,n⟩|⟨K,n⟩
 all_goals
  have L:=dn n;clear n;go_enter func283,ntmps283;go_wp2_with fail
  go_loopw [8,9] (fun M i wr=>∃k:Nat,i=dw k/\M=dw (dC.val (kG t s k):Nat)/\s<=k/\k<=e/\wr=w) (fun _ i _=>e-(intOf i).toNat)
  ·exact⟨s,by rw[L.o],by rw[J.o];rfl,aR,aR,rfl⟩
  case round=>
   obtain⟨k,rfl,rfl,N,O,P⟩:=hrel;subst P
   by_cases hlt:k<e
   ·obtain⟨c,a⟩:∃c,t[k]?=some c:=⟨_,aF aR⟩;have hkl':k<t.length:=aR;have hcg:t[k]=c:=(aG a).2;obtain⟨v,v2,Q⟩:=H.o k c a N;have v4:=I.o k O;have x:Hid (dC.val (kG t s (k+1))=dC.val (kG t s k)*10+dC.dv c):=v;have hc9:=c.toNat_lt;generalize dC.val (kG t s k)=o at *;generalize dC.dv c=g at *;have u1:IntKind.u8.wrap ((c.toNat:Int)-48)=(g:Int):=by rw[show(c.toNat:Int)-48=(g:Int) by omega];rw[IntKind.wrap_u8];omega
    obtain⟨p,y⟩:=aK (o*10+g);have u2:(o:Int)*10+(g:Int)=(p:Int):=aR;rw[y]at x;have hkl:(k:Int)<(t.length:Int):=aR;have S:(k:Int)<(e:Int):=aR;clear a v Q y;go_wp2;go_roundw
    ·exact⟨k+1,bL,by rw[x.o],aR,aR,by first|rfl|trivial⟩
    ·exact aph
   ·have T:Hid (dC.val (kG t s k)=R):=by show _=_;rw[<-B.o,show k=e by omega]
    have S:¬((k:Int)<(e:Int)):=aR;generalize dC.val (kG t s k)=o at *;go_wp2;go_ret;exact⟨fM (by rw[T.o]),rfl⟩
theorem VW (b:n<=m)(a:m<=k)(c:k<=x.length):kG x n k=kG x n m++kG x m k:=by
 unfold kG
 have h:x.take k=x.take m++(x.take k).drop m:=by
  have:=(List.take_append_drop m (x.take k)).symm
  rwa [List.take_take,Nat.min_eq_left a]at this
 conv=>lhs;rw[h]
 rw[List.drop_append_of_le_length amg]
theorem WN (d:l.length=k)(f:n<m)(a:m<=x.length)(h:dZ.val l+1000000000 ^ k*dC.val (kG x n m)=i) :
 dZ.val (l++[dC.val (kG x (iG n m) m)])+1000000000 ^ (k+1)*dC.val (kG x n (iG n m))=i:=by
 rw[dZ.jM,d,Nat.pow_succ,Nat.mul_assoc,Nat.add_assoc,<-Nat.mul_add];have b:n<=iG n m/\iG n m<=m:=aoN;rw[VW b.1 b.2 a,dC.val_append,Jm a]at h
 have e:dC.val (kG x (iG n m) m)+1000000000*dC.val (kG x n (iG n m))=dC.val (kG x n (iG n m))*10 ^ (m-iG n m)+dC.val (kG x (iG n m) m):=by
  by_cases c:m<n+9
  ·have:iG n m=n:=if_pos c;rw[this,Ga];simp[dC.val]
  ·have:iG n m=m-9:=if_neg c;rw[this,show m-(m-9)=9 by omega];exact aR
 rw[e];exact h
theorem WT {t:dN}(h:dC.Is t=true):∀(j:Nat) c,fd t<=j->t[j]?=some c->Doc.digit c=true:=by
 intro j c f a;rw[Gi]at h
 by_cases d:t.length<=fd t
 ·rw[if_pos d]at h;cases h
 ·rw[if_neg d]at h
  by_cases b:t[fd t]?=some 48
  ·rw[if_pos b,beq_iff_eq]at h;have g:=(aG a).1;have e:j=fd t:=aR;rw[e,b]at a;injection a with a;subst a;exact aY
  ·rw[if_neg b,List.all_eq_true]at h;exact h c (List.mem_of_getElem? (i:=j-fd t) (by rw[List.getElem?_drop,show fd t+(j-fd t)=j by omega];exact a))
theorem aeC {t:dN}(h:dC.Is t=true):fd t<t.length:=by
 rw[Gi]at h
 by_cases a:t.length<=fd t
 ·rw[if_pos a]at h;cases h
 ·exact aR
theorem adr (t:dN):Doc.num t=if 0<fd t then -(dC.val (kG t (fd t) t.length):Int) else(dC.val (kG t (fd t) t.length):Int):=by
 unfold Doc.num fd kG;rw[List.take_length]
 by_cases h:t.head?=some 45
 ·rw[if_pos h,if_pos h,if_pos aR,List.drop_one]
 ·rw[if_neg h,if_neg h,if_neg aR,List.drop_zero]
def Vj (f p:Nat)(E:Int):Prop:=((f:Int)<E/\E=(p:Int))\/(E<=(f:Int)/\p=f)
def afU (w:World)(t:dN)(e:Ending):Prop:=∃v,e=dF (dM #[v,.bool (dC.Is t)])/\gL w v (if dC.Is t=true then Doc.num t else 0)
theorem R9 (t:dN)(w:World)(ht:t.length<=100000000) :
 dH 261 #[dD t] w λK w'=>afU w' t K/\dB w w':=by
 have hR:=gU;obtain⟨i0,hi,hz0,hz1,hz2⟩:=zP;obtain⟨W,i⟩:∃W,w.alloc (.cells #[dP,dE] 229)=W:=⟨_,rfl⟩;have L:Hid (dB w W):=apd;have hsz:w.heap.size<W.heap.size:=amf;have c0:W.dQ w.heap.size 0=some (dP):=amf;have c1:W.dQ w.heap.size 1=some (dE):=amf;have cf:∀o,W.uV w.heap.size o=false:=λo=>amf;have M:=dn c0;have N:=dn c1;have O:=dn cf;have b:=dn hsz;have agy:=dn (Du t W aR);have HIS:=dn (λh=>WT (t:=t) h);have HLEN:=dn (λh=>aeC (t:=t) h);have CW:=dn (adr t);have P:Hid (∀(l:World) (v:Value) (H:Bool),dC.Is t=H->gL l v (if H=true then Doc.num t else 0)->afU l t (dF (dM #[v,.bool H]))):=λl v H m n=>by subst m;exact⟨v,rfl,n⟩
 obtain⟨Q,R⟩:=aK (dC.Is t);rw[R]at agy;have q:=dn R;clear c0 c1 cf hsz R;go_enter func261,ntmps261;go_wp2_with fail;refine agy.o.dX λw1 r=>?_;have HB1:=dn r;have d0:=r.dL M.o b.o;have d1:=r.dL N.o b.o;have df:∀o,w1.uV w.heap.size o=false:=λo=>(r.gq (O.o o) b.o);clear r i;cases Q
 ·obtain⟨j,hwz,u,x,c,d⟩:=jV d0 d1 (dP) (dE);have y:=dn (c _ _ (L.o.dW HB1.o) ae);have HF:=dn (P.o j (.agg #[dP,dE]) false q.o (gL.zero j));clear c d;go_wp2;exact dR (dM #[.agg #[dP,dE],dP]) anw rfl ⟨HF.o,y.o⟩
 ·have wT:=dn (Br t w1 aR);have agw:=dn (HIS.o q.o);have hfl:=HLEN.o q.o;have hf1:fd t<=1:=by unfold fd;split<;>omega
  generalize fd t=f at *;clear d0 d1 df;go_wp2_with fail;refine wT.o.dX λw2 hw2=>?_;have yP:=hw2.symm;subst yP;clear hw2;go_wp2_with fail
  go_loopw [5,6] (fun v en wr=>∃(k p:Nat) (E:Int) (s:List Nat),en=dw E/\f<=p/\k+p<=t.length/\Vj f p E/\-9<=E/\E<=(t.length:Int)/\s.length=k/\wr.ownsRow W.heap.size 2 1 v k (jB s)/\dZ.Ok s/\dZ.val s+1000000000 ^ k*dC.val (kG t f p)=dC.val (kG t f t.length)/\dB W wr) (fun _ en _=>(intOf en+9).toNat)
  ·exact⟨0,t.length,(t.length:Int),[],rfl,aR,aR,.inl ⟨aR,rfl⟩,aR,aR,rfl,World.ownsRow_nil _ _ _ _,dZ.Ok.nil,by simp[dZ.val],HB1.o⟩
  case round=>
   obtain⟨k,p,E,s,rfl,hfp,hkp,hE,hE1,hE2,hs,hown,hok,hval,hbel⟩:=hrel;have S:=dn hown;have T:=dn hok;have z:=dn hbel;have I:=dn hs;have AQ:=dn hval;clear hown hok hval hbel hs;rcases hE with ⟨hA,rfl⟩|⟨hA,rfl⟩
   ·have U:f<p:=aR;have yc:=dn (WN I.o U aR AQ.o);have rY:=dn (λl=>Tu t f p l aR aR U agw.o)
    have hls:f<=iG f p/\iG f p<p/\Vj f (iG f p) ((p:Int)-9):=by
     unfold Vj iG
     by_cases h:p<f+9
     ·rw[if_pos h];exact⟨ae,U,.inr ⟨aR,rfl⟩⟩
     ·rw[if_neg h];refine⟨aR,aR,?_⟩;rcases Nat.lt_or_ge (f+9) p with n|n
      ·exact .inl ⟨aR,aR⟩
      ·exact .inr ⟨aR,aR⟩
    have hlim:dC.val (kG t (iG f p) p)<1000000000:=by
     have m:=dC.kQ (VX (i:=p) agw.o hls.1);rw[Jm aR]at m;have n:10 ^ (p-iG f p)<=10 ^ 9:=Nat.pow_le_pow_right aR aoN;exact aR
    generalize dC.val (kG t (iG f p) p)=J at *;obtain⟨m,n,h3⟩:=hls;have H3:=dn h3;have CV:Hid (dZ.Ok (s++[J])):=T.o.snoc hlim;generalize iG f p=p2 at *;have we:IntKind.i64.wrap ((p:Int)-9)=(p:Int)-9:=bV;clear h3;go_wp2_with fail;refine(rY.o _).dX λe hw3=>?_;have Gj:=hw3.symm;subst Gj;clear hw3;go_wp2_with (at_builtin;refine dU rfl (.tmp 20) (.tmp 25) 227 rfl W.heap.size 2 i0 (dw 0) 1 8 underlying227 hi hz0 hz1 hz2 rfl aY _ k (jB s) rfl (by exact S.o.alloc _) (dA wr.heap.size 0) 1 [dw (J:Int)] rfl rfl al6 bX bz aR (by simp;have:=z.o.size;omega) ?_;intro gn fD e hown' hgrow _ tu);have BG:Hid (e.ownsRow W.heap.size 2 1 (dJ gn (k+1) fD) (k+1) (jB (s++[J]))):=by show World.ownsRow _ _ _ _ _ _ _;rw[Cj];exact hown'
    have a:Hid (dB W e):=(z.o.fO).grown hgrow (by simp;have:=z.o.size;omega) (λbg hx=>(S.o.lt bg hx).1);clear hown' hgrow tu;go_wp2;go_roundw
    ·exact⟨k+1,p2,(p:Int)-9,s++[J],rfl,m,aR,H3.o,aR,aR,by rw[List.length_append,I.o];rfl,BG.o,CV.o,yc.o,a.o⟩
    ·exact aph
   ·have Yi:Hid (dZ.val s=dC.val (kG t p t.length)):=by
     have h:=AQ.o;rw[Ga,show dC.val []=0 from rfl,Nat.mul_zero,Nat.add_zero]at h;exact h
    have tE:¬((p:Int)<E):=aR;have V:=dn (ug S.o I.o);obtain⟨ao,cap,hv,_⟩:=V.o;rw[I.o]at hv;subst hv;have ahS:p=0\/p=1:=aR;rcases ahS with rfl|rfl
    ·have X:=dn (vw false ao k cap s wr V.o T.o);have Y:Hid (dZ.int false s=Doc.num t):=by show _=_;rw[CW.o,dZ.int,Yi.o];rfl
     exact apC
    ·have X:=dn (vw true ao k cap s wr V.o T.o);have Y:Hid (dZ.int true s=Doc.num t):=by show _=_;rw[CW.o,dZ.int,Yi.o];rfl
     exact apC
theorem aaQ (h:dC.val x.reverse+10 ^ x.length*n=m):dC.val (x++[byteOf (48+((n % 10:Nat):Int))]).reverse+10 ^ (x.length+1)*(n / 10)=m:=by
 rw[List.reverse_append,List.reverse_singleton,List.singleton_append,dC.p8,List.length_reverse,Nat.pow_succ,Nat.mul_assoc]
 have a:dC.dv (byteOf (48+((n % 10:Nat):Int)))=n % 10:=by
  unfold dC.dv byteOf;have c:n % 10<10:=Nat.mod_lt _ aR;rw[show(48+((n % 10:Nat):Int)).toNat=48+n % 10 by omega];rw[UInt8.toNat_ofNat',Nat.mod_eq_of_lt aR];exact aR
 rw[a];have b:=Nat.div_add_mod n 10;generalize 10 ^ x.length=P at *;have d:n % 10*P+P*(10*(n / 10))=P*n:=by rw[Nat.mul_comm (n % 10),<-Nat.mul_add,Nat.add_comm,b]
 exact aR
theorem afI (y:Nat)(h:dC.Dg x):dC.Dg (x++[byteOf (48+((y % 10:Nat):Int))]):=λc b=>by
 rcases List.mem_append.1 b with a|a
 ·exact h c a
 ·rw[List.mem_singleton.1 a];have a:y % 10<10:=Nat.mod_lt _ aR;unfold byteOf;rw[show(48+((y % 10:Nat):Int)).toNat=48+y % 10 by omega,UInt8.toNat_ofNat',Nat.mod_eq_of_lt aR];exact aR
theorem VB (h:x[n]?=some 48):dC.val (x.take (n+1)).reverse=dC.val (x.take n).reverse:=by
 rw[List.take_add_one,h,Option.toList_some,List.reverse_append,List.reverse_singleton,List.singleton_append,dC.p8];simp[dC.dv]
theorem YX (d:dC.Dg x)(q:1<=n)(f:n<=x.length)(a:dC.val (x.take n).reverse=m)(r:0<m)(g:n=1\/x[n-1]?≠some 48):(x.take n).reverse=dC.D m:=by
 have h:dC.Dg (x.take n).reverse:=λi j=>d i (List.mem_of_mem_take (List.mem_reverse.1 j));have c:x[n-1]?=some x[n-1]:=aF aR
 have k:(x.take n).reverse.head?=some x[n-1]:=by
  rw[List.head?_reverse,List.getLast?_eq_getElem?,List.length_take,Nat.min_eq_left f,List.getElem?_take_of_lt aR,c]
 have l:dC.BC (x.take n).reverse:=by
  intro e;rw[k]at e;rcases g with b|b
  ·subst b;injection e with e
   have o:x.take 1=[x[0]]:=by
    rw[show(1:Nat)=0+1 from rfl,List.take_add_one,aF aR];rfl
   rw[o]at a;have p:x[0]=48:=e;rw[p]at a;have:dC.val [48].reverse=0:=aY;exact aR
  ·exact b (c.trans e)
 rw[dC.CB h l,a]
theorem abl:(prog.info? 5).map (λi=>(i.zero,i.size,i.bytes))=some (some (.int .u8 0),1,1):=bR
theorem YU:∃i,prog.info? 5=some i/\i.zero=some (.int .u8 0)/\i.size=1/\i.bytes=1:=by
 have h:=abl;cases e:prog.info? 5 with
 | none=>rw[e]at h;simp at h
 | some i=>rw[e]at h;simp at h;exact⟨i,rfl,h.1,h.2.1,h.2.2⟩
def vJ (l:dN):List Value:=l.map (λc=>Value.int .u8 (c.toNat:Int))
theorem XL (s:dN)(c:UInt8):vJ (s++[c])=vJ s++[.int .u8 (c.toNat:Int)]:=by simp[vJ]
def Jh (w:World)(v:Value)(xs:dN):Prop:=gu v xs.length (λg i=>∀h:i<xs.length,w.cell? (dA g i)=some (.int .u8 (xs[i].toNat:Int)))
theorem Jh.below (h:Jh w v x)(a:dB w W):Jh W v x:=
 gu.imp h λ_ _ _ b hi=>(a.eT (b hi))
theorem FI (h:w.ownsRow n 5 1 v m (vJ x))(b:x.length=m):Jh w v x:=by
 subst b
 have e:vJ x=(x.map (λc:UInt8=>[Value.int .u8 (c.toNat:Int)])).flatten:=by
  clear h
  induction x with
  | nil=>rfl
  | cons f x a=>simp only[vJ,List.map_cons,List.flatten_cons]at a ⊢;rw[a];rfl
 rw[e]at h;refine gu.imp' (Row.fq h aW aW).sl aW λg i hi d j=>?_;have:=d di 0 aR (.int .u8 (x[i].toNat:Int)) aW;rw[show i*1+0=i by omega]at this;exact this
theorem adS (h:Jh w (.slice a n m) x):∀i z,x[i]?=some z->∃g,a=some (dA g 0)/\w.cell? (dA g i)=some (.int .u8 (z.toNat:Int)):=by
 exact apE
theorem Ux (h:n<10):((byteOf (48+(n:Int))).toNat:Int)=48+(n:Int):=by
 unfold byteOf;rw[show(48+(n:Int)).toNat=48+n by omega,UInt8.toNat_ofNat',Nat.mod_eq_of_lt aR];exact aR
theorem addr_add (g i:Nat):((dA g 0):Addr).add i=(dA g i):=by
 unfold Addr.add
 by_cases h:i=0
 ·subst h;exact aW
 ·exact aoX
structure IA (W wx:World)(v:Value)(u:dN)(m:Nat):Prop where
 own:wx.ownsRow W.heap.size 5 1 v m (vJ u)
 len:u.length=m
 dg:dC.Dg u
 ek:dB W wx
theorem abn (v:Value)(Z:Int)(w:World)(A:gL w v Z)(hz:(dC.dec Z).length<=100000000) :
 dH 259 #[v] w λl w'=>l=dF (dD (dC.dec Z))/\dB w w':=by
 obtain⟨d,bn,n,bg,b,rfl,K,D,rfl,p1⟩:=A;obtain⟨B,hc1,hc2⟩:=iy K;have hn8:n<=100000000:=by have:=Bb (b:=d) D;rw[B]at this;omega
 obtain⟨i0,hi,hz0,hz1,hz2⟩:=YU;obtain⟨W,M⟩:∃W,w.alloc (.cells #[.bool d,.slice bn n bg] 229)=W:=⟨_,rfl⟩;have HB0:Hid (dB w W):=by show Below _ _ _;rw[<-M];exact af.alloc ae _
 have N:W.dQ w.heap.size 0=some (.bool d):=by rw[<-M];simp
 have d1:W.dQ w.heap.size 1=some (.slice bn n bg):=by rw[<-M];simp
 have hR:=gU
 by_cases hn0:n=0
 ·have O:b=[]:=List.eq_nil_of_length_eq_zero aR
  have HT:Hid (dC.dec (dZ.int d b)=[48]):=by
   show _=_;rw[O];have:dZ.int d []=0:=by cases d<;>rfl
   rw[this,dC.gV]
  subst hn0;clear K D p1 B;obtain⟨R,E⟩:=aK (dC.dec (dZ.int d b));rw[E]at HT ⊢;clear E;go_enter func259,ntmps259;go_wp2;go_ret;exact⟨ic HT.o.symm,HB0.o⟩
 ·have QZ:((n:Int)==0)=false:=ak aR;have O:b≠[]:=λl=>by rw[l]at B;simp at B;omega
  have agb:Hid (0<dZ.val b):=D.pos O
  have P:Hid (dC.dec (dZ.int d b)=(if d=true then [45] else [])++dC.D (dZ.val b)):=by
   have h:=agb.o;show _=_;unfold dZ.int;cases d
   ·rw[if_neg aW,if_neg aW,dC.ET aR,Int.natAbs_natCast];rfl
   ·rw[if_pos rfl,if_pos rfl,dC.vE aR,Int.natAbs_neg,Int.natAbs_natCast];rfl
  have agq:=dn (λW' (h:dB w W')=>mU (K.below h));have oP:=dn D.ok;have RN:=dn B;have aj5:=dn N;have vP:=dn d1;have zi:Hid (w.heap.size<W.heap.size):=by show _<_;rw[<-M];simp
  obtain⟨R,E⟩:=aK (dC.dec (dZ.int d b));rw[E]at P ⊢;clear E K D p1 B O hn0 hz;go_enter func259,ntmps259;go_wp2_with fail
  go_loopw [3,17] (fun v i wr=>∃(k:Nat) (u:dN),i=dw k/\k<=n/\IA W wr v u (9*k)/\dC.val u.reverse=dZ.val (b.take k)) (fun _ i _=>n-(intOf i).toNat)
  ·exact⟨0,[],rfl,aR,⟨World.ownsRow_nil _ _ _ _,rfl,λbg hc=>(by cases hc),af⟩,by simp[dZ.val,dC.val]⟩
  case round=>
   obtain⟨k,u,rfl,hk,F,m⟩:=hrel;have a:=dn F;have o:=dn m;clear F m N d1
   by_cases hlt:k<n
   ·obtain⟨x,c⟩:∃x,b[k]?=some x:=⟨_,aF (by rw[RN.o];exact hlt)⟩;obtain⟨bq,rfl,q1⟩:=agq.o wr (HB0.o.dW a.o.ek) k x c;have hx9:x<1000000000:=oP.o x (List.mem_of_getElem? c);have hkn:(k:Int)<(n:Int):=aR;obtain⟨V,hV⟩:=aK (dZ.val (b.take (k+1)))
    have HV0:Hid (dC.val u.reverse+10 ^ u.length*x=V):=by
     show _=_;rw[<-hV,dZ.iQ,Doc.iI c,o.o,a.o.len,aep]
    have HV:=dn hV;clear c hV;go_wp2_with fail
    go_loopw [3,5,6] (fun v bA j Q=>∃(q Y:Nat) (u:dN),j=dw q/\bA=dw Y/\q<=9/\IA W Q v u (9*k+q)/\dC.val u.reverse+10 ^ u.length*Y=V/\Y<10 ^ (9-q)) (fun _ _ j _=>9-(intOf j).toNat)
    ·exact⟨0,x,u,rfl,rfl,aR,a.o,HV0.o,aR⟩
    case round=>
     clear a o HV0 q1;obtain⟨q,Y,u,rfl,rfl,hq,F,m,hY⟩:=hrel;rename World=>Q;have a:=dn F;have o:=dn m;have S:=dn hY;clear F m hY
     by_cases hq9:q<9
     ·have yc:=dn (aaQ o.o);have HDG:=dn (afI Y a.o.dg);have afu:Y % 10<10:=Nat.mod_lt _ aR;have hbt:=Ux afu
      have RF:Hid (Y / 10<10 ^ (9-(q+1))):=by
       have h:=S.o;rw[show 9-q=(9-(q+1))+1 by omega,Nat.pow_succ]at h;show _<_;exact Nat.div_lt_of_lt_mul (by rw[Nat.mul_comm];exact h)
      have hYb:Y<1000000000:=by
       have h:=S.o;have h2:10 ^ (9-q)<=10 ^ 9:=Nat.pow_le_pow_right aR aR;exact aR
      have r1:Int.tmod (Y:Int) 10=((Y % 10:Nat):Int):=(Int.ofNat_tmod Y 10).symm;have r2:Int.tdiv (Y:Int) 10=((Y / 10:Nat):Int):=(Int.ofNat_tdiv Y 10).symm;generalize byteOf (48+((Y % 10:Nat):Int))=f at *;obtain⟨t,hY0⟩:=aK (Y % 10);rw[hY0]at r1 hbt afu;have u1:IntKind.u8.wrap (48+(t:Int))=48+(t:Int):=by rw[IntKind.wrap_u8];omega
      have FZ:=dn hbt;have u2:IntKind.i64.wrap (48+(t:Int))=48+(t:Int):=bV;have tq:(q:Int)<9:=aR;have C:=dn a.o.own;clear hY0 hbt;go_wp2_with (at_builtin;refine dU rfl (.tmp 25) (.tmp 30) 180 rfl W.heap.size 5 i0 (.int .u8 0) 1 1 underlying180 hi hz0 hz1 hz2 rfl aY _ (9*k+q) (vJ u) rfl (by exact C.o.alloc _) (dA Q.heap.size 0) 1 [.int .u8 (48+(t:Int))] rfl rfl al6 bX bz aR (by simp;have:=a.o.ek.size;omega) ?_;intro gn fD T p r _ G);have mO:Hid (IA W T (dJ gn (9*k+q+1) fD) (u++[f]) (9*k+(q+1))):=⟨by rw[XL,FZ.o];exact p,by rw[List.length_append,a.o.len];rfl,HDG.o,(a.o.ek.fO).grown r (by simp;have:=a.o.ek.size;omega) (λx c=>(C.o.lt x c).1)⟩;clear p r G;go_wp2;go_roundw
      ·exact⟨q+1,Y / 10,u++[f],bL,by first|rfl|rw[r2],aR,mO.o,by rw[List.length_append];exact yc.o,RF.o⟩
      ·exact aph
     ·have tq:¬((q:Int)<9):=aR
      have iP:Hid (dC.val u.reverse=dZ.val (b.take (k+1))):=by
       have h:=S.o;rw[show 9-q=0 by omega]at h;have h0:Y=0:=aR;have U:=o.o;rw[h0,Nat.mul_zero,Nat.add_zero]at U;show _=_;rw[U,HV.o]
      have mO:Hid (IA W Q u3 u (9*(k+1))):=by
       have h:=a.o;rw[show 9*k+q=9*(k+1) by omega]at h;exact h
      clear S o;go_wp2;go_roundw
      ·exact⟨k+1,u,bL,aR,mO.o,iP.o⟩
      ·exact aph
   ·have hkn:¬((k:Int)<(n:Int)):=aR
    have hk0:0<k:=by
     rcases Nat.eq_zero_or_pos n with h|h
     ·rw[h]at QZ;simp at QZ
     ·exact aR
    have Yi:Hid (dC.val u.reverse=dZ.val b):=by
     have h:=o.o;rw[dZ.kX (by rw[RN.o];omega)]at h;exact h
    have R3:=dn (FI a.o.own a.o.len);obtain⟨ao,cap,A,zT,hcb,_⟩:=R3.o;rw[a.o.len]at A zT;subst A;obtain⟨L,hL⟩:=aK (9*k);have H:Hid (u.length=L):=by show _=_;rw[a.o.len,hL]
    rw[hL]at R3 zT ⊢;have hL1:1<=L/\L<=900000000:=aR;have wS:=dn (λW' (h:dB wr W')=>adS (R3.o.below h));have HDG:=dn a.o.dg;have om:=dn a.o.ek;have N:=om.o.dL aj5.o zi.o;obtain⟨e,aaF⟩:∃e:dN,(if d=true then [45] else [])=e:=⟨_,rfl⟩;rw[aaF]at P;have CS:=dn aaF;unfold maxLen at hcb;clear hL a o aaF agq vP;go_wp2_with fail
    go_loopw [7] (fun i s=>∃y:Nat,i=dw y/\1<=y/\y<=L/\dC.val (u.take y).reverse=dZ.val b/\s=wr) (fun i _=>(intOf i).toNat)
    ·exact⟨L,rfl,aR,aR,by rw[List.take_of_length_le (by rw[H.o];omega)];exact Yi.o,rfl⟩
    case round=>
     obtain⟨y,rfl,hm1,hm2,m,yO⟩:=hrel;subst yO;have HVM:=dn m;clear m;obtain⟨j,rfl⟩:∃j,y=j+1:=⟨y-1,aR⟩;obtain⟨f,hch⟩:∃f,u[j]?=some f:=⟨_,aF (by rw[H.o];omega)⟩;obtain⟨bq,rfl,q1⟩:=wS.o _ af j f hch;have alm:=f.toNat_lt;have hjL:(j:Int)<(L:Int):=aR;have HCH:=dn hch;clear hch
     by_cases X:0<j/\f=48
     ·obtain⟨hj0,rfl⟩:=X;have HF:Hid (dC.val (u.take j).reverse=dZ.val b):=(VB HCH.o).symm.trans HVM.o;have tj:(1:Int)<((j+1:Nat):Int):=aR;have tc:(((48:UInt8).toNat:Int)==48)=true:=rfl;go_wp2;go_roundw
      ·exact⟨j,bL,aR,aR,HF.o,by first|rfl|trivial⟩
      ·simp[intOf]
     ·have aiT:Hid (e++(u.take (j+1)).reverse=R):=by
       show _=_
       rw[P.o,YX HDG.o hm1 (by rw[H.o];exact hm2) HVM.o agb.o (by
        rcases Nat.eq_zero_or_pos j with h|h
        ·exact .inl aR
        ·right
         rw[Nat.add_sub_cancel,HCH.o];intro l;injection l with l;exact X ⟨h,l⟩)]
      have hcase:(¬((1:Int)<((j+1:Nat):Int)))\/((1:Int)<((j+1:Nat):Int)/\((f.toNat:Int)==48)=false):=by
       by_cases h:0<j
       ·right
        refine⟨aR,?_⟩;rw[beq_eq_false_iff_ne];intro l;exact X ⟨h,UInt8.toNat_inj.1 (by show f.toNat=48;omega)⟩
       ·left;omega
      have K3:Hid (e.length<=1):=by show _<=_;rw[<-CS.o];split<;>simp
      clear X HVM Yi P;rcases hcase with tj|⟨tj,tc⟩
      all_goals
       cases d
       case' false=>
        have Et:Hid (e=[]):=CS.o.symm;have HP:Hid (wr.ownsRow wr.heap.size 5 1 (dE) e.length (vJ e)):=by show World.ownsRow _ _ _ _ _ _ _;rw[Et.o];exact World.ownsRow_nil _ _ _ _
        have YI:Hid (dB wr wr):=af;go_wp2_with fail
       case' true=>
        have Et:Hid (e=[45]):=CS.o.symm;go_wp2_with (at_builtin;refine dU rfl (.tmp 51) (.tmp 52) 180 rfl wr.heap.size 5 i0 (.int .u8 0) 1 1 underlying180 hi hz0 hz1 hz2 rfl aY _ 0 [] rfl (by exact World.ownsRow_nil _ _ _ _) (dA wr.heap.size 0) 1 [.int .u8 45] rfl rfl al6 bX bz aR aW ?_;intro gn fD T p r _ G);have HP:Hid (T.ownsRow wr.heap.size 5 1 (dJ gn (0+1) fD) e.length (vJ e)):=by show World.ownsRow _ _ _ _ _ _ _;rw[Et.o];exact p
        have YI:Hid (dB wr T):=ai.grown r aW (λx c=>by cases c);clear p r G;go_wp2_with fail
       all_goals
        clear q1 N tj
        go_loopw [8,9] (fun v i s=>∃(q:Nat) (x:dN),i=dw ((q:Int)-1)/\q<=j+1/\x=e++((u.take (j+1)).drop q).reverse/\s.ownsRow wr.heap.size 5 1 v x.length (vJ x)/\dB wr s) (fun _ i _=>(intOf i+1).toNat)
        ·exact⟨j+1,e,bL,aR,by rw[List.drop_eq_nil_of_le amg];simp,HP.o,YI.o⟩
        case round=>
         clear HP YI;obtain⟨q,x,rfl,hq,c,hown,hbel⟩:=hrel;rename World=>s;have HX:=dn c;have C:=dn hown;have I:=dn hbel
         have hxl:x.length<=j+2:=by
          rw[c,List.length_append,List.length_reverse,List.length_drop,List.length_take];have:=K3.o;exact aR
         clear c hown hbel
         by_cases hq0:q=0
         ·subst hq0;have HR:Hid (x=R):=by show _=_;rw[HX.o,List.drop_zero];exact aiT.o
          have hxp:0<x.length:=by
           rw[HX.o,List.length_append,List.length_reverse,List.length_drop,List.length_take,H.o];exact aR
          have qJ:=dn (FI C.o rfl);obtain⟨ao,cap2,A,alo,aln,hel⟩:=qJ.o;obtain⟨g2,rfl,_⟩:=hel 0 hxp;subst A
          have hcv:=run_convert_bytes_back (P:=prog) s 180 9 5 (dA g2 0) cap2 x underlying180 underlying5 underlying9 (λi hi=>by
           obtain⟨g3,z,hc⟩:=hel i hi;injection z with z
           injection z with z;subst z;rw[addr_add];exact hc hi)
          clear hel;go_wp2;go_ret;exact⟨ic HR.o,HB0.o.dW (om.o.dW I.o)⟩
         ·obtain⟨i,rfl⟩:∃i,q=i+1:=⟨q-1,aR⟩;obtain⟨g,hd⟩:∃g,u[i]?=some g:=⟨_,aF (by rw[H.o];omega)⟩;obtain⟨g2,J,q2⟩:=wS.o s I.o i g hd;injection J with J
          injection J with J;subst J
          have FM:Hid (x++[g]=e++((u.take (j+1)).drop i).reverse):=by
           have U:(u.take (j+1))[i]?=some g:=by rw[List.getElem?_take_of_lt aR];exact hd
           obtain⟨h2,z⟩:=aG U;show _=_;rw[List.drop_eq_getElem_cons h2,z,List.reverse_cons,<-List.append_assoc,<-HX.o]
          have e1:((i+1:Nat):Int)-1=(i:Int):=aR;rw[e1];have hiL:(i:Int)<(L:Int):=aR;clear hd e1;go_wp2_with (at_builtin;refine dU rfl (.tmp 60) (.tmp 65) 180 rfl wr.heap.size 5 i0 (.int .u8 0) 1 1 underlying180 hi hz0 hz1 hz2 rfl aY _ x.length (vJ x) rfl (by exact C.o.alloc _) (dA s.heap.size 0) 1 [.int .u8 (g.toNat:Int)] rfl rfl al6 bX bz aR (by simp;have:=I.o.size;omega) ?_;intro gn2 Iu w4 p r _ G);have Yx:Hid (w4.ownsRow wr.heap.size 5 1 (dJ gn2 (x.length+1) Iu) (x++[g]).length (vJ (x++[g]))):=by show World.ownsRow _ _ _ _ _ _ _;rw[XL,List.length_append];exact p
          have rz:Hid (dB wr w4):=(I.o.fO).grown r (by simp;have:=I.o.size;omega) (λx c=>(C.o.lt x c).1);clear p r G;go_wp2;go_roundw
          ·exact⟨i,x++[g],bL,aR,FM.o,Yx.o,rz.o⟩
          ·simp[intOf]
def lG (w:World)(v:Value)(zs:List Int):Prop:=gu v zs.length (λg i=>∀h:i<zs.length,∃(b:Bool) (a:eu) (n c:Nat),w.cell? (dA g (i*2))=some (.bool b)/\w.cell? (dA g (i*2+1))=some (.slice a n c)/\gL w (.agg #[.bool b,.slice a n c]) zs[i])
theorem lG.below (h:lG w v f)(a:dB w W):lG W v f:=
 gu.imp h λ_ _ _ b hi=>by
  obtain⟨c,d,n,e,g,i,j⟩:=b hi;exact⟨c,d,n,e,(a.eT g),(a.eT i),j.below a⟩
theorem oI (h:lG w (.slice a n m) f):f.length=n/\n<=m/\m<=2 ^ 63-1:=by
 obtain⟨i,j,e,b,c,_⟩:=h;injection e with _ d g
 subst d;subst g;exact⟨rfl,b,c⟩
theorem wI (k:lG w (.slice a n m) f):∀(i:Nat) z,f[i]?=some z->∃(g:Nat) (b:Bool) (c:eu) (d e:Nat),a=some (dA g 0)/\w.cell? (dA g (i*2))=some (.bool b)/\w.cell? (dA g (i*2+1))=some (.slice c d e)/\gL w (.agg #[.bool b,.slice c d e]) z:=by
 obtain⟨t,u,h,_,_,l⟩:=k;injection h with h _ _
 subst h;intro i z j;obtain⟨hi,j⟩:=aG j;obtain⟨g,o,p⟩:=l i hi;obtain⟨b,c,d,e,q,r,s⟩:=p hi;exact⟨g,b,c,d,e,o,q,r,by rw[<-j];exact s⟩
structure EY (W:World)(B:Nat):Prop where
 c0:W.cell? (dA B 0)=some (dP)
 c1:W.cell? (dA B 1)=some (dE)
 fr:∀o,W.frozen? (dA B o)=false
theorem EY.fin {w3:World}{b4:Bool}{a4:eu}{n4 c4:Nat}{R:Int}(h:EY W n)(f:dB w W)(g:w.heap.size<=n)(b:dB W w3)(i:gL w3 (.agg #[.bool b4,.slice a4 n4 c4]) R) :
 w3.cell? (dA n 0)=some (dP)/\w3.cell? (dA n 1)=some (dE)/\(∀o,w3.frozen? (dA n o)=false)/\∃a,(w3.setCell (dA n 0) (.bool b4)).setCell (dA n 1) (.slice a4 n4 c4)=a/\a.cell? (dA n 0)=some (.bool b4)/\a.cell? (dA n 1)=some (.slice a4 n4 c4)/\Hid (gL a (.agg #[.bool b4,.slice a4 n4 c4]) R/\dB w a):=by
 have c:=aj h.c0;have d:=b.dL h.c0 c;have e:=b.dL h.c1 c;obtain⟨a,j,k,l,m,p⟩:=jV d e (.bool b4) (.slice a4 n4 c4);exact⟨d,e,λo=>(b.gq (h.fr o) c),a,j,k,l,i.put d p,m _ _ (f.dW b) g⟩
theorem Rc (v:eu)(n x i:Nat)(f:List Int)(k w:World)(h:lG k (.slice v n x) f)(l:dB k w) :
 dH 220 #[.slice v n x,dw i] w λJ K=>qH k (f.getD i 0) J/\dB w K:=by
 obtain⟨y,U,V⟩:=oI h;obtain⟨R,a⟩:=aK (f.getD i 0);rw[a];obtain⟨W,g⟩:∃W,w.alloc (.cells #[dP,dE] 229)=W:=⟨_,rfl⟩;have m:Hid (dB w W):=ape;have p:=dn (l.dW m.o);have A:W.dQ w.heap.size 0=some (dP):=al5;have B:W.dQ w.heap.size 1=some (dE):=al5;have X:∀o,W.uV w.heap.size o=false:=λo=>al5
 by_cases hi:i<n
 ·obtain⟨z,j⟩:∃z,f[i]?=some z:=⟨_,aF aR⟩;obtain⟨Y,C,D,E,F,rfl,L,M,_⟩:=wI (h.below p.o) i z j;obtain⟨Z,b',a',m',c',b,G,H,I⟩:=wI h i z j;injection b with b
  injection b with b;subst b;have c:=L.symm.trans ((p.o.eT G));have d:=M.symm.trans ((p.o.eT H));injection c with c;injection c with c;injection d with d;injection d with d N O;subst c;subst d;subst N;subst O;clear G H;have q:Hid (R=z):=a.symm.trans (Doc.iI j);have P:¬((n:Int)<=(i:Int)):=aR;obtain⟨Q,S,r,s,e,t⟩:=jV A B (.bool C) (.slice D E F);have u:=dn (e _ _ m.o ae);have T:=dn I;clear j h y a e t I l;go_enter func220,ntmps220;go_wp2;exact dR (.agg #[.bool C,.slice D E F]) (by simp[results,results220,go_sem,r,s]) rfl ⟨⟨_,rfl,by rw[q.o];exact T.o⟩,u.o⟩
 ·have q:Hid (R=0):=by show _=_;rw[<-a,List.getD_eq_getElem?_getD,List.getElem?_eq_none aR];rfl
  have P:(n:Int)<=(i:Int):=aR;obtain⟨Q,S,r,s,e,t⟩:=jV A B (dP) (dE);have u:=dn (e _ _ m.o ae);clear h y a e t l;go_enter func220,ntmps220;go_wp2;exact dR (.agg #[dP,dE]) (by simp[results,results220,go_sem,r,s]) rfl ⟨⟨_,rfl,by rw[q.o];exact gL.zero _⟩,u.o⟩
theorem EN (a:eu)(n c i:Nat)(b:List Int)(w:World)(h:lG w (.slice a n c) b) :
 dH 220 #[.slice a n c,dw i] w λf d=>qH d (b.getD i 0) f/\dB w d:=
 (Rc a n c i b w w h af).mono λ_ _ ⟨⟨v,g,j⟩,e⟩=>⟨⟨v,g,j.below e⟩,e⟩
theorem vV (c:eu)(n d i:Nat)(a:List Int)(w:World)(j:lG w (.slice c n d) a) :
 dH 156 #[.slice c n d,dw i] w λe s=>e=dF (.bool (a.getD i 0 !=0))/\dB w s:=by
 have k:=dn (EN c n d i a w j);obtain⟨Z,f⟩:=aK (a.getD i 0);rw[f]at k;obtain⟨R,g⟩:=aK ((a.getD i 0 !=0));rw[g];have t:Hid (R=(Z !=0)):=by show _=_;rw[<-g,f]
 have u:=dn (λx v y z W h b=>AX x v y z W h b);clear f g j;go_enter func156,ntmps156;go_wp2_with fail;refine k.o.mono ?_;rintro e l ⟨⟨v,rfl,m⟩,o⟩;have A:=dn m;have p:=dn o;obtain⟨B,C,D,E,I,rfl,F⟩:=m;clear F o;have q:Hid (dB l (l.alloc (.cells #[.bool B,.slice C D E] 229))):=ai;go_wp2_with fail;refine(u.o _ _ Z 0 _ (A.o.below q.o) (gL.zero _)).mono ?_;rintro e J ⟨⟨G,rfl,h,b,K,L⟩,r⟩
 have M:(G !=0)=R:=by
  rw[t.o,Bool.eq_iff_iff,bne_iff_ne,bne_iff_ne];exact not_congr b
 have H:=dn (p.o.trans (((q.o.dW r)).mono p.o.size));clear r h b;go_wp2;go_ret;exact⟨rfl,H.o⟩
theorem M8 (j:eu)(n k:Nat)(a:List Int)(w:World)(q:lG w (.slice j n k) a) :
 dH 266 #[.slice j n k] w λe O=>mi (a.getD 0 0) (a.getD 1 0) e/\dB w O:=by
 have l:=dn (fun(P:Nat) W (Q:dB w W)=>EN j n k P a W (q.below Q));have r:=dn (l.o 0 w af);have s:=dn (l.o 1);obtain⟨X,t⟩:=aK (a.getD 0 0);obtain⟨Y,u⟩:=aK (a.getD 1 0);rw[t]at r ⊢;rw[u]at s ⊢;have R:=dn (λS v T U W f V=>AX S v T U W f V);clear t u q l;go_enter func266,ntmps266;go_wp2_with fail;refine r.o.mono ?_;rintro e g ⟨⟨v,rfl,b⟩,x⟩;have Z:=dn b;have HB1:=dn x;obtain⟨y,z,A,B,l2,rfl,m⟩:=b;clear m x;obtain⟨c,o⟩:∃c,g.alloc (.cells #[.bool y,.slice z A B] 229)=c:=⟨_,rfl⟩;have C:Hid (dB g c):=by show Below _ _ _;rw[<-o];exact af.alloc ae _
 have D:c.dQ g.heap.size 0=some (.bool y):=by rw[<-o];simp
 have E:c.dQ g.heap.size 1=some (.slice z A B):=by rw[<-o];simp
 have F:=dn (HB1.o.dW C.o);go_wp2_with fail;refine(s.o _ F.o).mono ?_;rintro e h ⟨⟨v,rfl,b⟩,G⟩;have O0:=dn b;obtain⟨H,I,J,K,l3,rfl,m⟩:=b;obtain⟨d,p⟩:∃d,h.alloc (.cells #[.bool H,.slice I J K] 229)=d:=⟨_,rfl⟩;have L:Hid (dB h d):=apc;have m0:d.dQ h.heap.size 0=some (.bool H):=am9;have m1:d.dQ h.heap.size 1=some (.slice I J K):=am9;have i:=dn (G.dW L.o);have k2:=i.o.eT D;have k3:=i.o.eT E;clear m G D E;go_wp2_with fail;refine(R.o _ _ X Y _ ((Z.o.below C.o).below i.o) (O0.o.below L.o)).mono ?_;rintro e w3 ⟨⟨M,rfl,f⟩,N⟩;have HF:Hid (mi X Y (dF (dw M))):=⟨M,rfl,f⟩;have R6:=dn (F.o.dW (i.o.dW N));clear N f;go_wp2;go_ret;exact⟨HF.o,R6.o⟩
def kz (zs:List Int):Nat:=zs.countP (λz=>z !=0)
theorem LC (c:eu)(n d:Nat)(a:List Int)(w:World)(h:lG w (.slice c n d) a)(H:n<=1000) :
 dH 265 #[.slice c n d] w λy A=>y=dF (dw (kz a:Nat))/\dB w A:=by
 obtain⟨p,I,J⟩:=oI h;have B:=dn (fun(i:Nat) W (b:dB w W)=>vV c n d i a W (h.below b));obtain⟨R,e⟩:=aK (kz a);rw[e];have C:=dn e;have r:=dn p;clear h p e;go_enter func265,ntmps265;go_wp2_with fail
 go_loopw [3,7] (fun D i wr=>∃(k q:Nat),i=dw k/\D=dw q/\k<=n/\q<=k/\kz (a.take k)=q/\dB w wr) (fun _ i _=>n-(intOf i).toNat)
 ·exact⟨0,0,rfl,rfl,aR,aR,rfl,af⟩
 case round=>
  obtain⟨k,q,rfl,rfl,K,L,s,t⟩:=hrel;have u:=dn s;have f:=dn t;clear s t
  by_cases E:k<n
  ·obtain⟨z,g⟩:∃z,a[k]?=some z:=⟨_,aF (by rw[r.o];exact E)⟩;have j:=dn (B.o k wr f.o)
   have l:Hid (kz (a.take (k+1))=q+(if (z !=0)=true then 1 else 0)):=by
    show _=_;unfold kz at *;rw[List.take_add_one,g,List.countP_append,u.o];simp[List.countP_cons]
   rw[Doc.iI g]at j;obtain⟨m,b⟩:=aK ((z !=0));rw[b]at j l;have F:(k:Int)<(n:Int):=aR;clear g b;go_wp2_with fail;refine j.o.dX λM v=>?_;have x:=dn (f.o.dW v);clear v;cases m
   ·have o:Hid (kz (a.take (k+1))=q):=l.o;go_wp2;go_roundw
    ·exact⟨k+1,q,bL,rfl,aR,aR,o.o,x.o⟩
    ·exact aph
   ·have o:Hid (kz (a.take (k+1))=q+1):=l.o;go_wp2;go_roundw
    ·exact⟨k+1,q+1,bL,bL,aR,aR,o.o,x.o⟩
    ·exact aph
  ·have G:Hid (q=R):=by
    have h:=u.o;rw[List.take_of_length_le (by rw[r.o];omega)]at h;show _=_;rw[<-h,C.o]
   have F:¬((k:Int)<(n:Int)):=aR;go_wp2;go_ret;exact⟨fM (by rw[G.o]),f.o⟩
theorem Uv (c:eu)(n d:Nat)(a:List Int)(w:World)(h:lG w (.slice c n d) a) :
 dH 223 #[.slice c n d] w λm p=>qH p (if (a.getD 0 0 !=0)=true then a.getD 1 0 else a.getD 2 0) m/\dB w p:=by
 obtain⟨W,b⟩:∃W,w.alloc (.cells #[dP,dE] 229)=W:=⟨_,rfl⟩;have g:Hid (dB w W):=apg;have C:Hid (EY W w.heap.size):=⟨anD,anD,λo=>anD⟩;have q:=dn (vV c n d 0 a W (h.below g.o));have i:=dn (fun(D:Nat) r (e:dB W r)=>EN c n d D a r (h.below (g.o.dW e)));have s:=dn (i.o 1);have t:=dn (i.o 2);obtain⟨f,e⟩:=aK ((a.getD 0 0 !=0));obtain⟨X,u⟩:=aK (a.getD 1 0);obtain⟨Y,v⟩:=aK (a.getD 2 0);rw[e]at q ⊢;rw[u]at s ⊢;rw[v]at t ⊢;obtain⟨R,j⟩:=aK ((if f=true then X else Y));rw[j];have x:=dn j;clear e u v h i j;go_enter func223,ntmps223;go_wp2_with fail;refine q.o.dX λN y=>?_;have k:=dn y;clear y b;cases f
 case' false=>
  have z:Hid (Y=R):=x.o;go_wp2_with fail;refine(t.o _ k.o).mono ?_
 case' true=>
  have z:Hid (X=R):=x.o;go_wp2_with fail;refine(s.o _ k.o).mono ?_
 all_goals
  rintro m O ⟨⟨P,rfl,l⟩,A⟩;rw[z.o]at l;have E:=dn l;obtain⟨F,G,H,I,Q,rfl,J⟩:=l;have K:=dn (k.o.dW A);obtain⟨S,T,U,V,Z,L,M,B⟩:=C.o.fin g.o ae K.o E.o;clear J A;go_wp2;exact dR (.agg #[.bool F,.slice G H I]) (by simp[results,results223,go_sem,L,M]) rfl ⟨⟨_,rfl,B.o.1⟩,B.o.2⟩
theorem YV (h:Doc.two f n=true):∀m,n<=m->Doc.two f m=true:=by
 intro m b
 induction m with
 | zero=>
  have:n=0:=aR;rw[this]at h;exact h
 | succ m c=>
  rcases Nat.lt_or_eq_of_le b with a|a
  ·rw[Doc.two,c aR];rfl
  ·rw[<-a];exact h
theorem Iz (O:eu)(n P:Nat)(b:List Int)(w:World)(B:lG w (.slice O n P) b)(hn8:n<=1000) :
 dH 267 #[.slice O n P] w λs h=>s=dF (.bool (!Doc.two b b.length))/\dB w h:=by
 obtain⟨Q,hc1,hc2⟩:=oI B;have t:=dn (λW (d:dB w W)=>wI (B.below d));have PO:=dn (λu v x y W C D=>AX u v x y W C D);obtain⟨R,E⟩:=aK ((!Doc.two b b.length));rw[E];have S:=dn E;have A:=dn Q;clear B Q E;go_enter func267,ntmps267;go_wp2_with fail
 go_loopw [7] (fun l wr=>∃k:Nat,l=dw k/\k<=n/\Doc.two b k=false/\dB w wr) (fun l _=>n-(intOf l).toNat)
 ·exact⟨0,rfl,aR,rfl,af⟩
 case round=>
  obtain⟨k,rfl,hk,T,U⟩:=hrel;have V:=dn T;have X:=dn U;clear T U
  by_cases hlt:k<n
  ·obtain⟨z,F⟩:∃z,b[k]?=some z:=⟨_,aF (by rw[A.o];exact hlt)⟩;have Y:Hid (Doc.two b (k+1)=(b.take k).any (λx=>x==z)):=by show _=_;rw[Doc.two,V.o,Doc.iI F];rfl
   have Z:=dn F;have hkn:(k:Int)<(n:Int):=aR;clear F;go_wp2_with fail
   go_loopw [4] (fun l e=>∃j:Nat,l=dw j/\j<=k/\(b.take j).any (fun x=>x==z)=false/\dB w e) (fun l _=>k-(intOf l).toNat)
   ·exact⟨0,rfl,aR,aW,X.o⟩
   case round=>
    obtain⟨j,rfl,hj,hany,hbx⟩:=hrel;rename World=>e;have agF:=dn hany;have m:=dn hbx;clear hany hbx
    by_cases hjk:j<k
    ·obtain⟨y,o⟩:∃y,b[j]?=some y:=⟨_,aF ao4⟩;obtain⟨i,b1,a1,m1,c1,rfl,G,H,_⟩:=t.o e m.o k z Z.o;obtain⟨g2,b2,a2,m2,c2,p,I,J,_⟩:=t.o e m.o j y o;injection p with p
     injection p with p;subst p
     have zq:=dn (λa (d:dB e a) (u v:Value) (K:a.cell? (dA i (k*2))=some u) (L:a.cell? (dA i (k*2+1))=some v)=>show gL a (.agg #[u,v]) z by
      obtain⟨g3,b3,a3,m3,c3,c,f,g,M⟩:=t.o a (m.o.dW d) k z Z.o;injection c with c
      injection c with c;subst c;rw[K]at f;rw[L]at g;injection f with f;injection g with g;subst f;subst g;exact M)
     have HNY:=dn (λa (d:dB e a) (u v:Value) (K:a.cell? (dA i (j*2))=some u) (L:a.cell? (dA i (j*2+1))=some v)=>show gL a (.agg #[u,v]) y by
      obtain⟨g3,b3,a3,m3,c3,c,f,g,M⟩:=t.o a (m.o.dW d) j y o;injection c with c
      injection c with c;subst c;rw[K]at f;rw[L]at g;injection f with f;injection g with g;subst f;subst g;exact M)
     have HC:Hid (∀a,dB e a->dH 226 #[.agg #[.bool b1,.slice a1 m1 c1],.agg #[.bool b2,.slice a2 m2 c2]] a λs h=>mi z y s/\dB a h):=λa d=>
      PO.o _ _ z y a (zq.o a d _ _ ((d.eT G)) ((d.eT H))) (HNY.o a d _ _ ((d.eT I)) ((d.eT J)))
     have HSJ:Hid ((b.take (j+1)).any (λx=>x==z)=(y==z)):=by show _=_;rw[Doc.CL o,agF.o];rfl
     have Ac:Hid ((y==z)=true->R=false):=λC=>by
      have D:Doc.two b (k+1)=true:=by
       rw[Y.o,List.any_eq_true];exact⟨y,List.mem_of_getElem? (i:=j) (by rw[List.getElem?_take_of_lt hjk];exact o),C⟩
      have c:=YV D b.length ao4;rw[<-S.o,c];rfl
     have hjn:(j:Int)<(n:Int):=aR;have ah6:(j:Int)<(k:Int):=aR;clear o zq HNY;go_upto_region 7 with fail
     go_cut [24] (fun bg wy=>bg=.bool (y==z)/\dB e wy)
     case first=>
      go_region_held3 (fun h=>h.cell? (dA i (k*2))=some (.bool b1)/\h.cell? (dA i (k*2+1))=some (.slice a1 m1 c1)/\h.cell? (dA i (j*2))=some (.bool b2)/\h.cell? (dA i (j*2+1))=some (.slice a2 m2 c2)) (go_keep) (first|(go_at_call 226;refine(HC.o _ bY).mono ?_;rintro s w4 ⟨⟨bn,rfl,hr1,hr2,hr3,hr4⟩,hb4⟩;have q:=dn ((Below.refl e.heap.size e).drew.trans hb4);have s0:=q.o.eT G;have s1:=q.o.eT H;have s2:=q.o.eT I;have s3:=q.o.eT J;have hrr:(bn==0)=(y==z):=(by rw[Bool.eq_iff_iff,beq_iff_eq,beq_iff_eq,hr2];exact eq_comm)));go_wp2;go_meet
      ·exact⟨rfl,q.o⟩
     case rest=>
      obtain⟨rfl,hbc⟩:=hcut;have zt:=dn (m.o.dW hbc);obtain⟨N,hbb⟩:=aK ((y==z));rw[hbb]at HSJ Ac ⊢;clear hbc hbb G H I J;cases N
      ·have HS2:=dn HSJ.o;go_wp2;go_roundw
       ·exact⟨j+1,bL,aR,HS2.o,zt.o⟩
       ·exact aph
      ·have r:=dn (Ac.o rfl);go_wp2;go_ret;exact⟨dS r.o.symm,zt.o⟩
    ·have r:Hid (Doc.two b (k+1)=false):=by show _=_;rw[Y.o,<-show j=k by omega];exact agF.o
     have ah6:¬((j:Int)<(k:Int)):=aR;go_wp2;go_roundw
     ·exact⟨k+1,bL,aR,r.o,m.o⟩
     ·exact aph
  ·have r:Hid (R=true):=by show _=_;rw[<-S.o,A.o,<-show k=n by omega,V.o];rfl
   have hkn:¬((k:Int)<(n:Int)):=aR;go_wp2;go_ret;exact⟨dS r.o.symm,X.o⟩
def pj (p:Nat)(zs:List Int):Bool:=
 if p=1 then true
 else if p=5 then !(zs.getD 0 0 !=0)
 else if p=6 then kz zs==zs.length
 else if p=7 then decide (0<kz zs)
 else if p=8 then kz zs==1
 else if p=9 then !(zs.getD 0 0 !=0)||(zs.getD 1 0 !=0)
 else if p=10 then zs.getD 0 0==zs.getD 1 0
 else if p=11 then !Doc.two zs zs.length
 else if p=12 then decide (zs.getD 0 0<=zs.getD 1 0)
 else if p=13 then decide (zs.getD 0 0<zs.getD 1 0)
 else false
theorem Tz (p:Nat)(i:eu)(n j:Nat)(a:List Int)(w:World)(k:lG w (.slice i n j) a)(z:n<=1000)(F:p=1\/p=2\/p=5\/p=6\/p=7\/p=8\/p=9\/p=10\/p=11\/p=12\/p=13) :
 dH 225 #[dw p,.slice i n j] w λs G=>s=dF (.bool (pj p a))/\dB w G:=by
 obtain⟨t,N,O⟩:=oI k;have u:=dn (fun(H:Nat) W (I:dB w W)=>vV i n j H a W (k.below I));have A:=dn (u.o 0 w af);have J:=dn (u.o 1);have v:=dn (LC i n j a w k z);have l:=dn (M8 i n j a w k);have K:=dn (Iz i n j a w k z);have L:=dn t;obtain⟨R,x⟩:=aK (pj p a);rw[x];have e:=dn x;have P:kz a<=n:=by unfold kz;rw[<-t];exact List.countP_le_length
 clear k t u x;rcases F with rfl|rfl|rfl|rfl|rfl|rfl|rfl|rfl|rfl|rfl|rfl
 ·have c:Hid (R=true):=e.o.symm;go_enter func225,ntmps225;go_wp2;go_ret;exact⟨dS c.o.symm,af⟩
 ·have c:Hid (R=false):=e.o.symm;go_enter func225,ntmps225;go_wp2;go_ret;exact⟨dS c.o.symm,af⟩
 ·have c:Hid (R=!(a.getD 0 0 !=0)):=e.o.symm;generalize (a.getD 0 0 !=0)=y at *;go_enter func225,ntmps225;go_wp2_with fail;refine A.o.dX λh b=>?_;have d:=dn b;clear b;go_wp2;go_ret;exact⟨dS c.o.symm,d.o⟩
 ·have c:Hid (R=(((kz a:Nat):Int)==(n:Int))):=by show _=_;rw[<-e.o];show(kz a==a.length)=_;rw[L.o,Bool.eq_iff_iff,beq_iff_eq,beq_iff_eq];omega
  exact apO
 ·have c:Hid (R=decide (0<kz a)):=e.o.symm;exact apO
 ·have c:Hid (R=(((kz a:Nat):Int)==1)):=by show _=_;rw[<-e.o];show(kz a==1)=_;rw[Bool.eq_iff_iff,beq_iff_eq,beq_iff_eq];omega
  exact apO
 ·have c:Hid (R=(!(a.getD 0 0 !=0)||(a.getD 1 0 !=0))):=e.o.symm;generalize (a.getD 0 0 !=0)=y at *;generalize (a.getD 1 0 !=0)=Q at *;go_enter func225,ntmps225;go_wp2_with fail;refine A.o.dX λh b=>?_;have d:=dn b;clear b;cases y
  ·go_wp2;go_ret;exact⟨dS c.o.symm,d.o⟩
  ·go_wp2_with fail;refine(J.o _ d.o).dX λS C=>?_;have M:=dn (d.o.dW C);clear C;go_wp2;go_ret;exact⟨dS c.o.symm,M.o⟩
 ·obtain⟨X,f⟩:=aK (a.getD 0 0);obtain⟨Y,g⟩:=aK (a.getD 1 0);have c:Hid (R=(X==Y)):=aof;rw[f,g]at l;clear f g;go_enter func225,ntmps225;go_wp2_with fail;refine l.o.mono ?_;rintro s h ⟨⟨r,rfl,o,m,D,E⟩,b⟩;have d:=dn b;have q:Hid (R=(r==0)):=by show _=_;rw[c.o,Bool.eq_iff_iff,beq_iff_eq,beq_iff_eq];exact m.symm
  exact aqS
 ·have c:Hid (R=!Doc.two a a.length):=e.o.symm;generalize (!Doc.two a a.length)=y at *;go_enter func225,ntmps225;go_wp2_with fail;refine K.o.dX λh b=>?_;have d:=dn b;clear b;go_wp2;go_ret;exact⟨dS c.o.symm,d.o⟩
 ·obtain⟨X,f⟩:=aK (a.getD 0 0);obtain⟨Y,g⟩:=aK (a.getD 1 0);have c:Hid (R=decide (X<=Y)):=aof;rw[f,g]at l;clear f g;go_enter func225,ntmps225;go_wp2_with fail;refine l.o.mono ?_;rintro s h ⟨⟨r,rfl,o,m,D,E⟩,b⟩;have d:=dn b;have q:Hid (R=decide (r<=0)):=anO;exact aqS
 ·obtain⟨X,f⟩:=aK (a.getD 0 0);obtain⟨Y,g⟩:=aK (a.getD 1 0);have c:Hid (R=decide (X<Y)):=aof;rw[f,g]at l;clear f g;go_enter func225,ntmps225;go_wp2_with fail;refine l.o.mono ?_;rintro s h ⟨⟨r,rfl,o,m,D,E⟩,b⟩;have d:=dn b;have q:Hid (R=decide (r<0)):=anO;exact aqS
theorem QD (t:dN)(s:Nat)(w:World)(y:t.length<=100000000)(p:s=1\/s=2\/s=3) :
 dH 219 #[dD t,dw s] w λe q=>e=dF (.bool (Doc.jA t s))/\dB w q:=by
 have z:=gU;have o:=dn (Du t w aR);obtain⟨R,h⟩:=aK (Doc.jA t s);rw[h];have g:=dn h;clear h;rcases p with rfl|rfl|rfl
 ·obtain⟨i,j⟩:=aK ((t==[48]));obtain⟨l,m⟩:=aK ((t==[49]))
  have a:Hid (R=(i||l)):=by
   show _=_;rw[<-g.o,Doc.jA,if_pos rfl,j,m];cases i with
   | true=>rw[beq_iff_eq]at j;rw[j];rfl
   | false=>
    cases l with
    | true=>rw[beq_iff_eq]at m;rw[m];rfl
    | false=>simp
  cases i<;>cases l
  all_goals
   go_enter func219,ntmps219;go_wp2;go_ret;exact⟨dS a.o.symm,af⟩
 ·have a:Hid (R=dC.Is t):=by show _=_;rw[<-g.o,Doc.jA,if_neg aR,if_neg aR,Bool.and_true]
  generalize dC.Is t=B at *;go_enter func219,ntmps219;go_wp2_with fail;refine o.o.dX λu d=>?_;have n:=dn d;clear d;go_wp2;go_ret;exact⟨dS a.o.symm,n.o⟩
 ·have a:Hid (R=(dC.Is t&&(t.head? !=some 45))):=by show _=_;rw[<-g.o,Doc.jA,if_neg aR,if_pos rfl]
  cases t with
  | nil=>
   have f:Hid (R=false):=a.o;go_enter func219,ntmps219;go_wp2;go_ret;exact⟨dS f.o.symm,af⟩
  | cons c r=>
   have A:=c.toNat_lt
   by_cases b:c=45
   ·have f:Hid (R=false):=by show _=_;rw[a.o,b];simp
    have v:((c.toNat:Int) !=45)=false:=by rw[bne_eq_false_iff_eq,b];rfl
    clear b;go_enter func219,ntmps219;go_wp2;go_ret;exact⟨dS f.o.symm,af⟩
   ·have f:Hid (R=dC.Is (c::r)):=by
     show _=_;have x:(some c !=some 45)=true:=by rw[bne_iff_ne];intro e;injection e with e;exact b e
     rw[a.o,List.head?_cons,x,Bool.and_true]
    have v:((c.toNat:Int) !=45)=true:=by rw[bne_iff_ne];intro e;exact b (UInt8.toNat_inj.1 anV)
    clear b a g;generalize dC.Is (c::r)=B at *;go_enter func219,ntmps219;go_wp2_with fail;refine o.o.dX λu d=>?_;have n:=dn d;clear d;go_wp2;go_ret;exact⟨dS f.o.symm,n.o⟩
theorem WE (t u:eu)(n m j l:Nat)(c d:List (dN))(w:World)(a:jK w (.slice t n j) c)(b:jK w (.slice u m l) d)(o:c.length=n)(q:d.length=m)(F:n<=j/\j<=2 ^ 63-1)(G:m<=l/\l<=2 ^ 63-1) :
 dH 282 #[.slice t n j,.slice u m l] w λg H=>g=dF (.bool (c==d))/\dB w H:=by
 have M:=gU;obtain⟨R,p⟩:=aK ((c==d));rw[p];have r:=dn p;obtain⟨N,O⟩:=F;obtain⟨P,Q⟩:=G
 by_cases v:n=m
 ·subst v;have I:=dn (λW (h:dB w W)=>(a.below h).get);have J:=dn (λW (h:dB w W)=>(b.below h).get);have z:=dn o;have A:=dn q;clear a b o q p;go_enter func282,ntmps282;go_wp2_with fail
  go_loopw [13] (fun s wr=>∃k:Nat,s=dw k/\k<=n/\c.take k=d.take k/\dB w wr) (fun s _=>n-(intOf s).toNat)
  ·exact⟨0,rfl,aR,aW,af⟩
  case round=>
   obtain⟨k,rfl,S,B,C⟩:=hrel;have D:=dn B;have i:=dn C;clear B C
   by_cases E:k<n
   ·obtain⟨x,a⟩:∃x,c[k]?=some x:=⟨_,aF (by rw[z.o];exact E)⟩;obtain⟨y,b⟩:∃y,d[k]?=some y:=⟨_,aF (by rw[A.o];exact E)⟩;obtain⟨T,rfl,U⟩:=I.o wr i.o k x a;obtain⟨V,rfl,X⟩:=J.o wr i.o k y b;have K:(k:Int)<(n:Int):=aR
    by_cases f:x=y
    ·have e:Hid (c.take (k+1)=d.take (k+1)):=by show _=_;rw[List.take_add_one,List.take_add_one,a,b,D.o,f]
     have L:(x==y)=true:=by rw[beq_iff_eq];exact f
     clear a b f;go_wp2_with (go_quiet (fail));go_roundw
     ·exact⟨k+1,bL,aR,e.o,below_drewN i.o _⟩
     ·exact aph
    ·have e:Hid (R=false):=by
      show _=_;rw[<-r.o,beq_eq_false_iff_ne];intro g;rw[g,b]at a;injection a with a;exact f a.symm
     have L:(x==y)=false:=ak f;clear a b f;go_wp2_with (go_quiet (fail));go_ret;exact⟨dS e.o.symm,below_drewN i.o _⟩
   ·have e:Hid (R=true):=by
     have h:=D.o;rw[List.take_of_length_le aoP,List.take_of_length_le ao4]at h;show _=_;rw[<-r.o,beq_iff_eq];exact h
    have K:¬((k:Int)<(n:Int)):=aR;go_wp2;go_ret;exact⟨dS e.o.symm,i.o⟩
 ·have e:Hid (R=false):=by
   show _=_;rw[<-r.o,beq_eq_false_iff_ne];intro g;rw[g]at o;exact aR
  have Y:((n:Int) !=(m:Int))=true:=bJ;clear a b o q p v;go_enter func282,ntmps282;go_wp2;go_ret;exact⟨dS e.o.symm,af⟩
def wh (L:List fU)(s k:Nat)(o:Int):Prop:=(o=-1/\∀y∈L.take k,uN s y=false)\/∃(j:Nat) (x:fU),o=(j:Int)/\j<k/\L[j]?=some x/\uN s x=true/\∀y∈L.take j,uN s y=false
theorem wh.no {o:Int}{x:fU}(h:wh c n m o)(d:c[m]?=some x)(e:uN n x=false):wh c n (m+1) o:=by
 rcases h with ⟨a,b⟩|⟨j,y,a,b,f⟩
 ·exact .inl ⟨a,BP b d e⟩
 ·exact .inr ⟨j,y,a,aR,f⟩
theorem wh.keep {o:Int}(h:wh c n m o)(e:0<=o):wh c n (m+1) o:=by
 rcases h with ⟨a,b⟩|⟨j,y,a,b,d⟩
 ·exact aR
 ·exact .inr ⟨j,y,a,aR,d⟩
theorem wh.new {o:Int}{x:fU}(h:wh c n m o)(f:o<0)(b:c[m]?=some x)(d:uN n x=true):wh c n (m+1) (m:Int):=by
 rcases h with ⟨e,a⟩|⟨j,y,e,a,g⟩
 ·exact .inr ⟨m,x,rfl,aR,b,d,a⟩
 ·exact aR
theorem Lf (bg J:eu)(bn q n r s:Nat)(L:List fU)(b:List (dN))(w:World)(E:gI w bg bn L)(K:L.length=n)(hv:jK w (.slice J r q) b)(hq:b.length=r)(hd:r<=q/\q<=2 ^ 63-1) :
 dH 260 #[.slice bg n bn,dw s,.slice J r q] w λbA w'=>bA=dF (dD (Doc.look (fZ L) s b))/\dB w w':=by
 have hR:=gU;have hc1:=E.le;have hc2:=E.max;rw[K]at hc1;obtain⟨R,M⟩:=aK (Doc.look (fZ L) s b);rw[M];have N:=dn M;have HG:=dn (λW (O:dB w W)=>(E.below O).get);have FQ:=dn (λW (O:dB w W) (h:eu) (F f:Nat) (P:List (dN)) (t:jK W (.slice h F f) P) (d:P.length=F) (u:F<=f/\f<=2 ^ 63-1)=>WE h J F r f q P b W t (hv.below O) d hq u hd);have HN:=dn K;obtain⟨hd1,hd2⟩:=hd;clear E K hv hq M;go_enter func260,ntmps260;go_wp2_with fail
 go_loopw [7,12] (fun o Q wr=>∃(k:Nat) (e:Int),Q=dw k/\o=dw e/\k<=n/\wh L s k e/\(∀y∈L.take k,rM s b y=false)/\dB w wr/\-1<=e/\e<9223372036854775807) (fun _ Q _=>n-(intOf Q).toNat)
 ·exact⟨0,-1,rfl,rfl,aR,.inl ⟨rfl,aW⟩,aW,af,aR,aR⟩
 case round=>
  obtain⟨k,e,rfl,rfl,hk,hoth,hpre,hbel,ho1,ho2⟩:=hrel;have G:=dn hoth;have S:=dn hpre;have v:=dn hbel;clear hoth hpre hbel
  by_cases hlt:k<n
  ·obtain⟨x,i⟩:∃x,L[k]?=some x:=⟨_,aF amS⟩;obtain⟨bB,o,rfl,H⟩:=HG.o wr v.o k x i;obtain⟨a1,a2,⟨h,f,T,U,a5,V⟩,X⟩:=H;have Y:=dn (BP S.o i);have acE:=dn (look_eq S.o i);have j:=dn (λZ=>G.o.no i Z);have z:=dn (λho Z=>G.o.new ho i Z);obtain⟨a,A,c,l⟩:=x;simp only at a1 a2 T U a5 V X acE;obtain⟨W,g⟩:∃W,wr.alloc (.cells #[dw a,.bool A,.slice h c.length f,dD l] 142)=W:=⟨_,rfl⟩;have EB:Hid (dB wr W):=ape;have B:=dn (v.o.dW EB.o);have d0:W.dQ wr.heap.size 0=some (dw a):=al5;have d1:W.dQ wr.heap.size 1=some (.bool A):=al5;have d2:W.dQ wr.heap.size 2=some (.slice h c.length f):=al5;have d3:W.dQ wr.heap.size 3=some (dD l):=al5;have HC:=dn (FQ.o W B.o h c.length f c (V.below EB.o) rfl ⟨U,a5⟩);obtain⟨NA,oM⟩:=aK c.length;rw[oM]at T d2 HC g U;have hkn:(k:Int)<(n:Int):=aR;clear i V oM
   by_cases m:a=s
   ·have t1:(a !=(s:Int))=false:=by simp[m]
    have IZ:Hid ((a==(s:Int))=true):=by show _=_;rw[beq_iff_eq];exact m
    clear m;cases A
    ·have ajd:=dn (j.o (by unfold uN;show(a==(s:Int)&&false)=false;rw[Bool.and_false]));have Ja:Hid (rM s b ⟨a,false,c,l⟩=(c==b)):=by show _=_;unfold rM;show(a==(s:Int)&&!false&&c==b)=_;rw[IZ.o];rfl
     obtain⟨bb,hbb⟩:=aK ((c==b));rw[hbb]at HC Ja;clear hbb j z;go_wp2_with fail;refine HC.o.dX λw2 hb2=>?_;have HB2:=dn (B.o.dW hb2);have d4:=hb2.eT d3;clear hb2 g d0 d1 d2 d3 a1 a2 T X;cases bb
     ·have p:=dn (Y.o Ja.o);go_wp2;go_roundw
      ·exact⟨k+1,e,bL,rfl,aR,ajd.o,p.o,HB2.o,aR,aR⟩
      ·exact aph
     ·have C:Hid (l=R):=by show _=_;rw[<-N.o,acE.o Ja.o]
      go_wp2;go_ret;exact⟨ic C.o,HB2.o⟩
    ·have p:Hid (∀y∈L.take (k+1),rM s b y=false):=Y.o (by unfold rM;show(a==(s:Int)&&!true&&c==b)=false;simp);have HOT:Hid (uN s ⟨a,true,c,l⟩=true):=by show _=_;unfold uN;show(a==(s:Int)&&true)=true;rw[IZ.o];rfl
     by_cases hoo:e<0
     ·have D:=dn (z.o hoo HOT.o);clear j z;go_wp2;go_roundw
      ·exact⟨k+1,(k:Int),bL,rfl,aR,D.o,p.o,B.o,aR,aR⟩
      ·exact aph
     ·have D:=dn (G.o.keep aR);clear j z;go_wp2;go_roundw
      ·exact⟨k+1,e,bL,rfl,aR,D.o,p.o,B.o,aR,aR⟩
      ·exact aph
   ·have t1:(a !=(s:Int))=true:=by simp[m]
    have FR:Hid ((a==(s:Int))=false):=by show _=_;rw[beq_eq_false_iff_ne];exact m
    have p:=dn (Y.o (by unfold rM;show(a==(s:Int)&&!A&&c==b)=false;rw[FR.o];rfl));have D:=dn (j.o (by unfold uN;show(a==(s:Int)&&A)=false;rw[FR.o];rfl));clear j z m;go_wp2;go_roundw
    ·exact⟨k+1,e,bL,rfl,aR,D.o,p.o,B.o,aR,aR⟩
    ·exact aph
  ·have hkn:¬((k:Int)<(n:Int)):=aR;have I:L.take k=L:=List.take_of_length_le ame;have Pt:Hid (∀y∈L,rM s b y=false):=by have d:=S.o;rw[I]at d;exact d
   rcases G.o with ⟨t,d⟩|⟨bq,x,t,d,u,h4,h5⟩
   ·have C:Hid ([48]=R):=by rw[I]at d;show _=_;rw[<-N.o,Rf Pt.o d]
    subst t;clear d I;go_wp2;go_ret;exact⟨ic C.o,v.o⟩
   ·subst t;have C:Hid (x.val=R):=by show _=_;rw[<-N.o,Re Pt.o h5 u h4]
    obtain⟨bB,o,rfl,H⟩:=HG.o wr v.o bq x u;have X:=H.val;have hjn:(bq:Int)<(n:Int):=aR;generalize x.val=l at *;clear u h4 h5 I H;go_wp2;go_ret;exact⟨ic C.o,v.o⟩
theorem VO:∃i,prog.info? 9=some i/\i.zero=some (eB)/\i.size=1/\i.bytes=16:=by
 have h:=ni;cases e:prog.info? 9 with
 | none=>rw[e]at h;simp at h
 | some i=>rw[e]at h;simp at h;exact⟨i,rfl,h.1,h.2.1,h.2.2⟩
theorem Y8 {a:List (dN)}(h:w.ownsRow n 9 1 v m (a.map eO))(b:a.length=m):jK w v a:=by
 subst b
 have e:a.map eO=(a.map (λx=>[eO x])).flatten:=by
  clear h
  induction a with
  | nil=>rfl
  | cons x a c=>simp[c]
 rw[e]at h;refine gu.imp' (Row.fq h aW aW).sl aW λg i hi d f=>?_;have:=d di 0 aR (eO a[i]) aW;rw[show i*1+0=i by omega]at this;exact this
theorem Nf (t f n R u v:Nat)(S x:eu)(a:List Int)(L:List fU)(w:World)(y:w.dQ t 0=some (.slice x u v))(p:gI w x v L)(A:L.length=u)(B:lG w (.slice S n R) a)(hn8:n<=1000)(U:∀z∈a,(dC.dec z).length<=100000000)(X:(Doc.look (fZ L) f (a.map dC.dec)).length<=100000000)(C:dC.Is (Doc.look (fZ L) f (a.map dC.dec))=true) :
 dH 222 #[dK t 0,dw f,.slice S n R] w λY Z=>qH Z (Doc.num (Doc.look (fZ L) f (a.map dC.dec))) Y/\dB w Z:=by
 obtain⟨hn,hc1,hc2⟩:=oI B;obtain⟨i0,hi,hz0,hz1,hz2⟩:=VO;obtain⟨W,i⟩:∃W,w.alloc (.cells #[dP,dE] 229)=W:=⟨_,rfl⟩;have q:Hid (dB w W):=apd;have FO:Hid (w.heap.size<W.heap.size):=by show _<_;rw[<-i];simp
 have Pm:Hid (EY W w.heap.size):=⟨amf,amf,λ_=>amf⟩;have HG:=dn (λb (j:dB W b)=>wI (B.below (q.o.dW j)));have Jb:=dn (λb (j:dB W b)=>((q.o.dW j).eT y));have HVT:=dn (λb (j:dB W b) (bn:eu) (bq bA:Nat) (vs:List (dN)) D E h3=>Lf x bn v bq u bA f L vs b (p.below (q.o.dW j)) A D E h3);have HLEN:=dn U;have HN:=dn hn;have HTX:=dn (λF z b D E=>abn F z b D E);have hvb:t<W.heap.size:=Nat.lt_trans (aj y) FO.o;have hLc:=p.le;have KF:=p.max;rw[A]at hLc;obtain⟨T,G⟩:=aK (Doc.look (fZ L) f (a.map dC.dec));rw[G]at X C ⊢;have HT:=dn G;have BF:=dn (λb=>R9 T b X);have HIS:=dn C;obtain⟨bg,H⟩:=aK (Doc.num T);rw[H];have HR:=dn H;clear y p A B hn U G H C;go_enter func222,ntmps222;go_wp2_with fail
 go_loopw [7,15] (fun F I wr=>∃(k:Nat) (c:List (dN)),I=dw k/\k<=n/\c=(a.take k).map dC.dec/\c.length=k/\wr.ownsRow W.heap.size 9 1 F k (c.map eO)/\dB W wr) (fun _ I _=>n-(intOf I).toNat)
 ·exact⟨0,[],rfl,aR,aW,rfl,World.ownsRow_nil _ _ _ _,af⟩
 case round=>
  obtain⟨k,c,rfl,hk,hxs,hxl,hown,hbel⟩:=hrel;have RG:=dn hxs;have r:=dn hxl;have HOWN:=dn hown;have l:=dn hbel;clear hxs hxl hown hbel
  by_cases hlt:k<n
  ·obtain⟨z,s⟩:∃z,a[k]?=some z:=⟨_,aF amS⟩;obtain⟨bC,b1,a1,m1,c1,rfl,q0,q1,q2⟩:=HG.o wr l.o k z s;obtain⟨V,d⟩:∃V,wr.alloc (.cells #[.bool b1,.slice a1 m1 c1] 229)=V:=⟨_,rfl⟩;have g:Hid (dB wr V):=apf;have v0:V.dQ wr.heap.size 0=some (.bool b1):=by rw[<-d];simp
   have v1:V.dQ wr.heap.size 1=some (.slice a1 m1 c1):=by rw[<-d];simp
   have m:=dn (HTX.o _ z V (q2.below g.o) (HLEN.o z (List.mem_of_getElem? s)));have jF:Hid (c++[dC.dec z]=(a.take (k+1)).map dC.dec):=by show _=_;rw[List.take_add_one,s,List.map_append,<-RG.o];rfl
   have HOV:=dn (ownsRow_below HOWN.o g.o);have jG:=dn (l.o.dW g.o);generalize dC.dec z=J at *;have hkn:(k:Int)<(n:Int):=aR;clear s q2;go_wp2_with fail;refine m.o.dX λw2 h=>?_;have zo:=dn (ownsRow_below HOV.o h);have o:=dn (jG.o.dW h);clear h d q0 q1 v0 v1;go_wp2_with (at_builtin;refine dU rfl (.tmp 19) (.tmp 22) 45 rfl W.heap.size 9 i0 (eB) 1 16 underlying45 hi hz0 hz1 hz2 rfl aY _ k (c.map eO) rfl (by exact zo.o.alloc _) (dA w2.heap.size 0) 1 [eO J] rfl rfl al6 bX bz aR (by simp;have:=o.o.size;omega) ?_;intro gn fD e hown' hgrow _ tu);have BG:Hid (e.ownsRow W.heap.size 9 1 (dJ gn (k+1) fD) (k+1) ((c++[J]).map eO)):=by show World.ownsRow _ _ _ _ _ _ _;rw[List.map_append];exact hown'
   have K:Hid (dB W e):=(o.o.fO).grown hgrow (by simp;have:=o.o.size;omega) (λbB hx=>(zo.o.lt bB hx).1);clear hown' hgrow tu;go_wp2;go_roundw
   ·exact⟨k+1,c++[J],bL,aR,jF.o,by rw[List.length_append,r.o];rfl,BG.o,K.o⟩
   ·exact aph
  ·have hkn:¬((k:Int)<(n:Int)):=aR;have HXE:Hid (c=a.map dC.dec):=by show _=_;rw[RG.o,List.take_of_length_le ame]
   have FQ:=dn (Y8 HOWN.o r.o);obtain⟨ao,cap,hv,zT,hcb,_⟩:=FQ.o;rw[r.o]at hv zT;subst hv;have m:=dn (HVT.o wr l.o ao cap k c FQ.o r.o ⟨zT,hcb⟩);rw[HXE.o,HT.o]at m;have e0:=Jb.o wr l.o;unfold maxLen at hcb;go_wp2_with fail;refine m.o.dX λw2 h=>?_;have o:=dn (l.o.dW h);clear h e0 m;go_wp2_with fail;refine(BF.o _).mono ?_;rintro Y e ⟨⟨vv,rfl,M⟩,hb3⟩;rw[HIS.o,if_pos rfl,HR.o]at M;rw[HIS.o];have HV:=dn M;obtain⟨N,O,P,Q,l4,rfl,hq⟩:=M;have K:=dn (o.o.dW hb3);obtain⟨V,d⟩:∃V,e.alloc (.cells #[.bool N,.slice O P Q] 229)=V:=⟨_,rfl⟩;have g:Hid (dB e V):=apf;have k0:V.dQ e.heap.size 0=some (.bool N):=by rw[<-d];simp
   have k1:V.dQ e.heap.size 1=some (.slice O P Q):=by rw[<-d];simp
   have rz:=dn (K.o.dW g.o);obtain⟨f0,f1,ff,wz,hwz,z0,z1,HZ⟩:=Pm.o.fin q.o ae rz.o (HV.o.below g.o);clear hq hb3;go_wp2;exact dR (.agg #[.bool N,.slice O P Q]) (by simp[results,results222,go_sem,z0,z1]) rfl ⟨⟨_,rfl,HZ.o.1⟩,HZ.o.2⟩
end Go.Proofs.YtjiagbaaikifpaaGreatDoor
namespace Go.Proofs.YtjiagbaaikifpaaGreatDoor
open Go.Proofs.Tryz
variable {f:List Int}
def Bools (zs:List Int):Prop:=∀z∈zs,z=0\/z=1
theorem VA (h:Bools f):(kz f==f.length)=f.all (·==1):=by
 rw[Bool.eq_iff_iff,beq_iff_eq,List.all_eq_true];unfold kz;rw[List.countP_eq_length];constructor
 ·intro c z b;have a:=c z b;rw[bne_iff_ne]at a;rw[beq_iff_eq];rcases h z b with d|d
  ·exact absurd d a
  ·exact d
 ·intro c z b;have a:=c z b;rw[beq_iff_eq]at a;rw[bne_iff_ne,a];exact aR
theorem Vz (h:Bools f):decide (0<kz f)=f.any (·==1):=by
 rw[Bool.eq_iff_iff,decide_eq_true_eq,List.any_eq_true];unfold kz;rw[List.countP_pos_iff];constructor
 ·rintro ⟨z,b,a⟩;rw[bne_iff_ne]at a;refine⟨z,b,?_⟩;rw[beq_iff_eq];rcases h z b with c|c
  ·exact absurd c a
  ·exact c
 ·rintro ⟨z,b,a⟩;rw[beq_iff_eq]at a;exact⟨z,b,by rw[bne_iff_ne,a];omega⟩
theorem Zx (a:Nat)(b:List Int)(j:3<=a)(k:a<=11)(d:a<=7->Bools b)(h:a=6\/a=7->b.length=2):pj (Doc.eG a) b=Doc.truth a b:=by
 have i:a=3\/a=4\/a=5\/a=6\/a=7\/a=8\/a=9\/a=10\/a=11:=aR;rcases i with rfl|rfl|rfl|rfl|rfl|rfl|rfl|rfl|rfl
 ·show(!(b.getD 0 0 !=0))=(b.getD 0 0==0);simp[bne]
 ·exact VA (d aR)
 ·exact Vz (d aR)
 ·have c:=d aR;have e:=h (.inl rfl)
  match b,e,c with
  | [x,y],_,c=>
   have f:=c x aW;have g:=c y aW;rcases f with rfl|rfl<;>rcases g with rfl|rfl<;>rfl
 ·have c:=d aR;have e:=h (.inr rfl)
  match b,e,c with
  | [x,y],_,c=>
   have f:=c x aW;have g:=c y aW;rcases f with rfl|rfl<;>rcases g with rfl|rfl<;>rfl
 ·rfl
 ·rfl
 ·show decide (b.getD 0 0<=b.getD 1 0)=!decide (b.getD 1 0<b.getD 0 0);rw[Bool.eq_iff_iff,decide_eq_true_eq,Bool.not_eq_true',decide_eq_false_iff_not];exact aR
 ·rfl
