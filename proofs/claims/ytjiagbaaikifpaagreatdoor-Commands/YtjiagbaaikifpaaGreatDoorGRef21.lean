import Derived.Test.YtjiagbaaikifpaaGreatDoorGDoc8
import Derived.Test.YtjiagbaaikifpaaGreatDoorGLW0
import Derived.Test.YtjiagbaaikifpaaGreatDoorGRef9
import Derived.Test.YtjiagbaaikifpaaGreatDoorGVal0
set_option maxRecDepth 100000
set_option maxHeartbeats 16000000
namespace Go.Proofs.YtjiagbaaikifpaaGreatDoor
open Go.RowKit Go.Proofs.Tryz
variable {D:Tc}{N i j k m n:Nat}{V v:Value}{W w:World}{Y:Doc.Tr}{Z z:Int}{a d:eu}{c:List fU}{l:List Nat}{x:dN}
structure kU (B:Nat)(wx:World)(x:dN)(s:Nat)(v:Value)(l:List Nat):Prop where
 c0:wx.cell? (dA B 0)=some (dD x)
 c1:wx.cell? (dA B 1)=some v
 c2:wx.cell? (dA B 2)=some (dw s)
 fr:∀o,wx.frozen? (dA B o)=false
 row:wx.ownsRow (B+1) 3 1 v l.length (l.map (λa:Nat=>Value.int .i64 (a:Int)))
 size:B<wx.heap.size
theorem kU.below (h:kU n w x m v l)(a:dB w W):kU n W x m v l:=by
 have b:=h.size;exact⟨(a.dL h.c0 b),(a.dL h.c1 b),(a.dL h.c2 b),λo=>(a.gq (h.fr o) b),ownsRow_below h.row a,Nat.lt_of_lt_of_le b a.size⟩
theorem kU.new (w:World)(x:dN)(a:TypeId):kU w.heap.size (w.alloc (.cells #[dD x,dE,dw 0] a)) x 0 (dE) []:=
 ⟨aW,aW,aW,al7,World.ownsRow_nil _ _ _ _,aW⟩
theorem kU.app {s:Nat}(h:kU n w x s v l)(X:Obj)(a:mo (w.alloc X) W n 1 (n+1) 3 1 v V (l.length+1) (l.map (λm:Nat=>Value.int .i64 (m:Int))++[dw (m:Int)])):kU n W x s V (l++[m])/\Below n w W:=by
 have d:=h.size;have c:dB w (w.alloc X):=af.alloc ae X;have b:=h.below c;refine⟨⟨(a.cells 0 aR).trans b.c0,a.cell,(a.cells 2 aR).trans b.c2,λo=>(a.frozen o).trans (b.fr o),by simpa using a.own,Nat.lt_of_lt_of_le b.size a.size⟩,(c.mono aR).trans a.below⟩
theorem kU.ac7 (h:kU n w x m v l)(t:Nat):kU n (w.setCell (dA n 2) (dw t)) x t v l:=
 ⟨setOther _ _ h.c0 (.inr aW),setOther _ _ h.c1 (.inr aW),aC h.c2,λo=>by rw[World.frozen?_setCell];exact h.fr o,ownsRow_setCell_below h.row alT _,by simpa[World.setCell] using h.size⟩
theorem abm:(prog.info? 175).map (λi=>(i.zero,i.size,i.bytes))=some (some (.agg #[eB,dE,dw 0]),3,48):=bR
def oz (x:dN)(v:Value)(s:Nat):List Value:=[eO x,v,dw s]
theorem VL (w:World)(x:dN)(a:eu)(m b s:Nat)(c:TypeId)(n:Nat)(d:n=w.heap.size):∀j u,(oz x (.slice a m b) s)[j]?=some u->((w.alloc (.cells #[dD x,.slice a m b,dw s] c)).drew).cell? (((dA n 0):Addr).add j)=some u:=by
 subst d;intro j u h;show(w.alloc _).cell? _=_
 match j,h with
 | 0,h=>simp[oz,eO,Addr.add]at h ⊢;exact h
 | 1,h=>simp[oz,Addr.add]at h ⊢;exact h
 | 2,h=>simp[oz,Addr.add]at h ⊢;exact h
 | n+3,h=>simp[oz]at h
theorem ac0 (x:dN)(b:eu)(m c s:Nat):∀u∈oz x (.slice b m c) s,u.oneCell'=true:=by
 intro u a;simp only[oz,List.mem_cons,List.not_mem_nil,or_false]at a;rcases a with rfl|rfl|rfl<;>rfl
theorem kU.ints (h:kU n w x m v l){own:Own}(c:∀b,n<=b->own b=0):fG w own v l:=by
 have d:=yj (xs:=l.map (λa:Nat=>[Value.int .i64 (a:Int)])) (n:=l.length) (v:=v) (w:=w) (base:=n+1) (e:=3) (sz:=1) (by rw[Fj l];exact h.row) aW (by intro x e;obtain⟨a,_,rfl⟩:=List.mem_map.1 e;rfl);obtain⟨f,j,k,o,p,q⟩:=d;refine⟨f,j,k,o,p,λi hi=>?_⟩;obtain⟨g,r,t,s⟩:=q i hi;refine⟨g,r,c g aR,λu=>?_⟩;have:=s di 0 aR (dw (l[i]:Int)) aW;simpa using this
structure acB (w:World)(B g j:Nat)(x:dN)(il:Bool)(q:Nat)(ao:eu)(m cap:Nat):Prop where
 all:∀W,Below B w W->W.cell? (dA g (j*4))=some (dD x)/\W.cell? (dA g (j*4+1))=some (.bool il)/\W.cell? (dA g (j*4+2))=some (.slice ao m cap)/\W.cell? (dA g (j*4+3))=some (dw q)
theorem Hm {P:Nat->Prop}(b:lU w m (k*4) D)(a:jy w P n D Y):acB w w.heap.size m k Y.text Y.isList Y.pos D.ao D.m D.cap:=by
 have c:=aj b.x;refine⟨λW d=>?_⟩;have h:=b.block (d.block m c);rw[<-a.text,<-a.isL,<-a.pos];exact⟨h.x,h.b,h.k,h.p⟩
theorem QL (g A:Nat)(own:Own)(S:Doc.dO)(p:Nat)(b:List Doc.Tr)(n:Tc)(w:World)(hS:ed w own A g S)(hfr:eD own w)(hk:A≠0)(hw:Doc.iq S)(ht:jy w (λK=>own K=0) 13 n (.list p b))(hok:Doc.oks b)(hwd:Doc.fE b<=800) :
 dH 138 #[dK g 0,.agg #[dD n.x,.bool n.bb,.slice n.ao n.m n.cap,dw n.p]] w λh X=>lI w X own A g S (Doc.declare S p b) h:=by
 have hR:=gU;obtain⟨i0,hi,hz0,hz1,hz2⟩:=info_parts nk;obtain⟨i1,hiS,ah9,ah8,ah7⟩:=info_parts abm;obtain⟨ao,cap,rfl,hc1,hc2,Y⟩:=ht.kids;simp only;have v:dB w (w.alloc (.cells #[eB,fu,.slice ao b.length cap,dw p] 138)):=ai;have L:=dn v;have HS:=dn hS;have nV:=dn hfr;have o:Hid (∀h r W,dB w W->lI w W own A g S (.error (h,r)) (dF (dM #[dw (h:Nat),dw (r:Nat)]))):=λh r W i=>lI.err (Fr.of_below A hfr i) (hS.below i)
 by_cases Z:b.length=4
 ·have o4:((b.length:Int) !=4)=false:=by rw[Z];rfl
  have hl1:(1:Int)<(b.length:Int):=aR;have hl2:(2:Int)<(b.length:Int):=aR;have hl3:(3:Int)<(b.length:Int):=aR;obtain⟨K,rfl,hg0,xA,hk1,ht1⟩:=Y 1 aR;obtain⟨g',q,_,yN,hk2,ht2⟩:=Y 2 aR;injection q with q
  injection q with q;subst q;obtain⟨g',q,_,xz,hk3,ht3⟩:=Y 3 aR;injection q with q;injection q with q;subst q;have HD:Hid (Doc.declare S p b=Doc.mW S p b[1] b[2] b[3]):=Doc.uw Z;have HK1:=dn (Hm hk1 ht1);have FW:=dn (Hm hk2 ht2);have HK3:=dn (Hm hk3 ht3);have HT2:=dn ht2;have HT3:=dn (λW (i:dB w W)=>hk3.block (i.block K (aj hk3.x)));have RH:Hid (xz.x=b[3].text):=ht3.text;have hok1:=Doc.mG hok b[1] (List.getElem_mem aR);have ahK:=Nat.le_trans (Doc.kH b[1] (List.getElem_mem aR)) hwd;have hwd2:=Nat.le_trans (Doc.kH b[2] (List.getElem_mem aR)) hwd;have ahN:=Doc.GU b[1];generalize Doc.declare S p b=R at *;generalize b[1]=f at *;generalize b[2]=k2 at *;generalize b[3]=B at *;obtain⟨a0,a1,a2,a3⟩:=HK1.o.all _ v;obtain⟨b0,b1,b2,b3⟩:=FW.o.all _ v;obtain⟨d0,d1,d2,d3⟩:=HK3.o.all _ v;simp only[Nat.one_mul,Nat.reduceMul,Nat.reduceAdd]at a0 a1 a2 a3 b0 b1 b2 b3 d0 d1 d2 d3
  have hgn:K≠w.heap.size:=by
   have:=aj hk1.x;simp only at this;exact aR
  clear Y hk1 hk2 hk3 ht1 ht2 ht3 hok hwd ht hS hfr Z hg0;cases hi1:f.isList
  ·rw[hi1]at a1;cases hi2:k2.isList
   ·rw[hi2]at b1;have e:Hid (R=.error (4,k2.pos)):=by show _=_;rw[HD.o];simp[Doc.mW,hi1,hi2]
    clear hi1 hi2 v;go_enter func138,ntmps138;exact apK
   ·rw[hi2]at b1
    obtain⟨q2,a,rfl⟩:∃q2 a,k2=.list q2 a:=by
     cases k2 with
     | word r C=>cases hi2
     | list r a=>exact⟨r,a,rfl⟩
    obtain⟨KS,cap2,rfl,e1,e2,W9⟩:=HT2.o.kids;simp only at b2
    have HJ:Hid (∀j (hj:j<a.length),∃D s,KS=some (dA D 0)/\acB w w.heap.size D j a[j].text a[j].isList a[j].pos s.ao s.m s.cap/\(∀W,dB w W->lU W D (j*4) s)/\s.x=a[j].text):=λj hj=>by
     obtain⟨D,M,_,s,hjc,hjt⟩:=W9 j hj;exact⟨D,s,M,Hm hjc hjt,λW i=>hjc.block (i.block D (aj hjc.x)),hjt.text⟩
    have hjl:a.length<=1000:=by
     have:∀b:List Doc.Tr,b.length<=Doc.fE b:=by
      intro b
      induction b with
      | nil=>simp
      | cons bg b ih=>simp only[Doc.fE,List.length_cons];omega
     have:=this a;simp only[Doc.Tr.width]at hwd2;exact aR
    have HD2:Hid (R=match Doc.iA a with
     | some C=>.error (4,C)
     | none=>
      if B.isList=true then .error (4,B.pos)
      else if Doc.forbidden f.text=true then .error (5,f.pos)
      else if (Doc.gD S.syms f.text).isSome=true then .error (6,f.pos)
      else if 2<a.length then .error (7,q2)
      else match Doc.takes a with
       | .error C=>.error (7,C)
       | .ok l=>
        if Doc.gJ B.text=0 then .error (7,B.pos)
        else if S.syms.length=8 then .error (9,p)
        else .ok { S with syms:=S.syms++[⟨f.text,l,Doc.gJ B.text⟩] }):=by
     show _=_;rw[HD.o];unfold Doc.mW;rw[if_neg (by rw[hi1];simp),if_neg (by rw[hi2];simp)];rfl
    have ah5:f=.word f.pos f.text:=by
     cases f with
     | word r C=>rfl
     | list r qs=>cases hi1
    have hx1:0<f.text.length:=by
     cases f with
     | word r C=>
      simp only[Doc.Tr.ok]at hok1;exact List.length_pos_iff.2 hok1.1
     | list r qs=>cases hi1
    have aag:f.text.length<=1000:=aR;have HFB:=dn (λW=>Lu f.text W hx1 aR)
    have wT:Hid (∀W,dB w W->dH 190 #[dK g 0,dD f.text] W λh X=>h=dF (dw (placeOf (Doc.gD S.syms f.text)))/\X=W):=
     λW i=>Gw g S.syms S.terms f.text W (HS.o.below i).book
    clear hi1 hi2 W9 ah5 hok1 ahK hwd2 ahN;generalize f.text=k at *;generalize f.pos=p1 at *;generalize ak9:B.isList=il3 at *;generalize B.text=x3 at *;generalize B.pos=p3 at *;go_enter func138,ntmps138;go_wp2_with fail
    go_loop [7] (fun F=>∃j:Nat,F=dw j/\j<=a.length/\Doc.iA a=Doc.iA (a.drop j)) (fun F=>a.length-(intOf F).toNat)
    ·exact⟨0,rfl,aR,aW⟩
    case round=>
     obtain⟨j,rfl,hj,hfl⟩:=hrel;have xE:=dn hfl;clear hfl
     by_cases hlj:j<a.length
     ·obtain⟨D,s,rfl,N,_,_⟩:=HJ.o j hlj;obtain⟨m0,m1,m2,m3⟩:=N.all _ v;have ags:=dn (Doc.Bq hlj);cases hij:a[j].isList
      ·rw[hij]at m1;have jF:Hid (Doc.iA a=Doc.iA (a.drop (j+1))):=by show _=_;rw[xE.o,ags.o,if_neg (by rw[hij];simp)]
       clear hij N;go_wp2;go_round
       ·exact⟨j+1,bL,aR,jF.o⟩
       ·exact aph
      ·rw[hij]at m1
       have e:Hid (R=.error (4,a[j].pos)):=by
        show _=_;have t:Doc.iA a=some a[j].pos:=by rw[xE.o,ags.o,if_pos hij]
        rw[HD2.o,t]
       clear hij N;exact apK
     ·have hnone:Doc.iA a=none:=by rw[xE.o,List.drop_eq_nil_of_le aR];rfl
      have HD3:=HD2.o;rw[hnone]at HD3;have HD3:=dn HD3;clear hnone;cases il3
      ·have HD4:=HD3.o;simp only[Bool.false_eq_true,if_false]at HD4;have HD4:=dn HD4;go_wp2_with fail;refine(HFB.o _).dX λc hb1=>?_;have hb2:=L.o.trans (hb1.mono aW);have O:=dn hb2;have hsz1:=hb2.size;obtain⟨a0',a1',OJ,a3'⟩:=HK1.o.all _ hb2;obtain⟨b0',b1',b2',b3'⟩:=FW.o.all _ hb2;simp only[Nat.one_mul,Nat.reduceMul,Nat.reduceAdd]at a0' a1' OJ a3' b0' b1' b2' b3';have bp:=(hb1.cell (p:=dA w.heap.size 3) aW).trans (show _=some (dw p) by simp);have bk:=(hb1.cell (p:=dA w.heap.size 2) aW).trans (show _=some (dJ K b.length cap) by simp);clear a0 a1 a2 a3 b0 b1 b2 b3 d0 d1 d2 d3 hb1 hb2 v;generalize uO:Doc.forbidden k=fb at *;cases fb
       ·have HD5:=HD4.o;simp only[Bool.false_eq_true,if_false]at HD5;have HD5:=dn HD5;generalize Doc.gD S.syms k=fs at *;go_wp2_with fail;go_region_held3 (fun X=>X.cell? (dA K 4)=some (dD k)) (go_keep) (first|(go_at_call 190;refine(wT.o _ (by first|exact O.o|exact O.o.drew)).mono ?_;rintro h u ⟨rfl,rfl⟩));cases fs with
        | some sx=>
         have hps:placeOf (some sx)=(sx:Int):=rfl;have e:Hid (R=.error (6,p1)):=HD5.o;exact aqO
        | none=>
         rw[show placeOf none=(-1:Int) from rfl];have HD6:=HD5.o;simp only[Option.isSome_none,Bool.false_eq_true,if_false]at HD6;have HD6:=dn HD6
         by_cases hj2:2<a.length
         ·have e:Hid (R=.error (7,q2)):=by show _=_;rw[HD6.o,if_pos hj2]
          exact aqO
         ·have HD7:=HD6.o;rw[if_neg hj2]at HD7;have HD7:=dn HD7;have ai4:=dn ((kU.new c k 175).below (af.drew));have HB3:=dn ((O.o.alloc hsz1 (.cells #[dD k,dE,dw 0] 175)).drew);have uH:=dn (λn W=>Sw n W);have UZ:Hid (w.heap.size<c.heap.size):=by have:=aj bp;exact this
          have YI:Hid (∀W,dB c W->W.cell? (dA w.heap.size 3)=some (dw p)):=λW i=>(i.dL bp UZ.o);have aki:Hid (dB c ((c.alloc (.cells #[dD k,dE,dw 0] 175)).drew)):=ai.drew;go_wp2_with fail
          go_loopw [11] (fun F wr=>∃(j:Nat) (bq:Value) (l:List Nat),F=dw j/\j<=a.length/\l.length<=j/\kU c.heap.size wr k 0 bq l/\dB w wr/\dB c wr/\Doc.ko a j l) (fun F _=>a.length-(intOf F).toNat)
          ·exact⟨0,_,[],rfl,aR,aW,ai4.o,HB3.o,aki.o,Doc.ko.zero a⟩
          case round=>
           obtain⟨j2,bq,l,rfl,ak7,hll,hsb,m,aaB,htk⟩:=hrel;have Ph:=dn hsb;have jG:=dn m;have agA:=dn aaB;have uF:=dn htk;obtain⟨n0,n1,n2,n3⟩:=FW.o.all _ m;simp only[Nat.reduceMul,Nat.reduceAdd]at n0 n1 n2 n3;clear htk a0' a1' OJ a3' b0' b1' b2' b3' bp bk
           by_cases aar:j2<a.length
           ·obtain⟨D,s,rfl,N,htc,hjx⟩:=HJ.o j2 aar;have t0:=(htc _ m).x;have t1:=(htc _ m).b;have t2:=(htc _ m).k;have t3:=(htc _ m).p;have x:=uH.o s wr;rw[hjx]at x;have x:=dn x;have HKJ:=dn N;have jF:=dn (λhs=>uF.o.next aar hs);have ED:=dn (λhs=>uF.o.bad aar hs);obtain⟨P,Q,rfl,hv1,hv2⟩:=ik hsb.row;clear N htc hsb m aaB;generalize Doc.gJ a[j2].text=d at *;generalize a[j2].pos=pj at *;go_wp2_with fail;refine x.o.dX λu y=>?_;have hbw2:=jG.o.dW y;have qJ:=dn hbw2;have vP:=dn (agA.o.dW y);have z:=dn (Ph.o.below y);obtain⟨_,_,k2c,_⟩:=FW.o.all _ hbw2;simp only[Nat.reduceMul,Nat.reduceAdd]at k2c;obtain⟨_,_,_,m3'⟩:=HKJ.o.all _ hbw2;clear y hbw2 n0 n1 n2 n3 t0 t1 t2 t3
            by_cases NI:d=2\/d=3
            ·have Ad:=dn (jF.o NI)
             have hcs:((d:Int) !=2)=false\/(((d:Int) !=2)=true/\((d:Int) !=3)=false):=by
              rcases NI with t|t
              ·exact .inl (by rw[t];rfl)
              ·exact .inr ⟨by rw[t];rfl,by rw[t];rfl⟩
             have x1c:=z.o.c1;have xfr:=z.o.fr;have mh:=dn z.o.row;have hsz2:=z.o.size;have aks:l.length<=1000:=aR;clear NI;rcases hcs with ho|⟨ho,ho3⟩
             all_goals
              go_wp2_with (at_builtin;refine dU rfl (.tmp 141) (.tmp 143) 57 rfl (c.heap.size+1) 3 i0 (dw 0) 1 8 underlying57 hi hz0 hz1 hz2 rfl aY (.slice P l.length Q) l.length (l.map (λbg:Nat=>Value.int .i64 (bg:Int))) rfl an7 (dA u.heap.size 0) 1 [dw (d:Int)] rfl rfl bP bX bz aR aX ?_;intro G T w3 hown' E hg1 M;have q1:w3.cell? (dA c.heap.size 1)=some (.slice P l.length Q):=((eY E (a:=dA c.heap.size 1) aX (λh=>aP ((mh.o.lt c.heap.size h.symm).1))).trans (dV _ _ (dA c.heap.size 1) aX)).trans x1c;have q2':w3.frozen? (dA c.heap.size 1)=false:=((fo E (a:=dA c.heap.size 1) aX (λh=>aP ((mh.o.lt c.heap.size h.symm).1))).trans (eF _ _ (dA c.heap.size 1) aX)).trans (xfr 1));have hap:=gK (eb:=c.heap.size) (f:=1) aR (mh.o.alloc _) aX ((dV u _ (dA c.heap.size 1) hsz2).trans x1c) hown' E M;have PT:=dn (z.o.app _ hap);clear hap hown' E hg1 M;go_wp2;go_roundw
              ·exact⟨j2+1,_,l++[d],bL,aR,aX,PT.o.1,qJ.o.trans (PT.o.2.mono (aP UZ.o)),vP.o.trans PT.o.2,Ad.o⟩
              ·exact aph
            ·have o2:((d:Int) !=2)=true:=bJ;have o3:((d:Int) !=3)=true:=bJ;have e:Hid (R=.error (7,pj)):=by show _=_;rw[HD7.o,ED.o NI]
             clear NI;go_wp2_with fail;go_quiet (fail);go_wp2;go_ret2;rw[e.o];exact o.o _ _ _ (below_drewN qJ.o _)
           ·have Yo:=uF.o.end aR;have U:=HD7.o;rw[Yo]at U;have U:=dn U;have t0:=(HT3.o _ m).x;have t1:=(HT3.o _ m).b;have t2:=(HT3.o _ m).k;have t3:=(HT3.o _ m).p;simp only[Nat.reduceMul,Nat.reduceAdd]at t0 t1 t2 t3;have x:=uH.o xz wr;have hx3:=RH.o;rw[hx3]at x t0;have x:=dn x;obtain⟨P,Q,rfl,hv1,hv2⟩:=ik hsb.row;clear Yo hsb m aaB;generalize Doc.gJ x3=d at *;go_wp2_with fail;refine x.o.dX λu y=>?_;have z:=dn (Ph.o.below y);have U1:=dn (z.o.ac7 d);have hb5:=(jG.o.dW y).setCell (p:=dA c.heap.size 2) (by have:=UZ.o;simp only;omega) (dw d);have hb6:=(agA.o.dW y).setCell (p:=dA c.heap.size 2) aW (dw d);have BI:=dn hb5;have bp2:=YI.o _ hb6;obtain⟨_,_,_,d3⟩:=HK3.o.all _ hb5;simp only[Nat.reduceMul,Nat.reduceAdd]at d3;have u2:=z.o.c2;have ufr:=z.o.fr;have x0:=U1.o.c0;have x1':=U1.o.c1;have x2:=U1.o.c2;have hst:=HS.o.below hb5;obtain⟨H,I,_,_,_,_,_,_,f0,_,_,_,g0,g0',_⟩:=hst.fields;have vC:=hst.fr 0;have hltW:=hst.lt;have HST:=dn hst;clear y hb5 hb6 n0 n1 n2 n3 t0 t1 t2 t3 hst
            by_cases J:d=0
            ·have o0:((d:Int)==0)=true:=by rw[J];rfl
             have e:Hid (R=.error (7,p3)):=by show _=_;rw[U.o,if_pos J]
             clear J;exact aqW
            ·have o0:((d:Int)==0)=false:=ak aR
             by_cases h8:S.syms.length=8
             ·have o8:((S.syms.length:Int)==8)=true:=by rw[h8];rfl
              have e:Hid (R=.error (9,p)):=by show _=_;rw[U.o,if_neg J,if_pos h8]
              clear J h8;exact aqW
             ·have o8:((S.syms.length:Int)==8)=false:=ak aR;have e:Hid (R=.ok { S with syms:=S.syms++[⟨k,l,d⟩] }):=by show _=_;rw[U.o,if_neg J,if_neg h8]
              clear J h8;obtain⟨vS,V,l2⟩:=HST.o.syms;have hvS:vS=.slice H S.syms.length I:=by rw[f0]at V;injection V with V;exact V.symm
              subst hvS;have I8:=dn V;have HL2:=dn l2
              have hne:(Value.slice H S.syms.length I).ownBlock≠some g:=by
               intro t;obtain⟨_,_,c1,hc1⟩:=l2.type g t;obtain⟨c2,hc2⟩:=HST.o.obj;exact iH hc1 hc2 aY rfl
              have mP:=dn hne;obtain⟨xs,y1,y2,y3,y4⟩:=l2;have uE:=dn y1;have HX:=dn (show iw (yE (u.setCell (dA c.heap.size 2) (dw d)) own) xs S.syms/\(∀C∈xs,C.length=3) from⟨y2,y3⟩);have qB:=hw.book.few;have HFW:=dn (nV.o.below BI.o);clear y1 y2 y3 y4 hne V;have f0b:((u.setCell (dA c.heap.size 2) (dw d)).alloc (.cells #[dD k,.slice P l.length Q,dw d] 175)).cell? (dA g 0)=some (.slice H S.syms.length I):=(dV _ _ (dA g 0) hltW).trans f0;go_upto_region 36 with fail
              go_cut [] (fun wx=>∃G T own',ky (u.setCell (dA c.heap.size 2) (dw d)) wx own own' A g 0 (.slice H S.syms.length I) (dJ G (S.syms.length+1) T)/\wx.ownsRow 0 175 3 (dJ G (S.syms.length+1) T) (S.syms.length+1) (xs.flatten++oz k (.slice P l.length Q) d)/\own' G=A)
              case first=>
               go_region_law (refine jC rfl (.tmp 172) (.tmp 174) 77 rfl 0 175 i1 (.agg #[eB,dE,dw 0]) 3 48 underlying77 hiS ah9 ah8 ah7 rfl aY (.slice H S.syms.length I) S.syms.length xs.flatten cO amO (dA u.heap.size 0) 1 (oz k (.slice P l.length Q) d) cO rfl (by exact VL _ k _ _ _ _ _ _ amn) (ac0 _ _ _ _ _) bz aR aW ?_;intro G T w5 hown' E hg1 M;have z1:w5.cell? (dA g 0)=some (.slice H S.syms.length I):=((eY E (a:=dA g 0) (by show g<_;have:=hltW;simp at this ⊢;omega) (fun h=>mP.o h.symm)).trans (dV _ _ (dA g 0) hltW)).trans f0;have z2:w5.frozen? (dA g 0)=false:=((fo E (a:=dA g 0) (by show g<_;have:=hltW;simp at this ⊢;omega) (fun h=>mP.o h.symm)).trans (eF _ _ (dA g 0) hltW)).trans vC)
               all_goals
                have hap:=qF (n:=S.syms.length+1) HL2.o HFW.o HST.o.mine HST.o.lt mP.o ((ai).drew) I8.o hown' E M;go_wp2;go_meet
                ·exact⟨G,T,_,hap.1,hap.2.1,amQ⟩
              case rest=>
               obtain⟨G,T,own',xc,hown2,uk⟩:=hcut;have lq:=dn xc;have HOWN:=dn hown2;have xD:=dn uk;clear xc hown2 uk f0 f0b vC x0 x1' x2 bp2 d3 u2 ufr;go_wp2;go_ret2;rw[e.o];refine⟨own',(Fr.of_below A nV.o BI.o).trans lq.o.fr,rfl,HST.o.vg I8.o lq.o hk ?_⟩;refine eU.snoc (w:=(u.setCell (dA c.heap.size 2) (dw d))) (C:=yE (u.setCell (dA c.heap.size 2) (dw d)) own) (v:=.slice H S.syms.length I) ⟨uE.o,HX.o.1,HX.o.2⟩ HOWN.o (λn bg t=>mD _ _ own own' (λbn i h0=>⟨lq.o.fr.block bn i aR,by rw[lq.o.fr.ext bn i,h0]⟩) n bg t) ⟨_,rfl,?_⟩ rfl xD.o;exact(U1.o.ints (own:=own) (λbn i=>nV.o bn (aP UZ.o))).fr lq.o.fr hk
       ·have e:Hid (R=.error (5,p1)):=by show _=_;rw[HD4.o];rfl
        go_wp2_with fail;go_quiet (fail);go_wp2;go_ret2;rw[e.o];exact o.o _ _ _ (below_drewN O.o _)
      ·have e:Hid (R=.error (4,p3)):=by show _=_;rw[HD3.o];rfl
       exact apK
  ·rw[hi1]at a1;have e:Hid (R=.error (4,f.pos)):=by show _=_;rw[HD.o];simp[Doc.mW,hi1]
   clear hi1 v;go_enter func138,ntmps138;exact apK
 ·have o4:((b.length:Int) !=4)=true:=bJ;have e:Hid (Doc.declare S p b=.error (4,p)):=Doc.FD Z;generalize Doc.declare S p b=R at *;clear Z v hS hfr Y;go_enter func138,ntmps138;exact apK
def fU.en (x:fU):Doc.En:=⟨x.sym,x.other,x.args,x.val⟩
def fZ (L:List fU):List Doc.En:=L.map fU.en
theorem Ig {b:Type}{p:b->Bool}{L:List b}{k:Nat}{x:b}(h:∀y∈L.take k,p y=false)(a:L[k]?=some x)(c:p x=true):L.find? p=some x:=by
 induction L generalizing k with
 | nil=>simp at a
 | cons y L d=>
  cases k with
  | zero=>simp at a;subst a;simp[c]
  | succ k=>
   have e:=h y aW;rw[List.find?_cons,e];exact d (k:=k) (λz f=>h z (by rw[List.take_succ_cons];exact List.mem_cons_of_mem _ f)) amr
def rM (s:Nat)(vs:List (dN))(x:fU):Bool:=x.sym==(s:Int)&&!x.other&&x.args==vs
def uN (s:Nat)(x:fU):Bool:=x.sym==(s:Int)&&x.other
theorem look_eq {a:List (dN)}{x:fU}(h:∀y∈c.take m,rM n a y=false)(d:c[m]?=some x)(e:rM n a x=true):Doc.look (fZ c) n a=x.val:=by
 unfold Doc.look fZ
 rw[Ig (k:=m) (x:=x.en) (λy b=>by
  rw[<-List.map_take]at b;obtain⟨z,f,rfl⟩:=List.mem_map.1 b;exact h z f) (by simp[d]) e]
 rfl
theorem Rb {a:List (dN)}(h:∀y∈c,rM n a y=false):(fZ c).find? (λe=>e.sym==(n:Int)&&!e.other&&e.args==a)=none:=by
 rw[List.find?_eq_none];intro y b;obtain⟨z,d,rfl⟩:=List.mem_map.1 b;have:=h z d;rw[Bool.not_eq_true];exact this
theorem Re {a:List (dN)}{x:fU}(d:∀y∈c,rM n a y=false)(h:∀y∈c.take m,uN n y=false)(e:c[m]?=some x)(f:uN n x=true):Doc.look (fZ c) n a=x.val:=by
 unfold Doc.look;rw[Rb d];simp only;unfold fZ
 rw[Ig (k:=m) (x:=x.en) (λy b=>by
  rw[<-List.map_take]at b;obtain⟨z,g,rfl⟩:=List.mem_map.1 b;exact h z g) anm f]
 rfl
theorem Rf {a:List (dN)}(b:∀y∈c,rM n a y=false)(h:∀y∈c,uN n y=false):Doc.look (fZ c) n a=[48]:=by
 unfold Doc.look;rw[Rb b]
 have:(fZ c).find? (λe=>e.sym==(n:Int)&&e.other)=none:=by
  rw[List.find?_eq_none];intro y d;obtain⟨z,f,rfl⟩:=List.mem_map.1 d;have:=h z f;rw[Bool.not_eq_true];exact this
 simp only[this]
theorem Z0 (L:List fU)(s:Nat)(c:List (dN)):Doc.look (fZ L) s c=[48]\/∃x∈L,Doc.look (fZ L) s c=x.val:=by
 unfold Doc.look;split
 ·exact aqF
 ·split
  ·exact aqF
  ·exact .inl rfl
theorem BP {p:fU->Bool}{x:fU}(h:∀y∈c.take n,p y=false)(b:c[n]?=some x)(d:p x=false):∀y∈c.take (n+1),p y=false:=λy a=>by
 rw[List.take_add_one,b]at a;rcases List.mem_append.1 a with a|a
 ·exact h y a
 ·have:y=x:=amr;subst this;exact d
theorem Ri {b:List Doc.Sym}{s:Doc.Sym}(c:b[n]?=some s)(d:Bool)(a:List (dN))(e:dN) :
 Doc.kF b ⟨(n:Int),d,a,e⟩=(Doc.jA e s.sort&&(if d then a.length==0 else a.length==s.args.length)&&Doc.sZ a s.args):=by
 have f:=(aG c).1;unfold Doc.kF;simp only[Int.toNat_natCast,Doc.iW,Doc.iD,c];rw[decide_eq_true (show(0:Int)<=(n:Int) by omega),decide_eq_true (show(n:Int)<(b.length:Int) by omega)];rfl
theorem Fs {a:List Doc.Str}(b:a.length<=l.length)(h:∀(i:Nat) (t:Doc.Str) (s:Nat),a[i]?=some t->l[i]?=some s->Doc.jA t s=true):Doc.sZ a l=true:=by
 induction a generalizing l with
 | nil=>cases l<;>rfl
 | cons t a c=>
  cases l with
  | nil=>simp at b
  | cons s l=>
   simp only[Doc.sZ,Bool.and_eq_true];exact⟨h 0 t s rfl rfl,c amJ (λi d e f g=>h (i+1) d e ana (by simpa using g))⟩
structure CR (wx:World)(B C:Nat)(sy:Int)(ot:Bool)(aE:eu)(nE cE:Nat)(va:dN)(aA:eu)(nA cA:Nat)(so:Nat):Prop where
 e0:wx.cell? (dA B 0)=some (dw sy)
 e1:wx.cell? (dA B 1)=some (.bool ot)
 e2:wx.cell? (dA B 2)=some (.slice aE nE cE)
 e3:wx.cell? (dA B 3)=some (dD va)
 s1:wx.cell? (dA C 1)=some (.slice aA nA cA)
 s2:wx.cell? (dA C 2)=some (dw so)
theorem CR.below {b:Bool}{c:Nat}(h:CR w n m z b a k i x d j N c)(f:dB w W):CR W n m z b a k i x d j N c:=
 have t:∀{p:Addr} {v:Value},w.cell? p=some v->W.cell? p=some v:=λe=>(f.cell (aj e)).trans e
 ⟨t h.e0,t h.e1,t h.e2,t h.e3,t h.s1,t h.s2⟩
def kL (S:Doc.dO)(L:List fU)(e:Ending):Prop:=e=dF (dM #[.bool (Doc.holds S (fZ L)).1,dw ((Doc.holds S (fZ L)).2:Nat)])
theorem kL.law {S:Doc.dO}(h:Doc.lawful S.syms (fZ c)=false):kL S c (dF (dM #[dP,dw 12])):=by
 unfold kL Doc.holds;exact aoK
theorem kL.yes {S:Doc.dO}(h:Doc.lawful S.syms (fZ c)=true)(b:Bool)(a:S.held.all (λh=>Doc.value (fZ c) S.terms h==1)=b):kL S c (dF (dM #[.bool b,dw 0])):=by
 unfold kL Doc.holds;rw[h,if_pos rfl,<-a];rfl
theorem mU (h:eX w (.slice a n m) l):∀i z,l[i]?=some z->∃g,a=some (dA g 0)/\w.cell? (dA g i)=some (dw (z:Nat)):=by
 exact apE
theorem iy (h:eX w (.slice a n m) l):l.length=n/\n<=m/\m<=2 ^ 63-1:=by
 obtain⟨g,i,e,b,c,_⟩:=h;injection e with _ d f
 subst d;subst f;exact⟨rfl,b,c⟩
theorem WM (h:eX w (.slice a n m) l)(o:k<=n):eX w (.slice a k m) (l.take k):=by
 obtain⟨p,q,c⟩:=iy h;obtain⟨r,s,e,_,_,d⟩:=h;injection e with e _ _
 subst e;have b:(l.take k).length=k:=amg;refine⟨a,m,by rw[b],by rw[b];omega,c,λi hi=>?_⟩;rw[b]at hi;obtain⟨g,f,j⟩:=d i aR;exact⟨g,f,λt=>by rw[j aR,List.getElem_take]⟩
theorem Z4 (w:World):eX w (dE) []:=⟨none,0,rfl,aW,bz,λi hi=>by simp at hi⟩
def gL (w:World)(v:Value)(z:Int):Prop:=∃(b:Bool) (a:eu) (n c:Nat) (ls:List Nat),v=.agg #[.bool b,.slice a n c]/\eX w (.slice a n c) ls/\dZ.Nm ls/\z=dZ.int b ls/\(b=true->ls≠[])
theorem gL.below (h:gL w v z)(a:dB w W):gL W v z:=by
 obtain⟨b,c,n,d,e,f,g,i⟩:=h;exact⟨b,c,n,d,e,f,g.below a,i⟩
theorem gL.zero (w:World):gL w (.agg #[dP,dE]) 0:=⟨false,none,0,0,[],rfl,Z4 w,dZ.Nm.nil,rfl,aW⟩
def qH (w:World)(z:Int)(e:Ending):Prop:=∃v,e=dF v/\gL w v z
theorem xN (e:eu)(n f i:Nat)(b:List Nat)(w:World)(h:eX w (.slice e n f) b) :
 dH 286 #[.slice e n f,dw i] w λj k=>j=dF (dw (b.getD i 0:Nat))/\k=w:=by
 obtain⟨g,m,o⟩:=iy h;obtain⟨R,a⟩:=aK (b.getD i 0);rw[a]
 by_cases hi:i<n
 ·obtain⟨x,c⟩:∃x,b[i]?=some x:=⟨_,aF aR⟩;obtain⟨p,rfl,q⟩:=mU h i x c;have d:Hid (R=x):=a.symm.trans (Doc.iI c);have l:¬((n:Int)<=(i:Int)):=aR;clear c h g a;go_enter func286,ntmps286;go_wp2;go_ret;exact⟨fM (by rw[d.o]),rfl⟩
 ·have d:Hid (R=0):=by show _=_;rw[<-a,List.getD_eq_getElem?_getD,List.getElem?_eq_none aR];rfl
  have l:(n:Int)<=(i:Int):=aR;clear h g a;go_enter func286,ntmps286;go_wp2;go_ret;exact⟨fM aow,rfl⟩
def mi (x y:Int)(e:Ending):Prop:=∃r:Int,e=dF (dw r)/\(r<0↔x<y)/\(r=0↔x=y)/\-9223372036854775808<=r/\r<=9223372036854775807
theorem mi.lt {r:Int}(h:z<Z)(a:r<0)(b:-9223372036854775808<=r):mi z Z (dF (dw r)):=⟨r,rfl,⟨λ_=>h,λ_=>a⟩,⟨λe=>aR,λe=>aR⟩,b,aR⟩
theorem mi.gt {r:Int}(h:Z<z)(b:0<r)(a:r<=9223372036854775807):mi z Z (dF (dw r)):=⟨r,rfl,⟨λe=>aR,λe=>aR⟩,⟨λe=>aR,λe=>aR⟩,aR,a⟩
theorem mi.eq (h:z=Z):mi z Z (dF (dw 0)):=⟨0,rfl,⟨λe=>aR,λe=>aR⟩,⟨λ_=>h,λ_=>rfl⟩,aR,aR⟩
theorem sJ (E F:eu)(n m G H:Nat)(a b:List Nat)(w:World)(k:eX w (.slice E n G) a)(l:eX w (.slice F m H) b)(f:dZ.Nm a)(g:dZ.Nm b) :
 dH 268 #[.slice E n G,.slice F m H] w λL M=>mi (dZ.val a:Nat) (dZ.val b:Nat) L/\dB w M:=by
 obtain⟨s,U,V⟩:=iy k;obtain⟨t,X,Y⟩:=iy l
 by_cases u:n=m
 ·subst u;have N:=dn (λW (h:dB w W)=>mU (k.below h));have O:=dn (λW (h:dB w W)=>mU (l.below h));have P:=dn f;have Q:=dn g;have v:=dn s;have z:=dn t;clear k l f g s t;go_enter func268,ntmps268;go_wp2_with fail
  go_loopw [5] (fun i wr=>∃j:Nat,i=dw ((j:Int)-1)/\j<=n/\dB w wr/\a.drop j=b.drop j) (fun i _=>(intOf i+1).toNat)
  ·exact⟨n,bL,aR,af,by rw[List.drop_eq_nil_of_le (by rw[v.o];omega),List.drop_eq_nil_of_le aoP]⟩
  case round=>
   obtain⟨j,rfl,Z,I,J⟩:=hrel;have c:=dn I;have o:=dn J;clear I J
   by_cases R:j=0
   ·subst R;have S:Hid (mi (dZ.val a:Nat) (dZ.val b:Nat) (dF (dw 0))):=.eq (by have:=o.o;simp only[List.drop_zero]at this;rw[this]);go_wp2;go_ret;exact⟨S.o,c.o⟩
   ·obtain⟨i,rfl⟩:∃i,j=i+1:=⟨j-1,aR⟩;obtain⟨x,A⟩:∃x,a[i]?=some x:=⟨_,aF (by rw[v.o];omega)⟩;obtain⟨y,B⟩:∃y,b[i]?=some y:=⟨_,aF aoP⟩;obtain⟨bg,rfl,r1⟩:=N.o wr c.o i x A;obtain⟨g2,rfl,r2⟩:=O.o wr c.o i y B;have K:((i+1:Nat):Int)-1=(i:Int):=aR;rw[K];have C:Hid (a.getD i 0=x):=Doc.iI A;have D:Hid (b.getD i 0=y):=Doc.iI B;have hin:(i:Int)<(n:Int):=aR;have p:Hid (x<y->mi (dZ.val a:Nat) (dZ.val b:Nat) (dF (dw (-1)))):=λh=>.lt (aP (dZ.Me P.o.ok i o.o apb)) aR aR;have q:Hid (y<x->mi (dZ.val a:Nat) (dZ.val b:Nat) (dF (dw 1))):=λh=>.gt (aP (dZ.Me Q.o.ok i o.o.symm apb)) aR aR;have r:Hid (x=y->a.drop i=b.drop i):=λh=>dZ.Xv (by rw[v.o];omega) aoP o.o apb;clear A B K;rcases Nat.lt_trichotomy x y with e|e|e
    ·have d:=dn (p.o e);have T:decide ((x:Int)<(y:Int))=true:=decide_eq_true aR;clear p q r;go_wp2_with (go_quiet (fail));go_ret;exact⟨d.o,below_drewN c.o _⟩
    ·have d:=dn (r.o e);subst e;clear p q r;go_wp2_with (go_quiet (fail));go_roundw
     ·exact⟨i,bL,aR,anY,d.o⟩
     ·simp[intOf]
    ·have d:=dn (q.o e);have T:decide ((x:Int)<(y:Int))=false:=decide_eq_false aR;have t2:decide ((y:Int)<(x:Int))=true:=decide_eq_true aR;clear p q r;go_wp2_with (go_quiet (fail));go_ret;exact⟨d.o,anY⟩
 ·have tn:((n:Int) !=(m:Int))=true:=bJ
  have d:Hid (mi (dZ.val a:Nat) (dZ.val b:Nat) (dF (dw ((n:Int)-(m:Int))))):=by
   rcases Nat.lt_or_gt_of_ne u with h|h
   ·exact .lt (aP (f.Hd g aR)) aR aR
   ·exact .gt (aP (g.Hd f aR)) aR aR
  have hw1:IntKind.i64.wrap ((n:Int)-(m:Int))=(n:Int)-(m:Int):=bV;clear k l f g s t u;go_enter func268,ntmps268;go_wp2;go_ret;exact⟨d.o,af⟩
theorem ads (h:mi (n:Int) (m:Int) (dF (dw z))):mi (-(m:Int)) (-(n:Int)) (dF (dw z)):=by
 obtain⟨d,e,a,b,c⟩:=h;injection e with e
 injection e with _ e;subst e;exact⟨z,rfl,⟨λh=>aP (a.1 h),λh=>a.2 aR⟩,⟨λh=>aP (b.1 h),λh=>b.2 aR⟩,c⟩
theorem AX (z A:Value)(B C:Int)(w:World)(F:gL w z B)(G:gL w A C) :
 dH 226 #[z,A] w λt H=>mi B C t/\dB w H:=by
 obtain⟨e,f,g,i,a,rfl,u,q,rfl,D⟩:=F;obtain⟨j,k,l,m,b,rfl,v,s,rfl,E⟩:=G;have c:Hid (dB w ((w.alloc (.cells #[.bool e,.slice f g i] 229)).alloc (.cells #[.bool j,.slice k l m] 229))):=ai.alloc aW _;obtain⟨W,n⟩:∃W,(w.alloc (.cells #[.bool e,.slice f g i] 229)).alloc (.cells #[.bool j,.slice k l m] 229)=W:=⟨_,rfl⟩;have N:W.dQ w.heap.size 0=some (.bool e):=by rw[<-n];simp
 have O:W.dQ w.heap.size 1=some (.slice f g i):=by rw[<-n];simp
 have P:W.dQ (w.heap.size+1) 0=some (.bool j):=by rw[<-n];simp
 have Q:W.dQ (w.heap.size+1) 1=some (.slice k l m):=by rw[<-n];simp
 rw[n]at c;have I:=dn (sJ f k g l i m a b W (u.below c.o) (v.below c.o) q s);have J:=dn (sJ k f l g m i b a W (v.below c.o) (u.below c.o) s q);have K:Hid (e=true->0<dZ.val a):=λh=>q.pos (D h);have L:Hid (j=true->0<dZ.val b):=λh=>s.pos (E h);clear u v q s D E;cases e<;>cases j
 ·have d:Hid (∀r,mi (dZ.val a:Nat) (dZ.val b:Nat) (dF (dw r))->mi (dZ.int false a) (dZ.int false b) (dF (dw r))):=λr h=>h;go_enter func226,ntmps226;go_wp2_with fail;refine I.o.mono ?_;exact aqk
 ·have d:Hid (mi (dZ.int false a) (dZ.int true b) (dF (dw 1))):=.gt (by have:=L.o rfl;unfold dZ.int;rw[if_pos rfl,if_neg aW];omega) aR aR;go_enter func226,ntmps226;go_wp2;go_ret;exact⟨d.o,c.o⟩
 ·have d:Hid (mi (dZ.int true a) (dZ.int false b) (dF (dw (-1)))):=.lt (by have:=K.o rfl;unfold dZ.int;rw[if_pos rfl,if_neg aW];omega) aR aR;go_enter func226,ntmps226;go_wp2;go_ret;exact⟨d.o,c.o⟩
 ·have d:Hid (∀r,mi (dZ.val b:Nat) (dZ.val a:Nat) (dF (dw r))->mi (dZ.int true a) (dZ.int true b) (dF (dw r))):=λr h=>ads h;go_enter func226,ntmps226;go_wp2_with fail;refine J.o.mono ?_;exact aqk
theorem jV {u0 u1:Value}(j:w.cell? (dA n 0)=some u0)(k:w.cell? (dA n 1)=some u1)(f g:Value) :
 ∃a,(w.setCell (dA n 0) f).setCell (dA n 1) g=a/\a.cell? (dA n 0)=some f/\a.cell? (dA n 1)=some g/\(∀d K,Below K d w->K<=n->Below K d a)/\(∀b,b≠n->a.heap[b]?=w.heap[b]?):=by
 have h:∀(e b:Nat),e≠b->((dA n e):Addr)≠(dA n b):=λe b l m=>l (by injection m);refine⟨_,rfl,?_,?_,λd K c i=>(c.setCell i _).setCell i _,λb c=>?_⟩
 ·rw[ax (h 1 0 aR)];exact aC j
 ·exact aC ((ax (h 0 1 aR)).trans k)
 ·rw[aD c,aD c]
theorem gL.put {x:Bool}(h:gL w v z)(e:w.cell? (dA n 0)=some (.bool x))(f:∀b,b≠n->W.heap[b]?=w.heap[b]?):gL W v z:=by
 obtain⟨b,j,k,l,m,o,p,q⟩:=h;refine⟨b,j,k,l,m,o,?_,q⟩;obtain⟨r,s,t,u,y,c⟩:=p;refine⟨r,s,t,u,y,λi hi=>?_⟩;obtain⟨g,d,A⟩:=c i hi;refine⟨g,d,λB=>?_⟩
 have C:g≠n:=λD=>by
  obtain⟨F,a,E⟩:=c 0 aR;rw[d]at a;injection a with a
  injection a with a;subst a;subst D;have:=E aR;rw[e]at this;injection this with this;cases this
 rw[World.cell?_of_block (w:=w) (a:=dA g i) (f g C)];exact A B
theorem vw (b:Bool)(z:eu)(n d:Nat)(a:List Nat)(w:World)(h:eX w (.slice z n d) a)(A:dZ.Ok a) :
 dH 258 #[.bool b,.slice z n d] w λl B=>qH B (dZ.int b a) l/\dB w B:=by
 obtain⟨C,S,T⟩:=iy h;obtain⟨W,f⟩:∃W,w.alloc (.cells #[dP,dE] 229)=W:=⟨_,rfl⟩;have m:Hid (dB w W):=by show Below _ _ _;rw[<-f];exact af.alloc ae _
 have D:W.dQ w.heap.size 0=some (dP):=by rw[<-f];simp
 have E:W.dQ w.heap.size 1=some (dE):=by rw[<-f];simp
 have U:∀o,W.uV w.heap.size o=false:=λo=>by rw[<-f];simp
 have K:=dn (mU (h.below m.o));have L:=dn h;have M:=dn A;have g:=dn C;clear h A C;go_enter func258,ntmps258;go_wp2_with fail
 go_loopw [5] (fun p wr=>∃k:Nat,p=dw k/\k<=n/\dZ.val (a.take k)=dZ.val a/\wr=W) (fun p _=>(intOf p).toNat)
 ·exact⟨n,rfl,aR,by rw[List.take_of_length_le (by rw[g.o];omega)],rfl⟩
 case round=>
  obtain⟨k,rfl,F,G,N⟩:=hrel;subst N;have q:=dn G;clear G
  by_cases O:k=0
  ·subst O
   have r:Hid (dZ.int b a=0):=by
    have:=q.o;simp only[List.take_zero,dZ.val]at this;show _=_;unfold dZ.int;rw[<-this];cases b<;>rfl
   obtain⟨c,P,s,t,e,u⟩:=jV D E (dP) (dE);have i:=dn (e _ _ m.o ae);clear e u;go_wp2;exact dR (.agg #[dP,dE]) (by simp[results,results258,go_sem,s,t]) rfl ⟨⟨_,rfl,by rw[r.o];exact gL.zero _⟩,i.o⟩
  ·obtain⟨j,rfl⟩:∃j,k=j+1:=⟨k-1,aR⟩;obtain⟨x,v⟩:∃x,a[j]?=some x:=⟨_,aF (by rw[g.o];omega)⟩;obtain⟨y,rfl,V⟩:=K.o j x v;have H:Hid (a.getD j 0=x):=Doc.iI v;have X:((j+1:Nat):Int)-1=(j:Int):=aR;have Y:(j:Int)<(n:Int):=aR;clear v
   by_cases I:x=0
   ·subst I;have Q:Hid (dZ.val (a.take j)=dZ.val a):=(dZ.aaU H.o).trans q.o;go_wp2;go_roundw
    ·exact⟨j,bL,aR,Q.o,by first|rfl|trivial⟩
    ·simp[intOf]
   ·have Z:((x:Int)==0)=false:=ak aR;have tk:(((j+1:Nat):Int)==0)=false:=ak aR
    have J:Hid (∀c,dB w c->gL c (.agg #[.bool b,dJ y (j+1) d]) (dZ.int b a)):=λc R=>
     ⟨b,_,_,_,a.take (j+1),rfl,WM (L.o.below R) F,dZ.Nm.adq M.o (by rw[g.o];exact F) (.inr (by rw[Nat.add_sub_cancel,H.o];exact I)),by unfold dZ.int;rw[q.o],λ_ l=>by
      have:=congrArg List.length l;rw[List.length_take,g.o]at this;simp at this;omega⟩
    obtain⟨c,P,s,t,e,u⟩:=jV D E (.bool b) (dJ y (j+1) d);have i:=dn (e _ _ m.o ae);have r:=dn (J.o c i.o);clear e u J;go_wp2;exact dR (.agg #[.bool b,dJ y (j+1) d]) (by simp[results,results258,go_sem,s,t]) rfl ⟨⟨_,rfl,r.o⟩,i.o⟩
theorem UO (u:Value)(x:Int)(w:World)(D:gL w u x) :
 dH 262 #[u] w λh i=>qH i (-x) h/\dB w i:=by
 obtain⟨b,d,n,e,l,rfl,j,k,rfl,E⟩:=D;obtain⟨W,a⟩:∃W,(w.alloc (.cells #[.bool b,.slice d n e] 229)).alloc (.cells #[dP,dE] 229)=W:=⟨_,rfl⟩;have m:Hid (dB w W):=by show Below _ _ _;rw[<-a];exact ai.alloc aW _
 have p:W.heap.size=w.heap.size+2:=an6;have F:W.dQ w.heap.size 0=some (.bool b):=an6;have G:W.dQ w.heap.size 1=some (.slice d n e):=an6;have q:W.dQ (w.heap.size+1) 0=some (dP):=an6;have r:W.dQ (w.heap.size+1) 1=some (dE):=an6;have s:∀o,W.uV (w.heap.size+1) o=false:=λo=>an6;have H:=dn (vw (!b) d n e l W (j.below m.o) k.ok);have I:Hid (dZ.int (!b) l=-(dZ.int b l)):=by show _=_;unfold dZ.int;cases b<;>simp
 have f:=dn p;clear j k E p;go_enter func262,ntmps262;go_wp2_with fail;refine H.o.mono ?_;rintro h J ⟨⟨R,rfl,g⟩,c⟩;rw[I.o]at g;have K:=dn g;obtain⟨t,v,y,z,S,rfl,_⟩:=g;have A:=c.dL q anr;have L:=c.dL r anr;have T:∀o,J.uV (w.heap.size+1) o=false:=λo=>(c.gq (s o) anr);have M:=dn (m.o.dW c);obtain⟨U,V,N,O,B,C⟩:=jV A L (.bool t) (.slice v y z);have P:=dn (B _ _ M.o aR);have Q:=dn (K.o.put A C);clear c B C F G q r s;go_wp2;exact dR (.agg #[.bool t,.slice v y z]) (by simp[results,results262,go_sem,N,O]) rfl ⟨⟨_,rfl,Q.o⟩,P.o⟩
theorem OL:(prog.info? 2).map (λi=>(i.zero,i.size,i.bytes))=some (some (dw 0),1,8):=bR
theorem zP:∃i,prog.info? 2=some i/\i.zero=some (dw 0)/\i.size=1/\i.bytes=8:=by
 have h:=OL;cases e:prog.info? 2 with
 | none=>rw[e]at h;simp at h
 | some i=>rw[e]at h;simp at h;exact⟨i,rfl,h.1,h.2.1,h.2.2⟩
def jB (l:List Nat):List Value:=l.map (λa:Nat=>Value.int .i64 (a:Int))
theorem ug {l:List Nat}(h:w.ownsRow n 2 1 v m (jB l))(b:l.length=m):eX w v l:=by
 subst b
 have e:jB l=(l.map (λc:Nat=>[Value.int .i64 (c:Int)])).flatten:=by
  clear h
  induction l with
  | nil=>rfl
  | cons x l a=>simp only[jB,List.map_cons,List.flatten_cons]at a ⊢;rw[a];rfl
 rw[e]at h;refine gu.imp' (Row.fq h aW aW).sl aW λg i hi d f=>?_;have:=d di 0 aR (dw l[i]) aW;rw[show i*1+0=i by omega]at this;exact this
theorem oZ (w:World)(x:Value)(t:TypeId)(n:Nat)(b:n=w.heap.size):∀j u,[x][j]?=some u->(w.alloc (.cells #[x] t)).cell? (((dA n 0):Addr).add j)=some u:=by
 subst b;intro j u a;cases j with
 | zero=>simp at a;subst a;simp[Addr.add]
 | succ j=>simp at a
def OU (w:World)(V m:Nat)(e:Ending):Prop:=∃(a:eu) (c:Nat) (ls:List Nat),e=dF (.slice a ls.length c)/\eX w (.slice a ls.length c) ls/\dZ.Ok ls/\dZ.val ls=V/\ls.length<=m
theorem OH (t u:eu)(n m v y M:Nat)(b c:List Nat)(w:World)(z:eX w (.slice t n v) b)(A:eX w (.slice u m y) c)(L:dZ.Ok b)(N:dZ.Ok c)(hnM:n<=M)(hmM:m<=M)(hM:M<=1000000000) :
 dH 284 #[.slice t n v,.slice u m y] w λbg O=>OU O (dZ.val b+dZ.val c) (M+1) bg/\dB w O:=by
 obtain⟨P,hc1,hc2⟩:=iy z;obtain⟨Q,hd1,hd2⟩:=iy A;obtain⟨R,hi,S,U,V⟩:=zP;have RZ:=dn (λi W (h:dB w W)=>xN t n v i b W (z.below h));have rZ:=dn (λi W (h:dB w W)=>xN u m y i c W (A.below h));have HOA:=dn L;have Yw:=dn N;have K7:=dn P;have wR:=dn Q;clear z A L N P Q;go_enter func284,ntmps284;go_wp2_with fail
 go_loopw [5,6,7] (fun bn cy i wr=>∃(k q:Nat) (s:List Nat),i=dw k/\cy=dw q/\q<=1/\k<=M/\s.length=k/\wr.ownsRow w.heap.size 2 1 bn k (jB s)/\dZ.Ok s/\dZ.val s+1000000000 ^ k*q=dZ.val (b.take k)+dZ.val (c.take k)/\dB w wr) (fun _ _ i _=>M-(intOf i).toNat)
 ·exact aqZ
 case round=>
  obtain⟨k,q,s,rfl,rfl,hq,hk,B,X,Y,C,Z⟩:=hrel;have o:=dn X;have oP:=dn Y;have AQ:=dn C;have d:=dn Z;have p:=dn B;have D:=dn (dZ.Gy B C);clear X Y C Z B
  by_cases hlt:k<n\/k<m
  ·have hkM:k<M:=aR;have hx9:=HOA.o.getD k;have hy9:=Yw.o.getD k;have lH:=dn (RZ.o k);have jl:=dn (rZ.o k);have r:Hid (dZ.Ok (s++[(q+b.getD k 0+c.getD k 0) % 1000000000])):=oP.o.snoc (Nat.mod_lt _ aR);generalize b.getD k 0=x at *;generalize c.getD k 0=E at *;have hq1:(q+x+E) / 1000000000<=1:=aR;obtain⟨T,hT⟩:=aK (q+x+E);rw[hT]at D hq1 r;have Ob:(q:Int)+((x:Int)+(E:Int))=(T:Int):=aR;have hT3:T<3000000000:=aR;have r1:Int.tmod (T:Int) 1000000000=((T % 1000000000:Nat):Int):=(Int.ofNat_tmod T 1000000000).symm;have r2:Int.tdiv (T:Int) 1000000000=((T / 1000000000:Nat):Int):=(Int.ofNat_tdiv T 1000000000).symm;clear hT
   have HW:Hid (∀(e f:Nat) (a:World),a.ownsRow w.heap.size 2 1 (dJ e (k+1) f) (k+1) (jB s++[dw ((T % 1000000000:Nat):Int)])->a.ownsRow w.heap.size 2 1 (dJ e (k+1) f) (k+1) (jB (s++[T % 1000000000]))):=λe f a h=>by
    have:jB (s++[T % 1000000000])=jB s++[dw ((T % 1000000000:Nat):Int)]:=by simp[jB]
    rw[this];exact h
   have hcase:(k:Int)<(n:Int)\/(¬((k:Int)<(n:Int))/\(k:Int)<(m:Int)):=aR;clear hlt;rcases hcase with t1|⟨t1,t2⟩
   all_goals
    go_wp2_with fail;refine(lH.o _ d.o).dX λw1 g=>?_;have F:=g.symm;subst F;clear g;go_wp2_with fail;refine(jl.o _ d.o).dX λw1 g=>?_;have F:=g.symm;subst F;clear g;go_wp2_with (at_builtin;refine dU rfl (.tmp 29) (.tmp 32) 227 rfl w.heap.size 2 R (dw 0) 1 8 underlying227 hi S U V rfl aY _ k (jB s) rfl aol (dA wr.heap.size 0) 1 [dw ((T % 1000000000:Nat):Int)] rfl rfl al6 bX bz aR al9 ?_;intro e f a j l _ G);have H:=dn (HW.o e f a j);have I:Hid (dB w a):=(d.o.fO).grown l al9 (λx J=>(o.o.lt x J).1);clear j l G;go_wp2;go_roundw
    ·exact⟨k+1,T / 1000000000,s++[T % 1000000000],bL,by first|rfl|(rw[r2]),hq1,aR,by rw[List.length_append,p.o];rfl,H.o,r.o,D.o,I.o⟩
    ·exact aph
  ·have t1:¬((k:Int)<(n:Int)):=aR;have t2:¬((k:Int)<(m:Int)):=aR
   have iP:Hid (dZ.val (s++[q])=dZ.val b+dZ.val c):=by
    show _=_;rw[dZ.jM,p.o,AQ.o,dZ.kX (by rw[K7.o];omega),dZ.kX (by rw[wR.o];omega)]
   have r:Hid (dZ.Ok (s++[q])):=oP.o.snoc aR;clear hlt D;go_wp2_with (at_builtin;refine dU rfl (.tmp 36) (.tmp 38) 227 rfl w.heap.size 2 R (dw 0) 1 8 underlying227 hi S U V rfl aY _ k (jB s) rfl aol (dA wr.heap.size 0) 1 [dw (q:Int)] rfl rfl al6 bX bz aR al9 ?_;intro e f a j l _ G);have H:Hid (eX a (dJ e (k+1) f) (s++[q])):=ug (l:=s++[q]) (by rw[show jB (s++[q])=jB s++[dw (q:Int)] by simp[jB]];exact j) (by rw[List.length_append,p.o];rfl);have I:Hid (dB w a):=(d.o.fO).grown l al9 (λx J=>(o.o.lt x J).1);have K:Hid ((s++[q]).length=k+1):=by show _=_;rw[List.length_append,p.o];rfl
   clear j l G;go_wp2;go_ret;exact⟨⟨some (dA e 0),f,s++[q],by rw[K.o];rfl,by rw[K.o];exact H.o,r.o,iP.o,anR⟩,I.o⟩
theorem Cj (s:List Nat)(x:Nat):jB (s++[x])=jB s++[dw (x:Int)]:=by simp[jB]
theorem De (Q z:eu)(n p R e:Nat)(b a:List Nat)(w:World)(A:eX w (.slice Q n R) b)(B:eX w (.slice z p e) a)(S:dZ.Ok b)(T:dZ.Ok a)(ru:p<=n)(U:dZ.val a<=dZ.val b)(hM:n<=1000000000) :
 dH 285 #[.slice Q n R,.slice z p e] w λV t=>OU t (dZ.val b-dZ.val a) n V/\dB w t:=by
 obtain⟨X,hc1,hc2⟩:=iy A;obtain⟨Y,hd1,hd2⟩:=iy B;obtain⟨Z,hi,hz0,hz1,hz2⟩:=zP;have RQ:=dn (λW (h:dB w W)=>mU (A.below h));have rZ:=dn (λi W (h:dB w W)=>xN z p e i a W (B.below h));have HOA:=dn S;have Yw:=dn T;have K7:=dn X;have wR:=dn Y;have I7:=dn U;clear A B S T X Y U;go_enter func285,ntmps285;go_wp2_with fail
 go_loopw [5,6,11] (fun bg cy i wr=>∃(k q:Nat) (s:List Nat),i=dw k/\cy=dw q/\q<=1/\k<=n/\s.length=k/\wr.ownsRow w.heap.size 2 1 bg k (jB s)/\dZ.Ok s/\dZ.val s+dZ.val (a.take k)=dZ.val (b.take k)+1000000000 ^ k*q/\dB w wr) (fun _ _ i _=>n-(intOf i).toNat)
 ·exact aqZ
 case round=>
  obtain⟨k,q,s,rfl,rfl,hq,hk,C,hown,hok,E,hbel⟩:=hrel;have HOWN:=dn hown;have u:=dn hok;have AQ:=dn E;have f:=dn hbel;have g:=dn C;have j:=dn (λx e=>dZ.BS (a:=b) (b:=a) (s:=s) (i:=k) (c:=q) (x:=x) (r:=x) (d:=e) C E);clear hown hok E hbel C
  by_cases hlt:k<n
  ·obtain⟨x,c⟩:∃x,b[k]?=some x:=⟨_,aF (by rw[K7.o];exact hlt)⟩;obtain⟨bn,rfl,r0⟩:=RQ.o wr f.o k x c;have hx9:=HOA.o.getD k;have hy9:=Yw.o.getD k;rw[Doc.iI c]at hx9 j;have jl:=dn (rZ.o k);generalize a.getD k 0=y at *;have hkn:(k:Int)<(n:Int):=aR;have wr1:IntKind.i64.wrap ((x:Int)-(y:Int))=(x:Int)-(y:Int):=bV;have wr2:IntKind.i64.wrap ((x:Int)-(y:Int)-(q:Int))=(x:Int)-(y:Int)-(q:Int):=bV;clear c;go_upto_region 6 with fail
   go_cut [8] (fun bq wx=>bq=dw ((x:Int)-(y:Int)-(q:Int))/\dB wr wx)
   case first=>
    go_region_held3 (fun t=>t.dQ bn k=some (dw (x:Nat))) (go_keep) (first|(go_at_call 286;refine(jl.o _ (by first|exact f.o|exact f.o.drew)).mono ?_;rintro V w4 ⟨rfl,rfl⟩));go_wp2;go_meet
    ·exact⟨rfl,af.drew⟩
   case rest=>
    obtain⟨rfl,F⟩:=hcut;have d:=dn (f.o.dW F);have v:=dn (ownsRow_below HOWN.o F);rename World=>wk;clear F r0
    by_cases hneg:x<y+q
    ·obtain⟨r,G⟩:∃r:Nat,x+1000000000=r+y+q:=⟨x+1000000000-y-q,aR⟩;have H:Hid (dZ.Ok (s++[r])):=u.o.snoc aR;have I:Hid (dZ.val (s++[r])+dZ.val (a.take (k+1))=dZ.val (b.take (k+1))+1000000000 ^ (k+1)*1):=j.o r 1 aR rfl;have t1:(x:Int)-(y:Int)-(q:Int)<0:=aR;have J:(x:Int)-(y:Int)-(q:Int)+1000000000=(r:Int):=aR;clear j G;generalize (x:Int)-(y:Int)-(q:Int)=D at *;go_wp2_with (at_builtin;refine dU rfl (.tmp 28) (.tmp 30) 227 rfl w.heap.size 2 Z (dw 0) 1 8 underlying227 hi hz0 hz1 hz2 rfl aY _ k (jB s) rfl (by exact v.o.alloc _) (dA wk.heap.size 0) 1 [dw (r:Int)] rfl rfl al6 bX bz aR al9 ?_;intro K L l m o _ M);have N:Hid (l.ownsRow w.heap.size 2 1 (dJ K (k+1) L) (k+1) (jB (s++[r]))):=aoZ;have O:Hid (dB w l):=(d.o.fO).grown o al9 (λx c=>(v.o.lt x c).1);clear m o M;go_wp2;go_roundw
     ·exact⟨k+1,1,s++[r],bL,rfl,aR,aR,by rw[List.length_append,g.o];rfl,N.o,H.o,I.o,O.o⟩
     ·exact aph
    ·obtain⟨r,G⟩:∃r:Nat,x=r+y+q:=⟨x-y-q,aR⟩;have H:Hid (dZ.Ok (s++[r])):=u.o.snoc aR;have I:Hid (dZ.val (s++[r])+dZ.val (a.take (k+1))=dZ.val (b.take (k+1))+1000000000 ^ (k+1)*0):=j.o r 0 aR rfl;have J:(x:Int)-(y:Int)-(q:Int)=(r:Int):=aR;rw[J];clear j G J wr1 wr2;go_wp2_with (at_builtin;refine dU rfl (.tmp 28) (.tmp 30) 227 rfl w.heap.size 2 Z (dw 0) 1 8 underlying227 hi hz0 hz1 hz2 rfl aY _ k (jB s) rfl (by exact v.o.alloc _) (dA wk.heap.size 0) 1 [dw (r:Int)] rfl rfl al6 bX bz aR al9 ?_;intro K L l m o _ M);have N:Hid (l.ownsRow w.heap.size 2 1 (dJ K (k+1) L) (k+1) (jB (s++[r]))):=aoZ;have O:Hid (dB w l):=(d.o.fO).grown o al9 (λx c=>(v.o.lt x c).1);clear m o M;go_wp2;go_roundw
     ·exact⟨k+1,0,s++[r],bL,rfl,aR,aR,by rw[List.length_append,g.o];rfl,N.o,H.o,I.o,O.o⟩
     ·exact aph
  ·have iP:Hid (dZ.val s=dZ.val b-dZ.val a):=by
    have P:=AQ.o;rw[dZ.kX (l:=b) (by rw[K7.o];omega),dZ.kX (l:=a) (by rw[wR.o];omega)]at P;have h2:=dZ.kQ u.o;rw[g.o]at h2
    have h3:q=0:=by
     rcases Nat.lt_or_ge q 1 with h|h
     ·exact aR
     ·exfalso;have h4:q=1:=aR;subst h4;have:=I7.o;exact aR
    subst h3;show _=_;exact aR
   have HI:=dn (ug HOWN.o g.o)
   have ai8:Hid (OU wr (dZ.val b-dZ.val a) n (dF u5)):=by
    have P:=HI.o;obtain⟨ao,cap,hv,_⟩:=HI.o;subst hv;exact⟨ao,cap,s,rfl,P,u.o,iP.o,by rw[g.o];exact hk⟩
   go_wp2;go_ret;exact⟨ai8.o,f.o⟩
structure nN (wx:World)(B:Nat)(b1:Bool)(a1:eu)(n1 c1:Nat)(b2:Bool)(a2:eu)(n2 c2:Nat):Prop where
 d0:wx.cell? (dA B 0)=some (.bool b1)
 d1:wx.cell? (dA B 1)=some (.slice a1 n1 c1)
 e0:wx.cell? (dA (B+1) 0)=some (.bool b2)
 e1:wx.cell? (dA (B+1) 1)=some (.slice a2 n2 c2)
 r0:wx.cell? (dA (B+1+1) 0)=some (dP)
 r1:wx.cell? (dA (B+1+1) 1)=some (dE)
 rf:∀o,wx.frozen? (dA (B+1+1) o)=false
theorem nN.below {b:Bool}{c:Bool}(h:nN w n b a m k c d i j)(e:dB w W):nN W n b a m k c d i j:=
 have t:∀{p:Addr} {v:Value},w.cell? p=some v->W.cell? p=some v:=λf=>(e.cell (aj f)).trans f
 ⟨t h.d0,t h.d1,t h.e0,t h.e1,t h.r0,t h.r1,λo=>(e.gq (h.rf o) (by have:=aj h.r0;exact this))⟩
theorem nN.start (w:World)(a:Bool)(b:eu)(c d:Nat)(e:Bool)(f:eu)(g h:Nat) :
 nN (((w.alloc (.cells #[.bool a,.slice b c d] 229)).alloc (.cells #[.bool e,.slice f g h] 229)).alloc (.cells #[dP,dE] 229)) w.heap.size a b c d e f g h:=by
 refine⟨?_,?_,?_,?_,?_,?_,λo=>?_⟩<;>simp[go_sem]
theorem aep (n:Nat):(1000000000:Nat) ^ n=10 ^ (9*n):=by rw[Nat.pow_mul]
theorem aeu (h:dZ.Nm l):l.length<=(dC.D (dZ.val l)).length:=by
 by_cases a:l=[]
 ·subst a;exact aW
 ·have b:=h.ge a;have c:=dC.C9 (dZ.val l);rw[aep]at b;have d:10 ^ (9*(l.length-1))<10 ^ (dC.D (dZ.val l)).length:=Nat.lt_of_le_of_lt b c;have e:=(Nat.pow_lt_pow_iff_right (by omega:1<10)).1 d;have f:0<l.length:=List.length_pos_iff.2 a;exact aR
theorem adA (b:Bool)(l:List Nat):(dZ.int b l).natAbs=dZ.val l:=by unfold dZ.int;cases b<;>simp
theorem Bb {b:Bool}(h:dZ.Nm l):l.length<=(dC.dec (dZ.int b l)).length:=by
 have c:=aeu h;have a:=dC.iC (dZ.int b l);rw[adA]at a;exact aR
theorem YR (bA bB:Value)(bg bn:Int)(w:World)(hu:gL w bA bg)(hv:gL w bB bn)(hx:(dC.dec bg).length<=100000000)(hy:(dC.dec bn).length<=100000000) :
 dH 263 #[bA,bB] w λt e=>qH e (bg+bn) t/\dB w e:=by
 obtain⟨b,p,f,q,k,rfl,i1,m1,rfl,p1⟩:=hu;obtain⟨n,r,g,s,l,rfl,i2,m2,rfl,p2⟩:=hv;have hn1:f<=100000000:=by have:=Bb (b:=b) m1;rw[(iy i1).1]at this;omega
 have hn2:g<=100000000:=by have:=Bb (b:=n) m2;rw[(iy i2).1]at this;omega
 obtain⟨W,hW⟩:∃W,((w.alloc (.cells #[.bool b,.slice p f q] 229)).alloc (.cells #[.bool n,.slice r g s] 229)).alloc (.cells #[dP,dE] 229)=W:=⟨_,rfl⟩;have nJ:=nN.start w b p f q n r g s;rw[hW]at nJ;have P:Hid (dB w W):=by show Below _ _ _;rw[<-hW];exact(ai.alloc aW _).alloc aX _
 have pM:=dn nJ;have K:=dn (λc (h:dB W c)=>i1.below (P.o.dW h));have L:=dn (λc (h:dB W c)=>i2.below (P.o.dW h));have M:=dn m1;have N:=dn m2;have Q:Hid (w.heap.size+1+1<W.heap.size):=aj nJ.r0;have Va:=dn (λbC bD bF bG m W h o=>vw bC bD bF bG m W h o);obtain⟨O,u,e0,v,R,S,T⟩:=nJ;clear i1 i2 m1 m2 p1 p2 hx hy;have Ae:=dn P.o;have x:=dn Q.o
 by_cases hbb:b=n
 ·subst hbb;have U:=dn (λc h=>OH p r f g q s 100000000 k l c (K.o c h) (L.o c h) M.o.ok N.o.ok hn1 hn2 aR);have V:Hid (∀m,dZ.val m=dZ.val k+dZ.val l->dZ.int b m=dZ.int b k+dZ.int b l):=λm h=>by unfold dZ.int;rw[h];cases b<;>simp<;>omega
  have tb:(b==b)=true:=aW;go_enter func263,ntmps263;go_upto_region 2 with fail
  go_region_held3 (fun e=>e.cell? (dA w.heap.size 0)=some (.bool b)/\e.cell? (dA w.heap.size 1)=some (.slice p f q)/\e.cell? (dA (w.heap.size+1) 1)=some (.slice r g s)) (go_keep) (first|(go_at_call 284;refine(U.o _ bY).mono ?_;rintro t w2 ⟨⟨X,Y,y,rfl,Z,o3,v3,k3⟩,hb2⟩;have i:=dn ((Below.refl W.heap.size W).drew.trans hb2);have z:=i.o.eT O;have A:=i.o.eT u;have B:=(i.o.eT v))|(go_at_call 258;refine(Va.o b X _ Y y _ Z o3).mono ?_;rintro t j ⟨⟨vv,rfl,C⟩,hb3⟩;have HV:=dn C;obtain⟨D,E,F,G,l4,rfl,hq⟩:=C;clear hq;have a:=dn (i.o.dW hb3);have z:=a.o.eT O;have A:=a.o.eT u;have B:=a.o.eT v;have H:=a.o.dL R Q.o;have f1:=a.o.dL S Q.o;have ff:∀o,j.frozen? (dA (w.heap.size+1+1) o)=false:=fun o=>(a.o.gq (T o) Q.o);obtain⟨wz,hwz,z0,z1,I,d⟩:=jV H f1 (.bool D) (.slice E F G);have y0:=(World.cell?_of_block (w:=j) (a:=dA w.heap.size 0) (d _ amP)).trans z;have y1:=(World.cell?_of_block (w:=j) (a:=dA w.heap.size 1) (d _ amP)).trans A;have y2:=(World.cell?_of_block (w:=j) (a:=dA (w.heap.size+1) 1) (d _ anf)).trans B;have ZB:=dn (I _ _ (P.o.dW a.o) aR);have HZ:=dn (HV.o.put H d);clear I d));exact aqe
 ·have tb:(b==n)=false:=ak hbb;have PO:=dn (sJ p r f g q s k l W (K.o W af) (L.o W af) M.o N.o);have lX:Hid (n=!b):=by show _=_;cases b<;>cases n<;>simp at hbb ⊢
  clear hbb Ae x;go_enter func263,ntmps263;go_wp2_with fail;refine PO.o.mono ?_;rintro t J ⟨⟨bq,rfl,hr1,hr2,hr3,hr4⟩,hbq⟩;have R4:=dn hbq;have Ae:=dn (P.o.dW hbq);have x:Hid (w.heap.size+1+1<J.heap.size):=Nat.lt_of_lt_of_le Q.o hbq.size;clear O u e0 v R S T;obtain⟨O,u,e0,v,R,S,T⟩:=pM.o.below hbq;clear hbq
  by_cases hneg:bq<0
  ·have hlt:=hr1.1 hneg;have qI:Hid (dZ.val k<dZ.val l):=by show _<_;omega
   have HLEN:Hid (f<=g):=by
    show _<=_;have h1:=(iy (K.o W af)).1;have h2:=(iy (L.o W af)).1;rcases Nat.lt_or_ge g f with h|h
    ·have:=N.o.Hd M.o aR;have:=qI.o;exact aR
    ·exact h
   have U:=dn (λc (h:dB J c)=>De r p g f s q l k c (L.o c (R4.o.dW h)) (K.o c (R4.o.dW h)) N.o.ok M.o.ok HLEN.o (Nat.le_of_lt qI.o) aR);have V:Hid (∀m,dZ.val m=dZ.val l-dZ.val k->dZ.int n m=dZ.int b k+dZ.int n l):=λm h=>by have:=qI.o;unfold dZ.int;rw[h,lX.o];cases b<;>simp<;>omega
   have tr:¬((0:Int)<=bq):=aR;clear hr1 hr2 hlt;go_upto_region 5 with fail
   go_region_held3 (fun e=>e.cell? (dA (w.heap.size+1) 0)=some (.bool n)/\e.cell? (dA (w.heap.size+1) 1)=some (.slice r g s)/\e.cell? (dA w.heap.size 1)=some (.slice p f q)) (go_keep) (first|(go_at_call 285;refine(U.o _ bY).mono ?_;rintro t w2 ⟨⟨X,Y,y,rfl,Z,o3,v3,k3⟩,hb2⟩;have i:=dn ((Below.refl J.heap.size J).drew.trans hb2);have z:=i.o.eT e0;have A:=i.o.eT v;have B:=(i.o.eT u))|(go_at_call 258;refine(Va.o n X _ Y y _ Z o3).mono ?_;rintro t j ⟨⟨vv,rfl,C⟩,hb3⟩;have HV:=dn C;obtain⟨D,E,F,G,l4,rfl,hq⟩:=C;clear hq;have a:=dn (i.o.dW hb3);have z:=a.o.eT e0;have A:=a.o.eT v;have B:=a.o.eT u;have H:=a.o.dL R x.o;have f1:=a.o.dL S x.o;have ff:∀o,j.frozen? (dA (w.heap.size+1+1) o)=false:=fun o=>(a.o.gq (T o) x.o);obtain⟨wz,hwz,z0,z1,I,d⟩:=jV H f1 (.bool D) (.slice E F G);have y0:=(World.cell?_of_block (w:=j) (a:=dA (w.heap.size+1) 0) (d _ anf)).trans z;have y1:=(World.cell?_of_block (w:=j) (a:=dA (w.heap.size+1) 1) (d _ anf)).trans A;have y2:=(World.cell?_of_block (w:=j) (a:=dA w.heap.size 1) (d _ amP)).trans B;have ZB:=dn (I _ _ (Ae.o.dW a.o) aR);have HZ:=dn (HV.o.put H d);clear I d));exact aqe
  ·have I7:Hid (dZ.val l<=dZ.val k):=by show _<=_;rcases Nat.lt_or_ge (dZ.val k) (dZ.val l) with h|h;exact absurd (hr1.2 aR) hneg;exact h
   have HLEN:Hid (g<=f):=by
    show _<=_;have h1:=(iy (K.o W af)).1;have h2:=(iy (L.o W af)).1;rcases Nat.lt_or_ge f g with h|h
    ·have:=M.o.Hd N.o aR;have:=I7.o;exact aR
    ·exact h
   have U:=dn (λc (h:dB J c)=>De p r f g q s k l c (K.o c (R4.o.dW h)) (L.o c (R4.o.dW h)) M.o.ok N.o.ok HLEN.o I7.o aR);have V:Hid (∀m,dZ.val m=dZ.val k-dZ.val l->dZ.int b m=dZ.int b k+dZ.int n l):=λm h=>by have:=I7.o;unfold dZ.int;rw[h,lX.o];cases b<;>simp<;>omega
   have tr:(0:Int)<=bq:=aR;clear hr1 hr2;go_upto_region 4 with fail
   go_region_held3 (fun e=>e.cell? (dA w.heap.size 0)=some (.bool b)/\e.cell? (dA w.heap.size 1)=some (.slice p f q)/\e.cell? (dA (w.heap.size+1) 1)=some (.slice r g s)) (go_keep) (first|(go_at_call 285;refine(U.o _ bY).mono ?_;rintro t w2 ⟨⟨X,Y,y,rfl,Z,o3,v3,k3⟩,hb2⟩;have i:=dn ((Below.refl J.heap.size J).drew.trans hb2);have z:=i.o.eT O;have A:=i.o.eT u;have B:=(i.o.eT v))|(go_at_call 258;refine(Va.o b X _ Y y _ Z o3).mono ?_;rintro t j ⟨⟨vv,rfl,C⟩,hb3⟩;have HV:=dn C;obtain⟨D,E,F,G,l4,rfl,hq⟩:=C;clear hq;have a:=dn (i.o.dW hb3);have z:=a.o.eT O;have A:=a.o.eT u;have B:=a.o.eT v;have H:=a.o.dL R x.o;have f1:=a.o.dL S x.o;have ff:∀o,j.frozen? (dA (w.heap.size+1+1) o)=false:=fun o=>(a.o.gq (T o) x.o);obtain⟨wz,hwz,z0,z1,I,d⟩:=jV H f1 (.bool D) (.slice E F G);have y0:=(World.cell?_of_block (w:=j) (a:=dA w.heap.size 0) (d _ amP)).trans z;have y1:=(World.cell?_of_block (w:=j) (a:=dA w.heap.size 1) (d _ amP)).trans A;have y2:=(World.cell?_of_block (w:=j) (a:=dA (w.heap.size+1) 1) (d _ anf)).trans B;have ZB:=dn (I _ _ (Ae.o.dW a.o) aR);have HZ:=dn (HV.o.put H d);clear I d));exact aqe
theorem Xk (a:l.length=n)(h:dZ.val l+1000000000 ^ n*m=k):dZ.val (l++[m % 1000000000])+1000000000 ^ (n+1)*(m / 1000000000)=k:=by
 rw[dZ.jM,a,Nat.pow_succ,Nat.mul_assoc,Nat.add_assoc,<-Nat.mul_add,Nat.add_comm (m % 1000000000),Nat.div_add_mod];exact h
theorem PV (n:Nat)(w:World)(hn:n<=1000000000) :
 dH 221 #[dw n] w λl m=>qH m (n:Int) l/\dB w m:=by
 obtain⟨P,hi,Q,R,S⟩:=zP;obtain⟨W,b⟩:∃W,w.alloc (.cells #[dP,dE] 229)=W:=⟨_,rfl⟩;have T:Hid (dB w W):=apg;have p:w.heap.size<W.heap.size:=anD;have t:W.dQ w.heap.size 0=some (dP):=anD;have u:W.dQ w.heap.size 1=some (dE):=anD;have v:∀o,W.uV w.heap.size o=false:=λo=>anD;have U:=dn t;have V:=dn u;have X:=dn v;have e:=dn p;clear t u v p;go_enter func221,ntmps221;go_wp2_with fail
 go_loopw [3,4] (fun Y r wr=>∃(k q:Nat) (s:List Nat),r=dw q/\k+q<=n/\s.length=k/\wr.ownsRow W.heap.size 2 1 Y k (jB s)/\dZ.Ok s/\dZ.val s+1000000000 ^ k*q=n/\dB W wr) (fun _ r _=>(intOf r).toNat)
 ·exact⟨0,n,[],rfl,aR,rfl,World.ownsRow_nil _ _ _ _,dZ.Ok.nil,by simp[dZ.val],af⟩
 case round=>
  obtain⟨k,q,s,rfl,hk,f,x,y,g,z⟩:=hrel;have h:=dn x;have A:=dn y;have c:=dn z;have i:=dn f;have B:=dn g;have C:=dn (Xk f g);clear x y g z f
  by_cases Z:q=0
  ·subst Z;have D:=dn (ug h.o i.o);obtain⟨ao,cap,E,_⟩:=D.o;rw[i.o]at E;subst E;have HC:=dn (vw false ao k cap s wr D.o A.o);have HE:Hid (dZ.int false s=(n:Int)):=by have:=B.o;show _=_;unfold dZ.int;rw[if_neg aW];omega
   have hn0:¬((n:Int)<0):=aR;clear C B;go_wp2_with fail;refine HC.o.mono ?_;rintro l d ⟨⟨vv,rfl,j⟩,F⟩;rw[HE.o]at j;have HV:=dn j;obtain⟨G,H,I,J,l4,rfl,hq⟩:=j;have a:=dn (c.o.dW F);have K:=a.o.dL U.o e.o;have f1:=a.o.dL V.o e.o;have ff:∀o,d.uV w.heap.size o=false:=λo=>(a.o.gq (X.o o) e.o);obtain⟨wz,hwz,z0,z1,L,M⟩:=jV K f1 (.bool G) (.slice H I J);have ZB:=dn (L _ _ (T.o.dW a.o) ae);have HZ:=dn (HV.o.put K M);clear L M hq F;go_wp2;exact dR (.agg #[.bool G,.slice H I J]) (by simp[results,results221,go_sem,z0,z1]) rfl ⟨⟨_,rfl,HZ.o⟩,ZB.o⟩
  ·have t0:((q:Int) !=0)=true:=bJ;have r1:Int.tmod (q:Int) 1000000000=((q % 1000000000:Nat):Int):=(Int.ofNat_tmod q 1000000000).symm;have r2:Int.tdiv (q:Int) 1000000000=((q / 1000000000:Nat):Int):=(Int.ofNat_tdiv q 1000000000).symm;have CV:Hid (dZ.Ok (s++[q % 1000000000])):=A.o.snoc (Nat.mod_lt _ aR);have hq2:q / 1000000000<q:=aR;have HX:Hid (q % 1000000000<1000000000):=Nat.mod_lt _ aR;go_wp2_with (at_builtin;refine dU rfl (.tmp 15) (.tmp 17) 227 rfl W.heap.size 2 P (dw 0) 1 8 underlying227 hi Q R S rfl aY _ k (jB s) rfl (by exact h.o.alloc _) (dA wr.heap.size 0) 1 [dw ((q % 1000000000:Nat):Int)] rfl rfl al6 bX bz aR (by simp;have:=c.o.size;omega) ?_;intro gn fD d N O _ tu);have BG:Hid (d.ownsRow W.heap.size 2 1 (dJ gn (k+1) fD) (k+1) (jB (s++[q % 1000000000]))):=by show World.ownsRow _ _ _ _ _ _ _;rw[Cj];exact N
   have a:Hid (dB W d):=(c.o.fO).grown O (by simp;have:=c.o.size;omega) (λbg hx=>(h.o.lt bg hx).1);clear N O tu;go_wp2;go_roundw
   ·exact⟨k+1,q / 1000000000,s++[q % 1000000000],by first|rfl|rw[r2],aR,by rw[List.length_append,i.o];rfl,BG.o,CV.o,C.o,a.o⟩
   ·exact aph
theorem Ms (s:Nat)(w:World):dH 109 #[dw s] w λf g=>f=dF (eO (Doc.jc s))/\g=w:=by
 have d:Hid (Doc.jc s=if s=1 then [66,111,111,108] else if s=2 then [73,110,116] else [85]):=rfl;generalize Doc.jc s=e at *
 by_cases a:s=1
 ·have h:((s:Int)==1)=true:=by rw[a];rfl
  have b:Hid (e=[66,111,111,108]):=by show _=_;rw[d.o,if_pos a]
  clear a;exact aqC
 ·have h:((s:Int)==1)=false:=ak aR
  by_cases c:s=2
  ·have i:((s:Int)==2)=true:=am7;have b:Hid (e=[73,110,116]):=by show _=_;rw[d.o,if_neg a,if_pos c]
   clear a c;exact aqC
  ·have i:((s:Int)==2)=false:=ak aR;have b:Hid (e=[85]):=by show _=_;rw[d.o,if_neg a,if_neg c]
   clear a c;exact aqC
theorem adT (b:Bool)(w:World):dH 164 #[.bool b] w λe a=>e=dF (eO (if b=true then [49] else [48]))/\a=w:=by
 cases b
 ·go_enter func164,ntmps164;go_wp2;go_ret;exact⟨rfl,rfl⟩
 ·go_enter func164,ntmps164;go_wp2;go_ret;exact⟨rfl,rfl⟩
