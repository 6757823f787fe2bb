import Derived.Test.YtbichedkajfmiaaGreatDoorGLaws0
import Derived.Test.YtbichedkajfmiaaGreatDoorGRef15
import Derived.Test.YtbichedkajfmiaaGreatDoorC
set_option maxRecDepth 100000
set_option maxHeartbeats 16000000
namespace Go.Proofs.YtbichedkajfmiaaGreatDoor
open Go.RowKit
variable {D:Tc}{Y:Doc.Tr}{k m n:Nat}{w:World}
structure YC (w:World)(B g j:Nat)(x:List UInt8)(il:Bool)(q:Nat)(ao:Option Addr)(m cap:Nat):Prop where
 all:∀W,Below B w W->W.cell? ⟨g,j*4,none⟩=some (.string ⟨x.toArray⟩)/\W.cell? ⟨g,j*4+1,none⟩=some (.bool il)/\W.cell? ⟨g,j*4+2,none⟩=some (.slice ao m cap)/\W.cell? ⟨g,j*4+3,none⟩=some (.int .i64 q)
theorem Eu {P:Nat->Prop}(b:kg w m (k*4) D)(a:ik w P n D Y):YC w w.heap.size m k Y.text Y.isList Y.pos D.ao D.m D.cap:=by
 have c:=ai b.x;refine⟨fun W d=>?_⟩;have h:=b.block (d.block m c);rw[<-a.text,<-a.isL,<-a.pos];exact⟨h.x,h.b,h.k,h.p⟩
theorem M8 (g A:Nat)(own:Own)(S:Doc.dB)(p:Nat)(b:List Doc.Tr)(n:Tc)(w:World)(hS:dE w own A g S)(hfr:dH own w)(hk:A≠0)(hw:Doc.fQ S)(ht:ik w (fun K=>own K=0) 13 n (.list p b))(hok:Doc.oks b)(hwd:Doc.eu b<=800) :
 Calls Tryz.prog 136 #[.pointer (some ⟨g,0,none⟩),.agg #[.string ⟨n.x.toArray⟩,.bool n.bb,.slice n.ao n.m n.cap,.int .i64 n.p]] w fun h X=>jy w X own A g S (Doc.declare S p b) h:=by
 have hR:=fJ;obtain⟨i0,hi,hz0,hz1,hz2⟩:=info_parts Tryz.mI;obtain⟨i1,hiS,ael,aek,aej⟩:=info_parts Tryz.ZV;obtain⟨ao,cap,rfl,hc1,hc2,Y⟩:=ht.kids;simp only;have v:Below w.heap.size w (w.alloc (.cells #[.string ⟨#[]⟩,.bool true,.slice ao b.length cap,.int .i64 p] 138)):=ag;have L:=di v;have HS:=di hS;have lS:=di hfr;have o:Hid (∀h r W,Below w.heap.size w W->jy w W own A g S (.error (h,r)) (.returned (.tuple #[.int .i64 (h:Nat),.int .i64 (r:Nat)]))):=fun h r W i=>jy.err (Fr.of_below A hfr i) (hS.below i)
 by_cases Z:b.length=4
 ·have o4:((b.length:Int) !=4)=false:=by rw[Z];rfl
  have hl1:(1:Int)<(b.length:Int):=aO;have hl2:(2:Int)<(b.length:Int):=aO;have hl3:(3:Int)<(b.length:Int):=aO;obtain⟨K,rfl,hg0,uF,hk1,ht1⟩:=Y 1 aO;obtain⟨g',q,_,vY,hk2,ht2⟩:=Y 2 aO;injection q with q
  injection q with q;subst q;obtain⟨g',q,_,uE,hk3,ht3⟩:=Y 3 aO;injection q with q;injection q with q;subst q;have HD:Hid (Doc.declare S p b=Doc.lq S p b[1] b[2] b[3]):=Doc.qO Z;have HK1:=di (Eu hk1 ht1);have Dn:=di (Eu hk2 ht2);have HK3:=di (Eu hk3 ht3);have HT2:=di ht2;have HT3:=di (fun W (i:Below w.heap.size w W)=>hk3.block (i.block K (ai hk3.x)));have N9:Hid (uE.x=b[3].text):=ht3.text;have hok1:=Doc.kQ hok b[1] (List.getElem_mem aO);have adY:=Nat.le_trans (Doc.jl b[1] (List.getElem_mem aO)) hwd;have hwd2:=Nat.le_trans (Doc.jl b[2] (List.getElem_mem aO)) hwd;have ad2:=Doc.Ec b[1];generalize Doc.declare S p b=R at *;generalize b[1]=f at *;generalize b[2]=k2 at *;generalize b[3]=B at *;obtain⟨a0,a1,a2,a3⟩:=HK1.o.all _ v;obtain⟨b0,b1,b2,b3⟩:=Dn.o.all _ v;obtain⟨d0,d1,d2,d3⟩:=HK3.o.all _ v;simp only[Nat.one_mul,Nat.reduceMul,Nat.reduceAdd]at a0 a1 a2 a3 b0 b1 b2 b3 d0 d1 d2 d3
  have hgn:K≠w.heap.size:=by
   have:=ai hk1.x;simp only at this;exact aO
  clear Y hk1 hk2 hk3 ht1 ht2 ht3 hok hwd ht hS hfr Z hg0;cases hi1:f.isList
  ·rw[hi1]at a1;cases hi2:k2.isList
   ·rw[hi2]at b1;have e:Hid (R=.error (4,k2.pos)):=by show _=_;rw[HD.o];simp[Doc.lq,hi1,hi2]
    clear hi1 hi2 v;exact amZ
   ·rw[hi2]at b1
    obtain⟨q2,a,rfl⟩:∃q2 a,k2=.list q2 a:=by
     cases k2 with
     | word r C=>cases hi2
     | list r a=>exact⟨r,a,rfl⟩
    obtain⟨Hw,cap2,rfl,e1,e2,SE⟩:=HT2.o.kids;simp only at b2
    have HJ:Hid (∀j (hj:j<a.length),∃D s,Hw=some ⟨D,0,none⟩/\YC w w.heap.size D j a[j].text a[j].isList a[j].pos s.ao s.m s.cap/\(∀W,Below w.heap.size w W->kg W D (j*4) s)/\s.x=a[j].text):=fun j hj=>by
     obtain⟨D,M,_,s,hjc,hjt⟩:=SE j hj;exact⟨D,s,M,Eu hjc hjt,fun W i=>hjc.block (i.block D (ai hjc.x)),hjt.text⟩
    have hjl:a.length<=1000:=by
     have:∀b:List Doc.Tr,b.length<=Doc.eu b:=by
      intro b
      induction b with
      | nil=>simp
      | cons bg b ih=>simp only[Doc.eu,List.length_cons];omega
     have:=this a;simp only[Doc.Tr.width]at hwd2;exact aO
    have HD2:Hid (R=match Doc.fP a with
     | some C=>.error (4,C)
     | none=>
      if B.isList=true then .error (4,B.pos)
      else if Doc.forbidden f.text=true then .error (5,f.pos)
      else if (Doc.eX S.syms f.text).isSome=true then .error (6,f.pos)
      else if 2<a.length then .error (7,q2)
      else match Doc.takes a with
       | .error C=>.error (7,C)
       | .ok l=>
        if Doc.fw B.text=0 then .error (7,B.pos)
        else if S.syms.length=8 then .error (9,p)
        else .ok { S with syms:=S.syms++[⟨f.text,l,Doc.fw B.text⟩] }):=by
     show _=_;rw[HD.o];unfold Doc.lq;rw[if_neg (by rw[hi1];simp),if_neg (by rw[hi2];simp)];rfl
    have aei:f=.word f.pos f.text:=by
     cases f with
     | word r C=>rfl
     | list r qs=>cases hi1
    have hx1:0<f.text.length:=by
     cases f with
     | word r C=>
      simp only[Doc.Tr.ok]at hok1;exact List.length_pos_iff.2 hok1.1
     | list r qs=>cases hi1
    have V3:f.text.length<=1000:=aO;have HFB:=di (fun W=>IG f.text W hx1 aO)
    have wN:Hid (∀W,Below w.heap.size w W->Calls Tryz.prog 185 #[.pointer (some ⟨g,0,none⟩),.string ⟨f.text.toArray⟩] W fun h X=>h=.returned (.int .i64 (placeOf (Doc.eX S.syms f.text)))/\X=W):=
     fun W i=>DV g S.syms S.terms f.text W (HS.o.below i).book
    clear hi1 hi2 SE aei hok1 adY hwd2 ad2;generalize f.text=k at *;generalize f.pos=p1 at *;generalize ahi:B.isList=il3 at *;generalize B.text=x3 at *;generalize B.pos=p3 at *;go_enter Tryz.func136,Tryz.ntmps136;go_wp2_with fail
    go_loop [7] (fun F=>∃j:Nat,F=.int .i64 j/\j<=a.length/\Doc.fP a=Doc.fP (a.drop j)) (fun F=>a.length-(intOf F).toNat)
    case atStart=>exact⟨0,rfl,aO,aP⟩
    case round=>
     obtain⟨j,rfl,hj,hfl⟩:=hrel;have uK:=di hfl;clear hfl
     by_cases hlj:j<a.length
     ·obtain⟨D,s,rfl,N,_,_⟩:=HJ.o j hlj;obtain⟨m0,m1,m2,m3⟩:=N.all _ v;have acE:=di (Doc.yS hlj);cases hij:a[j].isList
      ·rw[hij]at m1;have jO:Hid (Doc.fP a=Doc.fP (a.drop (j+1))):=by show _=_;rw[uK.o,acE.o,if_neg (by rw[hij];simp)]
       clear hij N;go_wp2_with fail
       go_round
       case rel=>exact⟨j+1,bJ,aO,jO.o⟩
       case measure=>exact akL
      ·rw[hij]at m1
       have e:Hid (R=.error (4,a[j].pos)):=by
        show _=_;have t:Doc.fP a=some a[j].pos:=by rw[uK.o,acE.o,if_pos hij]
        rw[HD2.o,t]
       clear hij N;exact ale
     ·have hnone:Doc.fP a=none:=by rw[uK.o,List.drop_eq_nil_of_le aO];rfl
      have HD3:=HD2.o;rw[hnone]at HD3;have HD3:=di HD3;clear hnone;cases il3
      ·have HD4:=HD3.o;simp only[Bool.false_eq_true,if_false]at HD4;have HD4:=di HD4;go_wp2_with fail;refine(HFB.o _).mono ?_;rintro h c ⟨rfl,hb1⟩;have hb2:=L.o.trans (hb1.mono aP);have O:=di hb2;have hsz1:=hb2.size;obtain⟨a0',a1',Lf,a3'⟩:=HK1.o.all _ hb2;obtain⟨b0',b1',b2',b3'⟩:=Dn.o.all _ hb2;simp only[Nat.one_mul,Nat.reduceMul,Nat.reduceAdd]at a0' a1' Lf a3' b0' b1' b2' b3';have bp:=(hb1.cell (p:=⟨w.heap.size,3,none⟩) aP).trans (show _=some (.int .i64 p) by simp);have bk:=(hb1.cell (p:=⟨w.heap.size,2,none⟩) aP).trans (show _=some (.slice (some ⟨K,0,none⟩) b.length cap) by simp);clear a0 a1 a2 a3 b0 b1 b2 b3 d0 d1 d2 d3 hb1 hb2 v;generalize rG:Doc.forbidden k=fb at *;cases fb
       ·have HD5:=HD4.o;simp only[Bool.false_eq_true,if_false]at HD5;have HD5:=di HD5;generalize Doc.eX S.syms k=fs at *;go_wp2_with fail;go_region_held3 (fun X=>X.cell? ⟨K,4,none⟩=some (.string ⟨k.toArray⟩)) (go_keep) (first|(go_at_call 185;refine(wN.o _ (by first|exact O.o|exact O.o.drew)).mono ?_;rintro h u ⟨rfl,rfl⟩));cases fs with
        | some sx=>
         have hps:placeOf (some sx)=(sx:Int):=rfl;have e:Hid (R=.error (6,p1)):=HD5.o;exact amm
        | none=>
         rw[show placeOf none=(-1:Int) from rfl];have HD6:=HD5.o;simp only[Option.isSome_none,Bool.false_eq_true,if_false]at HD6;have HD6:=di HD6
         by_cases hj2:2<a.length
         ·have e:Hid (R=.error (7,q2)):=by show _=_;rw[HD6.o,if_pos hj2]
          exact amm
         ·have HD7:=HD6.o;rw[if_neg hj2]at HD7;have HD7:=di HD7;have afg:=di ((jF.new c k 174).below (af.drew));have HB3:=di ((O.o.alloc hsz1 (.cells #[.string ⟨k.toArray⟩,.slice none 0 0,.int .i64 0] 174)).drew);have BR:=di (fun n W=>OJ n W);have QL:Hid (w.heap.size<c.heap.size):=by have:=ai bp;exact this
          have HBP:Hid (∀W,Below c.heap.size c W->W.cell? ⟨w.heap.size,3,none⟩=some (.int .i64 p)):=fun W i=>(i.cell (p:=⟨w.heap.size,3,none⟩) QL.o).trans bp;have agn:Hid (Below c.heap.size c ((c.alloc (.cells #[.string ⟨k.toArray⟩,.slice none 0 0,.int .i64 0] 174)).drew)):=ag.drew;go_wp2_with fail
          go_loopw [11] (fun F wr=>∃(j:Nat) (bq:Value) (l:List Nat),F=.int .i64 j/\j<=a.length/\l.length<=j/\jF c.heap.size wr k 0 bq l/\Below w.heap.size w wr/\Below c.heap.size c wr/\Doc.jd a j l) (fun F _=>a.length-(intOf F).toNat)
          case atStart=>exact⟨0,_,[],rfl,aO,aP,afg.o,HB3.o,agn.o,Doc.jd.zero a⟩
          case round=>
           obtain⟨j2,bq,l,rfl,ahg,hll,hsb,m,Ww,htk⟩:=hrel;have LF:=di hsb;have mo:=di m;have Q4:=di Ww;have ru:=di htk;obtain⟨n0,n1,n2,n3⟩:=Dn.o.all _ m;simp only[Nat.reduceMul,Nat.reduceAdd]at n0 n1 n2 n3;clear htk a0' a1' Lf a3' b0' b1' b2' b3' bp bk
           by_cases Wj:j2<a.length
           ·obtain⟨D,s,rfl,N,htc,hjx⟩:=HJ.o j2 Wj;have t0:=(htc _ m).x;have t1:=(htc _ m).b;have t2:=(htc _ m).k;have t3:=(htc _ m).p;have x:=BR.o s wr;rw[hjx]at x;have x:=di x;have HKJ:=di N;have jO:=di (fun hs=>ru.o.next Wj hs);have y8:=di (fun hs=>ru.o.bad Wj hs);obtain⟨P,Q,rfl,hv1,hv2⟩:=fM hsb.row;clear N htc hsb m Ww;generalize Doc.fw a[j2].text=d at *;generalize a[j2].pos=pj at *;go_wp2_with fail;refine x.o.mono ?_;rintro h u ⟨rfl,y⟩;have hbw2:=mo.o.trans (y.mono mo.o.size);have ug:=di hbw2;have kL:=di (Q4.o.trans (y.mono Q4.o.size));have z:=di (LF.o.below y);obtain⟨_,_,k2c,_⟩:=Dn.o.all _ hbw2;simp only[Nat.reduceMul,Nat.reduceAdd]at k2c;obtain⟨_,_,_,m3'⟩:=HKJ.o.all _ hbw2;clear y hbw2 n0 n1 n2 n3 t0 t1 t2 t3
            by_cases Ky:d=2\/d=3
            ·have Dk:=di (jO.o Ky)
             have hcs:((d:Int) !=2)=false\/(((d:Int) !=2)=true/\((d:Int) !=3)=false):=by
              rcases Ky with t|t
              ·exact .inl (by rw[t];rfl)
              ·exact .inr ⟨by rw[t];rfl,by rw[t];rfl⟩
             have x1c:=z.o.c1;have xfr:=z.o.fr;have kH:=di z.o.row;have hsz2:=z.o.size;have agA:l.length<=1000:=aO;clear Ky;rcases hcs with ho|⟨ho,ho3⟩
             all_goals
              go_wp2_with (at_builtin;refine dD rfl (.tmp 141) (.tmp 143) 57 rfl (c.heap.size+1) 3 i0 (.int .i64 0) 1 8 Tryz.underlying57 hi hz0 hz1 hz2 rfl aR (.slice P l.length Q) l.length (l.map (fun bg:Nat=>Value.int .i64 (bg:Int))) rfl ajP ⟨u.heap.size,0,none⟩ 1 [.int .i64 (d:Int)] rfl rfl bM bX aX aO aQ ?_;intro G T w3 hown' E hg1 M;have q1:w3.cell? ⟨c.heap.size,1,none⟩=some (.slice P l.length Q):=((dP E (a:=⟨c.heap.size,1,none⟩) aQ (fun h=>by have:=(kH.o.lt c.heap.size h.symm).1;omega)).trans (dC _ _ ⟨c.heap.size,1,none⟩ aQ)).trans x1c;have q2':w3.frozen? ⟨c.heap.size,1,none⟩=false:=((dS E (a:=⟨c.heap.size,1,none⟩) aQ (fun h=>by have:=(kH.o.lt c.heap.size h.symm).1;omega)).trans (dI _ _ ⟨c.heap.size,1,none⟩ aQ)).trans (xfr 1));have hap:=fE (eb:=c.heap.size) (f:=1) aO (kH.o.alloc _) aQ ((dC u _ ⟨c.heap.size,1,none⟩ hsz2).trans x1c) hown' E M;have Me:=di (z.o.app _ hap);clear hap hown' E hg1 M;go_wp2_with fail;go_roundw
              case rel=>exact⟨j2+1,_,l++[d],bJ,aO,aQ,Me.o.1,ug.o.trans (Me.o.2.mono (by have:=QL.o;omega)),kL.o.trans Me.o.2,Dk.o⟩
              case measure=>exact akL
            ·have o2:((d:Int) !=2)=true:=aZ;have o3:((d:Int) !=3)=true:=aZ;have e:Hid (R=.error (7,pj)):=by show _=_;rw[HD7.o,y8.o Ky]
             clear Ky;go_wp2_with fail;go_quiet (fail);go_wp2_with fail;go_ret2;rw[e.o];exact o.o _ _ _ (below_drewN ug.o _)
           ·have T9:=ru.o.end aO;have U:=HD7.o;rw[T9]at U;have U:=di U;have t0:=(HT3.o _ m).x;have t1:=(HT3.o _ m).b;have t2:=(HT3.o _ m).k;have t3:=(HT3.o _ m).p;simp only[Nat.reduceMul,Nat.reduceAdd]at t0 t1 t2 t3;have x:=BR.o uE wr;have hx3:=N9.o;rw[hx3]at x t0;have x:=di x;obtain⟨P,Q,rfl,hv1,hv2⟩:=fM hsb.row;clear T9 hsb m Ww;generalize Doc.fw x3=d at *;go_wp2_with fail;refine x.o.mono ?_;rintro h u ⟨rfl,y⟩;have z:=di (LF.o.below y);have QN:=di (z.o.Zz d);have hb5:=(mo.o.trans (y.mono mo.o.size)).setCell (p:=⟨c.heap.size,2,none⟩) (by have:=QL.o;simp only;omega) (.int .i64 d);have hb6:=(Q4.o.trans (y.mono Q4.o.size)).setCell (p:=⟨c.heap.size,2,none⟩) aP (.int .i64 d);have rF:=di hb5;have bp2:=HBP.o _ hb6;obtain⟨_,_,_,d3⟩:=HK3.o.all _ hb5;simp only[Nat.reduceMul,Nat.reduceAdd]at d3;have u2:=z.o.c2;have ufr:=z.o.fr;have x0:=QN.o.c0;have x1':=QN.o.c1;have x2:=QN.o.c2;have hst:=HS.o.below hb5;obtain⟨H,I,_,_,_,_,_,_,f0,_,_,_,g0,g0',_⟩:=hst.fields;have su:=hst.fr 0;have hltW:=hst.lt;have HST:=di hst;clear y hb5 hb6 n0 n1 n2 n3 t0 t1 t2 t3 hst
            by_cases J:d=0
            ·have o0:((d:Int)==0)=true:=by rw[J];rfl
             have e:Hid (R=.error (7,p3)):=by show _=_;rw[U.o,if_pos J]
             clear J;exact amr
            ·have o0:((d:Int)==0)=false:=aj aO
             by_cases h8:S.syms.length=8
             ·have o8:((S.syms.length:Int)==8)=true:=by rw[h8];rfl
              have e:Hid (R=.error (9,p)):=by show _=_;rw[U.o,if_neg J,if_pos h8]
              clear J h8;exact amr
             ·have o8:((S.syms.length:Int)==8)=false:=aj aO;have e:Hid (R=.ok { S with syms:=S.syms++[⟨k,l,d⟩] }):=by show _=_;rw[U.o,if_neg J,if_neg h8]
              clear J h8;obtain⟨vS,V,l2⟩:=HST.o.syms;have hvS:vS=.slice H S.syms.length I:=by rw[f0]at V;injection V with V;exact V.symm
              subst hvS;have Ut:=di V;have HL2:=di l2
              have hne:(Value.slice H S.syms.length I).ownBlock≠some g:=by
               intro t;obtain⟨_,_,c1,hc1⟩:=l2.type g t;obtain⟨c2,hc2⟩:=HST.o.obj;exact gp hc1 hc2 aR rfl
              have kZ:=di hne;obtain⟨xs,y1,y2,y3,y4⟩:=l2;have rq:=di y1;have HX:=di (show fO (vN (u.setCell ⟨c.heap.size,2,none⟩ (.int .i64 d)) own) xs S.syms/\(∀C∈xs,C.length=3) from⟨y2,y3⟩);have pO:=hw.book.few;have Y6:=di (lS.o.below rF.o);clear y1 y2 y3 y4 hne V;have f0b:((u.setCell ⟨c.heap.size,2,none⟩ (.int .i64 d)).alloc (.cells #[.string ⟨k.toArray⟩,.slice P l.length Q,.int .i64 d] 174)).cell? ⟨g,0,none⟩=some (.slice H S.syms.length I):=(dC _ _ ⟨g,0,none⟩ hltW).trans f0;go_upto_region 36 with fail
              go_cut [] (fun wx=>∃G T own',jg (u.setCell ⟨c.heap.size,2,none⟩ (.int .i64 d)) wx own own' A g 0 (.slice H S.syms.length I) (.slice (some ⟨G,0,none⟩) (S.syms.length+1) T)/\wx.ownsRow 0 174 3 (.slice (some ⟨G,0,none⟩) (S.syms.length+1) T) (S.syms.length+1) (xs.flatten++lX k (.slice P l.length Q) d)/\own' G=A)
              case first=>
               go_region_law (refine iH rfl (.tmp 172) (.tmp 174) 77 rfl 0 174 i1 (.agg #[.string ⟨#[]⟩,.slice none 0 0,.int .i64 0]) 3 48 Tryz.underlying77 hiS ael aek aej rfl aR (.slice H S.syms.length I) S.syms.length xs.flatten bZ aiK ⟨u.heap.size,0,none⟩ 1 (lX k (.slice P l.length Q) d) bZ rfl (by exact Ru _ k _ _ _ _ _ _ aik) (Zt _ _ _ _ _) aX aO aP ?_;intro G T w5 hown' E hg1 M;have z1:w5.cell? ⟨g,0,none⟩=some (.slice H S.syms.length I):=((dP E (a:=⟨g,0,none⟩) (by show g<_;have:=hltW;simp at this ⊢;omega) (fun h=>kZ.o h.symm)).trans (dC _ _ ⟨g,0,none⟩ hltW)).trans f0;have z2:w5.frozen? ⟨g,0,none⟩=false:=((dS E (a:=⟨g,0,none⟩) (by show g<_;have:=hltW;simp at this ⊢;omega) (fun h=>kZ.o h.symm)).trans (dI _ _ ⟨g,0,none⟩ hltW)).trans su)
               all_goals
                have hap:=nS (n:=S.syms.length+1) HL2.o Y6.o HST.o.mine HST.o.lt kZ.o ((ag).drew) Ut.o hown' E M;go_wp2_with fail;go_meet
                case rel=>exact⟨G,T,_,hap.1,hap.2.1,aiN⟩
              case rest=>
               obtain⟨G,T,own',uq,hown2,qK⟩:=hcut;have jN:=di uq;have HOWN:=di hown2;have uJ:=di qK;clear uq hown2 qK f0 f0b su x0 x1' x2 bp2 d3 u2 ufr;go_wp2_with fail;go_ret2;rw[e.o];refine⟨own',(Fr.of_below A lS.o rF.o).trans jN.o.fr,rfl,HST.o.rZ Ut.o jN.o hk ?_⟩;refine dN.snoc (w:=(u.setCell ⟨c.heap.size,2,none⟩ (.int .i64 d))) (C:=vN (u.setCell ⟨c.heap.size,2,none⟩ (.int .i64 d)) own) (v:=.slice H S.syms.length I) ⟨rq.o,HX.o.1,HX.o.2⟩ HOWN.o (fun n bg t=>kM _ _ own own' (fun bn i h0=>⟨jN.o.fr.block bn i aO,by rw[jN.o.fr.ext bn i,h0]⟩) n bg t) ⟨_,rfl,?_⟩ rfl uJ.o;exact(QN.o.ints (own:=own) (fun bn i=>lS.o bn (by have:=QL.o;omega))).fr jN.o.fr hk
       ·have e:Hid (R=.error (5,p1)):=by show _=_;rw[HD4.o];rfl
        go_wp2_with fail;go_quiet (fail);go_wp2_with fail;go_ret2;rw[e.o];exact o.o _ _ _ (below_drewN O.o _)
      ·have e:Hid (R=.error (4,p3)):=by show _=_;rw[HD3.o];rfl
       exact ale
  ·rw[hi1]at a1;have e:Hid (R=.error (4,f.pos)):=by show _=_;rw[HD.o];simp[Doc.lq,hi1]
   clear hi1 v;exact amZ
 ·have o4:((b.length:Int) !=4)=true:=aZ;have e:Hid (Doc.declare S p b=.error (4,p)):=Doc.C8 Z;generalize Doc.declare S p b=R at *;clear Z v hS hfr Y;exact amZ
theorem Jq (s:Nat)(w:World):Calls Tryz.prog 107 #[.int .i64 s] w fun f g=>f=.returned (dO (Doc.gZ s))/\g=w:=by
 have d:Hid (Doc.gZ s=if s=1 then [66,111,111,108] else if s=2 then [73,110,116] else [85]):=rfl;generalize Doc.gZ s=e at *
 by_cases a:s=1
 ·have h:((s:Int)==1)=true:=by rw[a];rfl
  have b:Hid (e=[66,111,111,108]):=by show _=_;rw[d.o,if_pos a]
  clear a;exact alR
 ·have h:((s:Int)==1)=false:=aj aO
  by_cases c:s=2
  ·have i:((s:Int)==2)=true:=by rw[c];rfl
   have b:Hid (e=[73,110,116]):=by show _=_;rw[d.o,if_neg a,if_pos c]
   clear a c;exact alR
  ·have i:((s:Int)==2)=false:=aj aO;have b:Hid (e=[85]):=by show _=_;rw[d.o,if_neg a,if_neg c]
   clear a c;exact alR
theorem aac (b:Bool)(w:World):Calls Tryz.prog 159 #[.bool b] w fun e a=>e=.returned (dO (if b=true then [49] else [48]))/\a=w:=by
 cases b
 ·exact amW
 ·exact amW
end Go.Proofs.YtbichedkajfmiaaGreatDoor
