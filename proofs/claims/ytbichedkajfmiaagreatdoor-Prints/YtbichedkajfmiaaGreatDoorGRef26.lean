import Derived.Test.YtbichedkajfmiaaGreatDoorGPC23
import Derived.Test.YtbichedkajfmiaaGreatDoorGRef25
import Derived.Test.YtbichedkajfmiaaGreatDoorC
set_option maxRecDepth 100000
set_option maxHeartbeats 16000000
namespace Go.Proofs.YtbichedkajfmiaaGreatDoor
open Go.RowKit
variable {U W u w:World}{V v y:Value}{k m n:Nat}{o:Own}
theorem dE.boxed {own:Own}{B c:Nat}{S:Doc.dB}(h:dE w own n m S)(a:Below w.heap.size w W)(e:w.heap.size<=B):dE W (dw own B c) n m S:=
 h.step (fun b d _=>⟨a.block b d,by unfold dw;rw[if_neg aO]⟩)
theorem dE.unbox {own:Own}{B:Nat}{S:Doc.dB}(h:dE w own n m S)(d:∀b,b≠B->W.heap[b]?=w.heap[b]?)(e:own B≠0)(f:own B≠n):dE W (dw own B 0) n m S:=
 h.step (fun b _ a=>by
  have c:b≠B:=by intro g;rw[g]at a;rcases a with h|h;exact e h;exact f h
  exact⟨d b c,by unfold dw;rw[if_neg c]⟩)
theorem iZ {own:Own}{c:Doc.dB}(h:Fr own (dw own k (n+1)) n w W)(a:w.heap.size<=k)(i:k<W.heap.size)(d:Fr (dw own k (n+1)) o n W u)(j:dE u o n m c)
 (e:((u.setCell ⟨k,0,none⟩ v).setCell ⟨k,1,none⟩ V).setCell ⟨k,2,none⟩ y=U):∃f,Fr own f n w U/\dE U f n m c:=by
 have l:o k=n+1:=by rw[d.ext k i];unfold dw;rw[if_pos rfl]
 have g:=(((h.trans d).setCell (p:=⟨k,0,none⟩) a v).setCell (p:=⟨k,1,none⟩) a V).setCell (p:=⟨k,2,none⟩) a y;rw[e]at g;refine⟨dw o k 0,g.unbox a,j.unbox (fun p b=>?_) aO aO⟩;rw[<-e];exact(aC b).trans ((aC b).trans (aC b))
structure qz (W:World)(B:Nat):Prop where
 c0:W.cell? ⟨B,0,none⟩=some (.int .i64 0)
 c1:W.cell? ⟨B,1,none⟩=some (.int .i64 0)
 c2:W.cell? ⟨B,2,none⟩=some (.bool false)
 fr:∀j,W.frozen? ⟨B,j,none⟩=false
theorem qz.of_block (h:qz w n)(e:W.heap[n]?=w.heap[n]?):qz W n:=
 ⟨(World.cell?_of_block (w:=w) (a:=⟨n,0,none⟩) e).trans h.c0,(World.cell?_of_block (w:=w) (a:=⟨n,1,none⟩) e).trans h.c1,(World.cell?_of_block (w:=w) (a:=⟨n,2,none⟩) e).trans h.c2,fun j=>(World.frozen?_of_block (w:=w) (a:=⟨n,j,none⟩) e).trans (h.fr j)⟩
theorem qz.start (w:World):qz (w.alloc (.cells #[.int .i64 0,.int .i64 0,.bool false] 147)) w.heap.size:=⟨aP,aP,aP,fun j=>aP⟩
def ib (S:Doc.dB)(R:Except (Nat × Nat) (Doc.dB × Bool)):Nat × Nat × Bool × Doc.dB:=match R with
 | .error x=>(x.1,x.2,false,S)
 | .ok r=>(0,0,r.2,r.1)
def adD (w w':World)(own:Own)(k sb:Nat)(R:Nat × Nat × Bool × Doc.dB)(e:Ending):Prop:=∃own',Fr own own' k w w'/\e=.returned (.agg #[.int .i64 (R.1:Nat),.int .i64 (R.2.1:Nat),.bool R.2.2.1])/\dE w' own' k sb R.2.2.2
theorem ac7 {S:Doc.dB}{R:Except (Nat × Nat) Doc.dB}:ib S (R.map (fun s=>(s,false)))=match R with|.error x=>(x.1,x.2,false,S)|.ok s=>(0,0,false,s):=by cases R<;>rfl
theorem aal (J r:Nat)(own:Own)(S:Doc.dB)(W:List UInt8)(w:World)(hS:dE w own r J S)(hfr:dH own w)(hk:r≠0)(hw:Doc.fQ S)(hl:W.length<=1000000) :
 Calls Tryz.prog 95 #[.pointer (some ⟨J,0,none⟩),.string ⟨W.toArray⟩] w fun bg w'=>adD w w' own r J (ib S (Doc.jV S W)) bg:=by
 have hR0:=fJ;have lS:=di hfr;have HS:=di hS
 by_cases h4:400<W.length
 ·have hd:Doc.jV S W=.error (1,0):=by unfold Doc.jV;rw[if_pos h4]
  rw[hd];clear hd hS hfr hw;go_enter Tryz.func95,Tryz.ntmps95;go_wp2_with fail;exact bodyPost_ret (v:=.agg #[.int .i64 1,.int .i64 0,.bool false]) (by simp[results,Tryz.results95,go_sem]) rfl ⟨own,Fr.of_below r lS.o ag,rfl,HS.o.below ag⟩
 ·rw[show Doc.jV S W=AY S W by unfold Doc.jV AY;rw[if_neg h4];cases Doc.parse W<;>rfl];obtain⟨Y,hW1⟩:∃Y,w.alloc (.cells #[.int .i64 0,.int .i64 0,.bool false] 147)=Y:=⟨_,rfl⟩;have M:Below w.heap.size w Y:=aiA;have v:Hid (qz Y w.heap.size):=by show qz Y _;rw[<-hW1];exact qz.start w
  have hsz:Y.heap.size=w.heap.size+1:=ahZ;have s:Hid (Fr own (dw own w.heap.size (r+1)) r w Y):=Fr.boxed hfr M ae aO;have kG:Hid (dE Y (dw own w.heap.size (r+1)) r J S):=hS.boxed M ae;have Cf:Hid (dw own w.heap.size (r+1) w.heap.size≠r):=bR;have BS:=di (H8 W Y hl);unfold AY;clear hS hfr M;cases hp:Doc.parse W with
  | error x=>
   obtain⟨c,d⟩:=x;have hne:=Doc.JG hp;simp only at hne;rw[hp]at BS;have hen:((c:Int) !=0)=true:=aZ;have n:Hid (ib S (.error (c,d))=(c,d,false,S)):=rfl;clear hp hw;simp only;go_enter Tryz.func95,Tryz.ntmps95;go_wp2_with fail;refine BS.o.mono ?_;rintro bg t ⟨⟨K,rfl⟩,M⟩;have Ha:=M.alloc M.size (.cells #[.string ⟨K.x.toArray⟩,.bool K.bb,.slice K.ao K.m K.cap,.int .i64 K.p] 138);have y:=di (Fr.of_below r s.o.dJ Ha);have HS2:=di (kG.o.below Ha);have D7:=di (y.o.block w.heap.size aO Cf.o);clear Ha M;go_upto_region 4 with fail
   generalize t.alloc (.cells #[.string ⟨K.x.toArray⟩,.bool K.bb,.slice K.ao K.m K.cap,.int .i64 K.p] 138)=wa at *;have a:=v.o.of_block D7.o;have e:=a.c0;have f:=a.c1;have g:=a.c2;have G:=a.fr;obtain⟨H,h,i,j,k,_,_⟩:=iI e f g (.int .i64 (c:Int)) (.int .i64 (d:Int)) (.bool false);have l:=di (iZ s.o ae aO y.o HS2.o h);clear a;go_wp2_with fail;refine bodyPost_ret (v:=.agg #[.int .i64 (c:Int),.int .i64 (d:Int),.bool false]) bO rfl ?_;obtain⟨m,c,d⟩:=l.o;exact⟨m,c,rfl,d⟩
  | ok bC=>
   obtain⟨p,b,rfl,Kz,PE⟩:=Doc.zy hp;rw[hp]at BS;have Kq:Doc.eu b<=800:=aO;simp only[Doc.Tr.pos,Doc.Tr.kids];obtain⟨R,hR⟩:=aJ (Doc.run S p b);have HR:=di hR;rw[hR];have X:=di (⟨Kz,Kq,hw⟩:Doc.oks b/\Doc.eu b<=800/\Doc.fQ S);clear hp PE hR Kz Kq hw;go_enter Tryz.func95,Tryz.ntmps95;go_wp2_with fail;refine BS.o.mono ?_;rintro bg t ⟨⟨K,rfl,hc⟩,M⟩;obtain⟨O,N,rfl,hc1,hc2,zP⟩:=hc.kids;have Ha:=M.alloc M.size (.cells #[.string ⟨#[]⟩,.bool true,.slice O b.length N,.int .i64 p] 138);have hbx:Below t.heap.size t (t.alloc (.cells #[.string ⟨#[]⟩,.bool true,.slice O b.length N,.int .i64 p] 138)):=ag;have y:=di (Fr.of_below r s.o.dJ Ha);have u:=di (kG.o.below Ha);have D7:=di (y.o.block w.heap.size aO Cf.o)
   have TW:Hid (ik (t.alloc (.cells #[.string ⟨#[]⟩,.bool true,.slice O b.length N,.int .i64 p] 138)) (fun bn=>dw own w.heap.size (r+1) bn=0) 13 ⟨[],true,O,b.length,N,p⟩ (.list p b)):=
    ik.kept (fun bn hg hP=>⟨hbx.block bn hg,s.o.dJ bn hP⟩) 13 _ _ hc
   have Uw:Hid (dH (dw own w.heap.size (r+1)) (t.alloc (.cells #[.string ⟨#[]⟩,.bool true,.slice O b.length N,.int .i64 p] 138))):=y.o.dJ;have b0:(t.alloc (.cells #[.string ⟨#[]⟩,.bool true,.slice O b.length N,.int .i64 p] 138)).cell? ⟨t.heap.size,0,none⟩=some (.string ⟨#[]⟩):=aP;have b1:(t.alloc (.cells #[.string ⟨#[]⟩,.bool true,.slice O b.length N,.int .i64 p] 138)).cell? ⟨t.heap.size,1,none⟩=some (.bool true):=aP;have b2:(t.alloc (.cells #[.string ⟨#[]⟩,.bool true,.slice O b.length N,.int .i64 p] 138)).cell? ⟨t.heap.size,2,none⟩=some (.slice O b.length N):=aP;have b3:(t.alloc (.cells #[.string ⟨#[]⟩,.bool true,.slice O b.length N,.int .i64 p] 138)).cell? ⟨t.heap.size,3,none⟩=some (.int .i64 p):=aP
   by_cases h0:b.length=0
   ·have hnil:b=[]:=List.length_eq_zero_iff.1 h0;have n:Hid (ib S R=(4,p,false,S)):=by show _=_;rw[<-HR.o,hnil];rfl
    have tl:((b.length:Int)==0)=true:=by rw[h0];rfl
    clear hnil h0 zP hc M Ha hbx TW;generalize b.length=bB at *;go_upto_region 4 with fail;generalize t.alloc (.cells #[.string ⟨#[]⟩,.bool true,.slice O bB N,.int .i64 p] 138)=wa at *;exact ak1
   ·have hpos:0<b.length:=aO;obtain⟨bn,rfl,_,kc,hkc,hkt⟩:=zP 0 hpos;have Bn:=hkc.block (hbx.block bn (ai hkc.x));have m0:=Bn.x;have m3:=Bn.p;simp only[Nat.zero_mul,Nat.zero_add]at m0 m3;rw[hkt.text]at m0;rw[hkt.pos]at m3;have I:Hid (R=_):=HR.o.symm.trans (Doc.Jv (S:=S) (p:=p) (aD hpos));have tl:((b.length:Int)==0)=false:=aj aO;have tl0:(0:Int)<(b.length:Int):=aO;clear zP hkc Bn hkt hc M Ha hbx h0;generalize b[0].text=x at *;generalize b[0].pos=ps at *;go_upto_region 4 with fail
    generalize t.alloc (.cells #[.string ⟨#[]⟩,.bool true,.slice (some ⟨bn,0,none⟩) b.length N,.int .i64 p] 138)=wa at *
    by_cases z:x=[100,101,99,108,97,114,101,45,102,117,110]
    ·have q:Hid (R=(Doc.declare S p b).map (fun bq=>(bq,false))):=by
      show _=_;rw[I.o];rw[if_pos (show x=Doc.fV from z)]
     have P:=di (M8 J r _ S p b _ wa u.o Uw.o hk X.o.2.2 TW.o X.o.1 X.o.2.1);obtain⟨A,Q⟩:=aJ (Doc.declare S p b);rw[Q]at P q;clear Q I;subst z;go_wp2_with fail;refine P.o.mono ?_;rintro bg w6 ⟨Vo,B,T⟩;have C:=di (y.o.trans B);have U:=di (C.o.block w.heap.size aO Cf.o);cases A with
     | ok S6=>
      exact akT
     | error bA=>
      exact akS
    ·skip
     by_cases L:x=[97,115,115,101,114,116]
     ·have q:Hid (R=(Doc.assert S p b).map (fun bq=>(bq,false))):=by
       show _=_;rw[I.o];rw[if_neg (show ¬x=Doc.fV from z)];rw[if_pos (show x=Doc.iM from L)]
      have P:=di (Qt J r _ S p b _ wa u.o Uw.o hk X.o.2.2 TW.o X.o.1 X.o.2.1);obtain⟨A,Q⟩:=aJ (Doc.assert S p b);rw[Q]at P q;clear Q I;clear z;subst L;go_wp2_with fail;refine P.o.mono ?_;rintro bg w6 ⟨Vo,B,T⟩;have C:=di (y.o.trans B);have U:=di (C.o.block w.heap.size aO Cf.o);cases A with
      | ok S6=>
       exact akT
      | error bA=>
       exact akS
     ·skip
      by_cases V:x=[112,117,115,104]
      ·have q:Hid (R=(Doc.push S p b).map (fun bq=>(bq,false))):=by
        show _=_;rw[I.o];rw[if_neg (show ¬x=Doc.fV from z)];rw[if_neg (show ¬x=Doc.iM from L)];rw[if_pos (show x=Doc.nZ from V)]
       have P:=di (Vf J r _ S p b _ wa u.o Uw.o hk X.o.2.2 TW.o hpos X.o.2.1);obtain⟨A,Q⟩:=aJ (Doc.push S p b);rw[Q]at P q;clear Q I;clear z;clear L;subst V;go_wp2_with fail;refine P.o.mono ?_;rintro bg w6 ⟨Vo,B,T⟩;have C:=di (y.o.trans B);have U:=di (C.o.block w.heap.size aO Cf.o);cases A with
       | ok S6=>
        exact akT
       | error bA=>
        exact akS
      ·skip
       by_cases Z:x=[112,111,112]
       ·have q:Hid (R=(Doc.pop S p b).map (fun bq=>(bq,false))):=by
         show _=_;rw[I.o];rw[if_neg (show ¬x=Doc.fV from z)];rw[if_neg (show ¬x=Doc.iM from L)];rw[if_neg (show ¬x=Doc.nZ from V)];rw[if_pos (show x=Doc.xK from Z)]
        have P:=di (ZL J r _ S p b _ wa u.o Uw.o hk X.o.2.2 TW.o hpos X.o.2.1);obtain⟨A,Q⟩:=aJ (Doc.pop S p b);rw[Q]at P q;clear Q I;clear z;clear L;clear V;subst Z;go_wp2_with fail;refine P.o.mono ?_;rintro bg w6 ⟨Vo,B,T⟩;have C:=di (y.o.trans B);have U:=di (C.o.block w.heap.size aO Cf.o);cases A with
        | ok S6=>
         exact akT
        | error bA=>
         exact akS
       ·skip
        by_cases kC:x=[99,104,101,99,107,45,115,97,116]
        ·have q:Hid (R=if b.length=1 then .ok (S,true) else .error (4,p)):=by
          show _=_;rw[I.o];rw[if_neg (show ¬x=Doc.fV from z)];rw[if_neg (show ¬x=Doc.iM from L)];rw[if_neg (show ¬x=Doc.nZ from V)];rw[if_neg (show ¬x=Doc.xK from Z)];rw[if_pos (show x=Doc.mW from kC)]
         clear I;clear z;clear L;clear V;clear Z;subst kC
         by_cases h1:1<b.length
         ·exact amY
         ·have n:Hid (ib S R=(0,0,true,S)):=by show _=_;rw[q.o,if_pos aO];rfl
          have t1:¬((1:Int)<(b.length:Int)):=aO;clear h1;have a:=v.o.of_block D7.o;have e:=a.c0;have f:=a.c1;have g:=a.c2;have G:=a.fr;obtain⟨H,h,i,j,k,_,_⟩:=iI e f g (.int .i64 (0:Int)) (.int .i64 (0:Int)) (.bool true);have l:=di (iZ s.o ae aO y.o u.o h);clear a;go_wp2_with fail;refine bodyPost_ret (v:=.agg #[.int .i64 (0:Int),.int .i64 (0:Int),.bool true]) bO rfl ?_;obtain⟨m,c,d⟩:=l.o;rw[n.o];exact⟨m,c,rfl,d⟩
        ·skip
         by_cases nP:x=[114,101,115,101,116]
         ·have q:Hid (R=if b.length=1 then .ok (Doc.dB.empty,false) else .error (4,p)):=by
           show _=_;rw[I.o];rw[if_neg (show ¬x=Doc.fV from z)];rw[if_neg (show ¬x=Doc.iM from L)];rw[if_neg (show ¬x=Doc.nZ from V)];rw[if_neg (show ¬x=Doc.xK from Z)];rw[if_neg (show ¬x=Doc.mW from kC)];rw[if_pos (show x=Doc.yz from nP)]
          clear I;clear z;clear L;clear V;clear Z;clear kC;subst nP
          by_cases h1:1<b.length
          ·exact amY
          ·have n:Hid (ib S R=(0,0,false,Doc.dB.empty)):=by show _=_;rw[q.o,if_pos aO];rfl
           have t1:¬((1:Int)<(b.length:Int)):=aO;obtain⟨v0,d0,r0⟩:=u.o.syms;obtain⟨v1,d1,r1⟩:=u.o.terms;obtain⟨v2,d2,r2⟩:=u.o.held;obtain⟨v3,d3,r3⟩:=u.o.levels;have s0:=jU (f:=0) (e:=174) (sz:=3) (n:=0) (v':=.slice none 0 0) (ys:=[]) Uw.o u.o.mine u.o.lt af d0 (World.ownsRow_nil _ _ _ _);have S0:=u.o.rZ d0 s0.1 hk (dN.nil _ _ _ _ _ _);have d1':=(s0.1.cells 1 aO).trans d1;have s1:=jU (f:=1) (e:=176) (sz:=5) (n:=0) (v':=.slice none 0 0) (ys:=[]) s0.1.fr.dJ S0.mine S0.lt af d1' (World.ownsRow_nil _ _ _ _);have S1:=S0.pK d1' s1.1 hk (dN.nil _ _ _ _ _ _);have Yv:=(s1.1.cells 2 aO).trans ((s0.1.cells 2 aO).trans d2);have s2:=jU (f:=2) (e:=3) (sz:=1) (n:=0) (v':=.slice none 0 0) (ys:=[]) s1.1.fr.dJ S1.mine S1.lt af Yv (World.ownsRow_nil _ _ _ _);have S2:=S1.si Yv s2.1 hk (dN.nil _ _ _ _ _ _);have Yu:=(s2.1.cells 3 aO).trans ((s1.1.cells 3 aO).trans ((s0.1.cells 3 aO).trans d3));have s3:=jU (f:=3) (e:=172) (sz:=3) (n:=0) (v':=.slice none 0 0) (ys:=[]) s2.1.fr.dJ S2.mine S2.lt af Yu (World.ownsRow_nil _ _ _ _);have S3:=S2.nI Yu s3.1 hk (dN.nil _ _ _ _ _ _);have EA:=u.o.fr;have PT:=((s0.1.fr.trans s1.1.fr).trans s2.1.fr).trans s3.1.fr;obtain⟨wr,hwr⟩:∃wr,(((wa.setCell ⟨J,0,none⟩ (.slice none 0 0)).setCell ⟨J,1,none⟩ (.slice none 0 0)).setCell ⟨J,2,none⟩ (.slice none 0 0)).setCell ⟨J,3,none⟩ (.slice none 0 0)=wr:=⟨_,rfl⟩;rw[hwr]at PT S3;have L6:=di (y.o.trans PT);have YR:=di (show dE wr _ r J Doc.dB.empty from S3);have age:=di (L6.o.block w.heap.size aO Cf.o);clear s0 S0 s1 S1 s2 S2 s3 S3 r0 r1 r2 r3 d1' Yv Yu PT h1;have a:=v.o.of_block age.o;have e:=a.c0;have f:=a.c1;have g:=a.c2;have G:=a.fr;obtain⟨H,h,i,j,k,_,_⟩:=iI e f g (.int .i64 (0:Int)) (.int .i64 (0:Int)) (.bool false);have l:=di (iZ s.o ae aO L6.o YR.o h);clear a;go_wp2_with fail;refine bodyPost_ret (v:=.agg #[.int .i64 (0:Int),.int .i64 (0:Int),.bool false]) bO rfl ?_;obtain⟨m,c,d⟩:=l.o;rw[n.o];exact⟨m,c,rfl,d⟩
         ·skip
          have n:Hid (ib S R=(4,ps,false,S)):=by
           show _=_;rw[I.o];rw[if_neg (show ¬x=Doc.fV from z)];rw[if_neg (show ¬x=Doc.iM from L)];rw[if_neg (show ¬x=Doc.nZ from V)];rw[if_neg (show ¬x=Doc.xK from Z)];rw[if_neg (show ¬x=Doc.mW from kC)];rw[if_neg (show ¬x=Doc.yz from nP)];rfl
          have UQ:(x==[100,101,99,108,97,114,101,45,102,117,110])=false:=ajQ;have Zr:(x==[97,115,115,101,114,116])=false:=by simpa using L
          have acU:(x==[112,117,115,104])=false:=by simpa using V
          have adJ:(x==[112,111,112])=false:=by simpa using Z
          have aat:(x==[99,104,101,99,107,45,115,97,116])=false:=by simpa using kC
          have aas:(x==[114,101,115,101,116])=false:=by simpa using nP
          clear z;clear L;clear V;clear Z;clear kC;clear nP;clear I;have a:=v.o.of_block D7.o;have e:=a.c0;have f:=a.c1;have g:=a.c2;have G:=a.fr;obtain⟨H,h,i,j,k,_,_⟩:=iI e f g (.int .i64 (4:Int)) (.int .i64 (ps:Int)) (.bool false);have l:=di (iZ s.o ae aO y.o u.o h);clear a;go_wp2_with fail;refine bodyPost_ret (v:=.agg #[.int .i64 (4:Int),.int .i64 (ps:Int),.bool false]) bO rfl ?_;obtain⟨m,c,d⟩:=l.o;rw[n.o];exact⟨m,c,rfl,d⟩
end Go.Proofs.YtbichedkajfmiaaGreatDoor
