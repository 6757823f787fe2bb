import Derived.Test.YtjiagbaaikifpaaGreatDoorGPC22
import Derived.Test.YtjiagbaaikifpaaGreatDoorGRef25
set_option maxRecDepth 100000
set_option maxHeartbeats 16000000
namespace Go.Proofs.YtjiagbaaikifpaaGreatDoor
open Go.RowKit Go.Proofs.Tryz
variable {U W u w:World}{V v y:Value}{k m n:Nat}{o:Own}
theorem ed.boxed {own:Own}{B c:Nat}{S:Doc.dO}(h:ed w own n m S)(a:dB w W)(e:w.heap.size<=B):ed W (dG own B c) n m S:=
 h.step (λb d _=>⟨a.block b d,by unfold dG;rw[if_neg aR]⟩)
theorem ed.unbox {own:Own}{B:Nat}{S:Doc.dO}(h:ed w own n m S)(d:∀b,b≠B->W.heap[b]?=w.heap[b]?)(e:own B≠0)(f:own B≠n):ed W (dG own B 0) n m S:=
 h.step (λb _ a=>by
  have c:b≠B:=by intro g;rw[g]at a;rcases a with h|h;exact e h;exact f h
  exact⟨d b c,by unfold dG;rw[if_neg c]⟩)
theorem jX {own:Own}{c:Doc.dO}(h:Fr own (dG own k (n+1)) n w W)(a:w.heap.size<=k)(i:k<W.heap.size)(d:Fr (dG own k (n+1)) o n W u)(j:ed u o n m c)
 (e:((u.setCell (dA k 0) v).setCell (dA k 1) V).setCell (dA k 2) y=U):∃f,Fr own f n w U/\ed U f n m c:=by
 have l:o k=n+1:=by rw[d.ext k i];unfold dG;rw[if_pos rfl]
 have g:=(((h.trans d).setCell (p:=dA k 0) a v).setCell (p:=dA k 1) a V).setCell (p:=dA k 2) a y;rw[e]at g;refine⟨dG o k 0,g.unbox a,j.unbox (λp b=>?_) aR aR⟩;rw[<-e];exact(aD b).trans ((aD b).trans (aD b))
structure tL (W:World)(B:Nat):Prop where
 c0:W.cell? (dA B 0)=some (dw 0)
 c1:W.cell? (dA B 1)=some (dw 0)
 c2:W.cell? (dA B 2)=some (dP)
 fr:∀j,W.frozen? (dA B j)=false
theorem tL.of_block (h:tL w n)(e:W.heap[n]?=w.heap[n]?):tL W n:=
 ⟨(World.cell?_of_block (w:=w) (a:=dA n 0) e).trans h.c0,(World.cell?_of_block (w:=w) (a:=dA n 1) e).trans h.c1,(World.cell?_of_block (w:=w) (a:=dA n 2) e).trans h.c2,λj=>(World.frozen?_of_block (w:=w) (a:=dA n j) e).trans (h.fr j)⟩
theorem tL.start (w:World):tL (w.alloc (.cells #[dw 0,dw 0,dP] 147)) w.heap.size:=⟨aW,aW,aW,λj=>aW⟩
def jg (S:Doc.dO)(R:Except (Nat × Nat) (Doc.dO × Bool)):Nat × Nat × Bool × Doc.dO:=match R with
 | .error x=>(x.1,x.2,false,S)
 | .ok r=>(0,0,r.2,r.1)
def ahp (w w':World)(own:Own)(k sb:Nat)(R:Nat × Nat × Bool × Doc.dO)(e:Ending):Prop:=∃own',Fr own own' k w w'/\e=dF (.agg #[dw (R.1:Nat),dw (R.2.1:Nat),.bool R.2.2.1])/\ed w' own' k sb R.2.2.2
theorem ad3 (J r:Nat)(own:Own)(S:Doc.dO)(W:dN)(w:World)(hS:ed w own r J S)(hfr:eD own w)(hk:r≠0)(hw:Doc.iq S)(hl:W.length<=1000000) :
 dH 96 #[dK J 0,dD W] w λbg w'=>ahp w w' own r J (jg S (Doc.lK S W)) bg:=by
 have hR0:=gU;have nV:=dn hfr;have HS:=dn hS
 by_cases h4:400<W.length
 ·have hd:Doc.lK S W=.error (1,0):=by unfold Doc.lK;rw[if_pos h4]
  rw[hd];clear hd hS hfr hw;go_enter func96,ntmps96;go_wp2;exact dR (.agg #[dw 1,dw 0,dP]) (by simp[results,results96,go_sem]) rfl ⟨own,Fr.of_below r nV.o ai,rfl,HS.o.below ai⟩
 ·rw[show Doc.lK S W=Dy S W by unfold Doc.lK Dy;rw[if_neg h4];cases Doc.parse W<;>rfl];obtain⟨Y,hW1⟩:∃Y,w.alloc (.cells #[dw 0,dw 0,dP] 147)=Y:=⟨_,rfl⟩;have M:dB w Y:=amH;have v:Hid (tL Y w.heap.size):=by show tL Y _;rw[<-hW1];exact tL.start w
  have hsz:Y.heap.size=w.heap.size+1:=alZ;have s:Hid (Fr own (dG own w.heap.size (r+1)) r w Y):=Fr.boxed hfr M ae aR;have nS:Hid (ed Y (dG own w.heap.size (r+1)) r J S):=hS.boxed M ae;have Ez:Hid (dG own w.heap.size (r+1) w.heap.size≠r):=bT;have BF:=dn (KY W Y hl);unfold Dy;clear hS hfr M;cases hp:Doc.parse W with
  | error x=>
   obtain⟨c,d⟩:=x;have hne:=Doc.MM hp;simp only at hne;rw[hp]at BF;have hen:((c:Int) !=0)=true:=bJ;have n:Hid (jg S (.error (c,d))=(c,d,false,S)):=rfl;clear hp hw;simp only;go_enter func96,ntmps96;go_wp2_with fail;refine BF.o.mono ?_;rintro bg t ⟨⟨K,rfl⟩,M⟩;have KC:=M.alloc M.size (.cells #[dD K.x,.bool K.bb,.slice K.ao K.m K.cap,dw K.p] 138);have y:=dn (Fr.of_below r s.o.eH KC);have HS2:=dn (nS.o.below KC);have GI:=dn (y.o.block w.heap.size aR Ez.o);clear KC M;go_upto_region 4 with fail
   generalize t.alloc (.cells #[dD K.x,.bool K.bb,.slice K.ao K.m K.cap,dw K.p] 138)=wa at *;have a:=v.o.of_block GI.o;have e:=a.c0;have f:=a.c1;have g:=a.c2;have G:=a.fr;obtain⟨H,h,i,j,k,_,_⟩:=jD e f g (dw (c:Int)) (dw (d:Int)) (dP);have l:=dn (jX s.o ae aR y.o HS2.o h);clear a;go_wp2_with fail;refine dR (.agg #[dw (c:Int),dw (d:Int),dP]) bS rfl ?_;obtain⟨m,c,d⟩:=l.o;exact⟨m,c,rfl,d⟩
  | ok bC=>
   obtain⟨p,b,rfl,NJ,TD⟩:=Doc.Ca hp;rw[hp]at BF;have Nz:Doc.fE b<=800:=aR;simp only[Doc.Tr.pos,Doc.Tr.kids];obtain⟨R,hR⟩:=aK (Doc.run S p b);have HR:=dn hR;rw[hR];have X:=dn (⟨NJ,Nz,hw⟩:Doc.oks b/\Doc.fE b<=800/\Doc.iq S);clear hp TD hR NJ Nz hw;go_enter func96,ntmps96;go_wp2_with fail;refine BF.o.mono ?_;rintro bg t ⟨⟨K,rfl,hc⟩,M⟩;obtain⟨O,N,rfl,hc1,hc2,Cs⟩:=hc.kids;have KC:=M.alloc M.size (.cells #[eB,fu,.slice O b.length N,dw p] 138);have hbx:dB t (t.alloc (.cells #[eB,fu,.slice O b.length N,dw p] 138)):=ai;have y:=dn (Fr.of_below r s.o.eH KC);have u:=dn (nS.o.below KC);have GI:=dn (y.o.block w.heap.size aR Ez.o)
   have Yl:Hid (jy (t.alloc (.cells #[eB,fu,.slice O b.length N,dw p] 138)) (λbn=>dG own w.heap.size (r+1) bn=0) 13 ⟨[],true,O,b.length,N,p⟩ (.list p b)):=
    jy.kept (λbn hg hP=>⟨hbx.block bn hg,s.o.eH bn hP⟩) 13 _ _ hc
   have YE:Hid (eD (dG own w.heap.size (r+1)) (t.alloc (.cells #[eB,fu,.slice O b.length N,dw p] 138))):=y.o.eH;have b0:(t.alloc (.cells #[eB,fu,.slice O b.length N,dw p] 138)).dQ t.heap.size 0=some (eB):=aW;have b1:(t.alloc (.cells #[eB,fu,.slice O b.length N,dw p] 138)).dQ t.heap.size 1=some (fu):=aW;have b2:(t.alloc (.cells #[eB,fu,.slice O b.length N,dw p] 138)).dQ t.heap.size 2=some (.slice O b.length N):=aW;have b3:(t.alloc (.cells #[eB,fu,.slice O b.length N,dw p] 138)).dQ t.heap.size 3=some (dw p):=aW
   by_cases h0:b.length=0
   ·have hnil:b=[]:=List.length_eq_zero_iff.1 h0;have n:Hid (jg S R=(4,p,false,S)):=by show _=_;rw[<-HR.o,hnil];rfl
    have tl:((b.length:Int)==0)=true:=by rw[h0];rfl
    clear hnil h0 Cs hc M KC hbx Yl;generalize b.length=bB at *;go_upto_region 4 with fail;generalize t.alloc (.cells #[eB,fu,.slice O bB N,dw p] 138)=wa at *;exact apx
   ·have hpos:0<b.length:=aR;obtain⟨bn,rfl,_,kc,hkc,hkt⟩:=Cs 0 hpos;have Jz:=hkc.block (hbx.block bn (aj hkc.x));have m0:=Jz.x;have m3:=Jz.p;simp only[Nat.zero_mul,Nat.zero_add]at m0 m3;rw[hkt.text]at m0;rw[hkt.pos]at m3;have I:Hid (R=_):=HR.o.symm.trans (Doc.MB (S:=S) (p:=p) (aF hpos));have tl:((b.length:Int)==0)=false:=ak aR;have tl0:(0:Int)<(b.length:Int):=aR;clear Cs hkc Jz hkt hc M KC hbx h0;generalize b[0].text=x at *;generalize b[0].pos=ps at *;go_upto_region 4 with fail
    generalize t.alloc (.cells #[eB,fu,dJ bn b.length N,dw p] 138)=wa at *
    by_cases z:x=[100,101,99,108,97,114,101,45,102,117,110]
    ·have q:Hid (R=(Doc.declare S p b).map (λbq=>(bq,false))):=by
      show _=_;rw[I.o];rw[if_pos (show x=Doc.iF from z)]
     have P:=dn (QL J r _ S p b _ wa u.o YE.o hk X.o.2.2 Yl.o X.o.1 X.o.2.1);obtain⟨A,Q⟩:=aK (Doc.declare S p b);rw[Q]at P q;clear Q I;subst z;go_wp2_with fail;refine P.o.mono ?_;rintro bg w6 ⟨ZE,B,T⟩;have C:=dn (y.o.trans B);have U:=dn (C.o.block w.heap.size aR Ez.o);cases A with
     | ok S6=>
      exact apo
     | error bA=>
      exact apn
    ·skip
     by_cases L:x=[97,115,115,101,114,116]
     ·have q:Hid (R=(Doc.assert S p b).map (λbq=>(bq,false))):=by
       show _=_;rw[I.o];rw[if_neg (show ¬x=Doc.iF from z)];rw[if_pos (show x=Doc.jH from L)]
      have P:=dn (UD J r _ S p b _ wa u.o YE.o hk X.o.2.2 Yl.o X.o.1 X.o.2.1);obtain⟨A,Q⟩:=aK (Doc.assert S p b);rw[Q]at P q;clear Q I;clear z;subst L;go_wp2_with fail;refine P.o.mono ?_;rintro bg w6 ⟨ZE,B,T⟩;have C:=dn (y.o.trans B);have U:=dn (C.o.block w.heap.size aR Ez.o);cases A with
      | ok S6=>
       exact apo
      | error bA=>
       exact apn
     ·skip
      by_cases V:x=[112,117,115,104]
      ·have q:Hid (R=(Doc.push S p b).map (λbq=>(bq,false))):=by
        show _=_;rw[I.o];rw[if_neg (show ¬x=Doc.iF from z)];rw[if_neg (show ¬x=Doc.jH from L)];rw[if_pos (show x=Doc.qM from V)]
       have P:=dn (Zp J r _ S p b _ wa u.o YE.o hk X.o.2.2 Yl.o hpos X.o.2.1);obtain⟨A,Q⟩:=aK (Doc.push S p b);rw[Q]at P q;clear Q I;clear z;clear L;subst V;go_wp2_with fail;refine P.o.mono ?_;rintro bg w6 ⟨ZE,B,T⟩;have C:=dn (y.o.trans B);have U:=dn (C.o.block w.heap.size aR Ez.o);cases A with
       | ok S6=>
        exact apo
       | error bA=>
        exact apn
      ·skip
       by_cases Z:x=[112,111,112]
       ·have q:Hid (R=(Doc.pop S p b).map (λbq=>(bq,false))):=by
         show _=_;rw[I.o];rw[if_neg (show ¬x=Doc.iF from z)];rw[if_neg (show ¬x=Doc.jH from L)];rw[if_neg (show ¬x=Doc.qM from V)];rw[if_pos (show x=Doc.Ai from Z)]
        have P:=dn (adl J r _ S p b _ wa u.o YE.o hk X.o.2.2 Yl.o hpos X.o.2.1);obtain⟨A,Q⟩:=aK (Doc.pop S p b);rw[Q]at P q;clear Q I;clear z;clear L;clear V;subst Z;go_wp2_with fail;refine P.o.mono ?_;rintro bg w6 ⟨ZE,B,T⟩;have C:=dn (y.o.trans B);have U:=dn (C.o.block w.heap.size aR Ez.o);cases A with
        | ok S6=>
         exact apo
        | error bA=>
         exact apn
       ·skip
        by_cases l9:x=[99,104,101,99,107,45,115,97,116]
        ·have q:Hid (R=if b.length=1 then .ok (S,true) else .error (4,p)):=by
          show _=_;rw[I.o];rw[if_neg (show ¬x=Doc.iF from z)];rw[if_neg (show ¬x=Doc.jH from L)];rw[if_neg (show ¬x=Doc.qM from V)];rw[if_neg (show ¬x=Doc.Ai from Z)];rw[if_pos (show x=Doc.pY from l9)]
         clear I;clear z;clear L;clear V;clear Z;subst l9
         by_cases h1:1<b.length
         ·exact arh
         ·have n:Hid (jg S R=(0,0,true,S)):=by show _=_;rw[q.o,if_pos aR];rfl
          have t1:¬((1:Int)<(b.length:Int)):=aR;clear h1;have a:=v.o.of_block GI.o;have e:=a.c0;have f:=a.c1;have g:=a.c2;have G:=a.fr;obtain⟨H,h,i,j,k,_,_⟩:=jD e f g (dw (0:Int)) (dw (0:Int)) (fu);have l:=dn (jX s.o ae aR y.o u.o h);clear a;go_wp2_with fail;refine dR (.agg #[dw (0:Int),dw (0:Int),fu]) bS rfl ?_;obtain⟨m,c,d⟩:=l.o;rw[n.o];exact⟨m,c,rfl,d⟩
        ·skip
         by_cases qz:x=[114,101,115,101,116]
         ·have q:Hid (R=if b.length=1 then .ok (Doc.dO.empty,false) else .error (4,p)):=by
           show _=_;rw[I.o];rw[if_neg (show ¬x=Doc.iF from z)];rw[if_neg (show ¬x=Doc.jH from L)];rw[if_neg (show ¬x=Doc.qM from V)];rw[if_neg (show ¬x=Doc.Ai from Z)];rw[if_neg (show ¬x=Doc.pY from l9)];rw[if_pos (show x=Doc.AZ from qz)]
          clear I;clear z;clear L;clear V;clear Z;clear l9;subst qz
          by_cases h1:1<b.length
          ·exact arh
          ·have n:Hid (jg S R=(0,0,false,Doc.dO.empty)):=by show _=_;rw[q.o,if_pos aR];rfl
           have t1:¬((1:Int)<(b.length:Int)):=aR;obtain⟨v0,d0,r0⟩:=u.o.syms;obtain⟨v1,d1,r1⟩:=u.o.terms;obtain⟨v2,d2,r2⟩:=u.o.held;obtain⟨v3,d3,r3⟩:=u.o.levels;have s0:=lJ (f:=0) (e:=175) (sz:=3) (n:=0) (v':=dE) (ys:=[]) YE.o u.o.mine u.o.lt af d0 (World.ownsRow_nil _ _ _ _);have S0:=u.o.vg d0 s0.1 hk (eU.nil _ _ _ _ _ _);have d1':=(s0.1.cells 1 aR).trans d1;have s1:=lJ (f:=1) (e:=177) (sz:=5) (n:=0) (v':=dE) (ys:=[]) s0.1.fr.eH S0.mine S0.lt af d1' (World.ownsRow_nil _ _ _ _);have S1:=S0.sD d1' s1.1 hk (eU.nil _ _ _ _ _ _);have d2':=(s1.1.cells 2 aR).trans ((s0.1.cells 2 aR).trans d2);have s2:=lJ (f:=2) (e:=3) (sz:=1) (n:=0) (v':=dE) (ys:=[]) s1.1.fr.eH S1.mine S1.lt af d2' (World.ownsRow_nil _ _ _ _);have S2:=S1.vk d2' s2.1 hk (eU.nil _ _ _ _ _ _);have d3':=(s2.1.cells 3 aR).trans ((s1.1.cells 3 aR).trans ((s0.1.cells 3 aR).trans d3));have s3:=lJ (f:=3) (e:=173) (sz:=3) (n:=0) (v':=dE) (ys:=[]) s2.1.fr.eH S2.mine S2.lt af d3' (World.ownsRow_nil _ _ _ _);have S3:=S2.qm d3' s3.1 hk (eU.nil _ _ _ _ _ _);have Hw:=u.o.fr;have TR:=((s0.1.fr.trans s1.1.fr).trans s2.1.fr).trans s3.1.fr;obtain⟨wr,hwr⟩:=aK ((((wa.setCell (dA J 0) (dE)).setCell (dA J 1) (dE)).setCell (dA J 2) (dE)).setCell (dA J 3) (dE));rw[hwr]at TR S3;have PI:=dn (y.o.trans TR);have HS7:=dn (show ed wr _ r J Doc.dO.empty from S3);have aka:=dn (PI.o.block w.heap.size aR Ez.o);clear s0 S0 s1 S1 s2 S2 s3 S3 r0 r1 r2 r3 d1' d2' d3' TR h1;have a:=v.o.of_block aka.o;have e:=a.c0;have f:=a.c1;have g:=a.c2;have G:=a.fr;obtain⟨H,h,i,j,k,_,_⟩:=jD e f g (dw (0:Int)) (dw (0:Int)) (dP);have l:=dn (jX s.o ae aR PI.o HS7.o h);clear a;go_wp2_with fail;refine dR (.agg #[dw (0:Int),dw (0:Int),dP]) bS rfl ?_;obtain⟨m,c,d⟩:=l.o;rw[n.o];exact⟨m,c,rfl,d⟩
         ·skip
          have n:Hid (jg S R=(4,ps,false,S)):=by
           show _=_;rw[I.o];rw[if_neg (show ¬x=Doc.iF from z)];rw[if_neg (show ¬x=Doc.jH from L)];rw[if_neg (show ¬x=Doc.qM from V)];rw[if_neg (show ¬x=Doc.Ai from Z)];rw[if_neg (show ¬x=Doc.pY from l9)];rw[if_neg (show ¬x=Doc.AZ from qz)];rfl
          have Y0:(x==[100,101,99,108,97,114,101,45,102,117,110])=false:=an8;have acZ:(x==[97,115,115,101,114,116])=false:=by simpa using L
          have agK:(x==[112,117,115,104])=false:=by simpa using V
          have ahv:(x==[112,111,112])=false:=by simpa using Z
          have aeg:(x==[99,104,101,99,107,45,115,97,116])=false:=by simpa using l9
          have aef:(x==[114,101,115,101,116])=false:=by simpa using qz
          clear z;clear L;clear V;clear Z;clear l9;clear qz;clear I;have a:=v.o.of_block GI.o;have e:=a.c0;have f:=a.c1;have g:=a.c2;have G:=a.fr;obtain⟨H,h,i,j,k,_,_⟩:=jD e f g (dw (4:Int)) (dw (ps:Int)) (dP);have l:=dn (jX s.o ae aR y.o u.o h);clear a;go_wp2_with fail;refine dR (.agg #[dw (4:Int),dw (ps:Int),dP]) bS rfl ?_;obtain⟨m,c,d⟩:=l.o;rw[n.o];exact⟨m,c,rfl,d⟩
