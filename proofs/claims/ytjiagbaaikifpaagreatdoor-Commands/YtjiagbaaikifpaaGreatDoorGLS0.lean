import Derived.Test.YtjiagbaaikifpaaGreatDoorGAdd1
import Derived.Test.YtjiagbaaikifpaaGreatDoorGLON
import Derived.Test.YtjiagbaaikifpaaGreatDoorGPV3
import Derived.Test.YtjiagbaaikifpaaGreatDoorGRV0
set_option maxRecDepth 100000
set_option maxHeartbeats 16000000
namespace Go.Proofs.YtjiagbaaikifpaaGreatDoor
open Go.RowKit Go.Proofs.Tryz
variable {L:kK}{O:Own}{W u w:World}{i j k m n:Nat}{l:List Nat}{v:Value}
theorem X5:(prog.info? 75).map (λi=>(i.zero,i.size,i.bytes))=some (some (.agg #[.pointer none,.pointer none]),2,16):=bR
def qi (x m:Nat):List Value:=[dK x 0,dK m 0]
theorem SN (w:World)(x m:Nat)(a:TypeId)(n:Nat)(b:n=w.heap.size):∀j u,(qi x m)[j]?=some u->((w.alloc (.cells #[dK x 0,dK m 0] a)).drew).cell? (((dA n 0):Addr).add j)=some u:=by
 subst b;exact λj u h=>oW w (qi x m) a j u h
theorem Zz (x m:Nat):∀u∈qi x m,u.oneCell'=true:=by
 intro u a;simp only[qi,List.mem_cons,List.not_mem_nil,or_false]at a;rcases a with rfl|rfl<;>rfl
theorem ed.new {own:Own}:ed (w.alloc (.cells #[dE,dE,dE,dE] 83)) (dG own w.heap.size n) n w.heap.size Doc.dO.empty:=
 ⟨amQ,⟨#[dE,dE,dE,dE],by first|(simp;done)|(simp[World.heap_alloc];done)|(show(w.heap.push _)[w.heap.size]?=_;rw[Array.getElem?_push_size])⟩,λo=>aW,⟨dE,aW,eU.nil _ _ _ _ _ _⟩,⟨dE,aW,eU.nil _ _ _ _ _ _⟩,⟨dE,aW,eU.nil _ _ _ _ _ _⟩,⟨dE,aW,eU.nil _ _ _ _ _ _⟩⟩
theorem Xb {own:Own}(h:eU w own n 3 1 (Al w own) v l):eX w v l:=
 gu.imp h.sl λg i hi a f=>by
  obtain⟨c,_,b,d⟩:=a.2 hi;have e:c=[dw (l[i]:Nat)]:=b;subst e;have:=d 0 _ aR rfl;simpa using this
theorem gp.adt {own:Own}(h:gp w own n L)(a:xn w W own O n 0 3 v)(x:eU W O 3 75 2 EJ v (L.eQ++[(m,k,Doc.dO.empty)]))(y:dI w own (4*L.eQ.length+2) m Doc.dO.empty)(z:ed w own (4*L.eQ.length+4) k Doc.dO.empty):gp W O n { L with eQ:=L.eQ++[(m,k,Doc.dO.empty)] }:=by
 obtain⟨Q,A,B,C,D,E⟩:=h.parts (w2:=W) (own':=O) (λo=>o=1\/o=3) (λc d F=>a.keep c d F);obtain⟨f,g,R⟩:=h.words;obtain⟨j,l,T⟩:=h.reg;obtain⟨p,q,U⟩:=h.ls;obtain⟨r,t,V⟩:=h.lw;obtain⟨G,H⟩:=h.obj;obtain⟨I,J⟩:=a.jq h.jq h.g0 aR;have u:∀s e i,¬(fJ s e i=1\/fJ s e i=3):=λs e i=>aP (jJ s e i);refine⟨aos,a.type G _ H,λo=>(a.frozen o).trans (h.fr o),⟨v,a.cell,x⟩,⟨f,(a.cells 1 aR).trans g,A aR f g⟩,⟨j,(a.cells 2 aR).trans l,B aR aR j l⟩,⟨p,(a.cells 3 aR).trans q,C aR (u 0) p q⟩,⟨r,(a.cells 4 aR).trans t,D aR (u 1) r t⟩,(a.cells 5 aR).trans h.at_,(a.cells 6 aR).trans h.n,(a.cells 7 aR).trans h.ex,λi K M S b=>?_,I,J⟩
 by_cases hi:i<L.eQ.length
 ·rw[List.getElem?_append_left hi]at b;exact E aR i K M S aR aR b
 ·have N:i=L.eQ.length:=by
   have:=(aG b).1;simp at this;exact aR
  subst N;rw[List.getElem?_append_right aR]at b;simp at b;obtain⟨rfl,rfl,rfl⟩:=b;exact⟨y.step (λc d P=>a.keep c d aR),z.step (λc d P=>a.keep c d aR)⟩
def rD (kd:Int)(e:Ending):Prop:=∃b:Bool,e=dF (.bool b)/\(kd≠3->b=true)
theorem rD.tt (a:Int):rD a (dF (fu)):=⟨true,rfl,λ_=>rfl⟩
theorem Wj {S:Doc.dO}(a:Doc.iq S):(Doc.print S).length<=90000:=by
 have h:=wW a S.levels 0 0;have:=a.ve;unfold Doc.print;exact aR
structure Ctx (w W1:World)(own:Own)(wb n:Nat)(M:kK)(k x m:Nat)(S:Doc.dO):Prop where
 law:gp W1 own wb M
 fresh:eD own W1
 ek:dB w W1
 b:iK n M
 lim:n+1<=100000
 eQ:M.eQ[k]?=some (x,m,S)
theorem Ctx.wf {own:Own}{n:Nat}{S:Doc.dO}(c:Ctx w W own m n L k i j S):Doc.iq S:=c.b.wf _ (List.mem_of_getElem? c.eQ)
theorem Ctx.more {own:Own}{S:Doc.dO}(c:Ctx w W own n m L k i j S)(a:dB W u):Ctx w u own n m L k i j S:=
 ⟨c.law.up a,c.fresh.up a,c.ek.dW a,c.b,c.lim,c.eQ⟩
theorem Ctx.command {own:Own}{S:Doc.dO}(c:Ctx w W own n m L k i j S){g o:Nat}(d:own g=3)(f:W.cell? (dA g o)=some (dK i 0))(h:W.cell? (dA g (o+1))=some (dK j 0))(l:dN)(a:Int)(p:l.length<=1000000) :
 dH 41 #[dK n 0,dK g o,dD l,dw a,dP] W λe b=>e=dF (fu)/\jd w b own n (m+1):=by
 refine(QR n g o k i j own L S l a W c.law c.fresh c.eQ c.wf p d f h).mono ?_;rintro e b ⟨rfl,s,q,r⟩;exact⟨rfl,_,(c.b.ac8 q).mono aR c.lim,r.from c.ek⟩
theorem Ctx.word {own:Own}{S:Doc.dO}(c:Ctx w W own n m L k i j S)(y:dN)(b:y.length<=90000) :
 dH 49 #[dK n 0,dD y] W λe a=>e=dF (dM #[])/\jd w a own n (m+1):=by
 refine(Kv n own L y W c.law c.fresh (aQ c.b.words c.lim)).dX λa d=>?_;exact⟨rfl,_,c.b.Rw c.lim b,d.from c.ek⟩
theorem Ctx.print {own:Own}{S:Doc.dO}(c:Ctx w W own n m L k i j S) :
 dH 20 #[dK i 0] W λe a=>e=dF (dD (Doc.print S))/\dB W a:=
 G5 i (4*k+2) own S W (c.law.eQ k i j S c.eQ).1 c.fresh aR c.wf c.law.jq
theorem Ctx.aen {own:Own}{S:Doc.dO}(c:Ctx w W own n m L k i j S) :
 dH 48 #[dK j 0] W λe a=>e=dF (dD (Doc.print S))/\dB W a:=
 UK j (4*k+4) own S W (c.law.eQ k i j S c.eQ).2 c.wf
theorem Ctx.depth {own:Own}{S:Doc.dO}(c:Ctx w W own n m L k i j S) :
 dH 50 #[dK i 0] W λe a=>e=dF (dw S.levels.length)/\a=W:=SC i (4*k+2) own S W (c.law.eQ k i j S c.eQ).1
theorem Ctx.held {own:Own}{S:Doc.dO}(c:Ctx w W own n m L k i j S) :
 dH 51 #[dK i 0] W λe a=>e=dF (dw S.held.length)/\a=W:=VZ i (4*k+2) own S W (c.law.eQ k i j S c.eQ).1
theorem Ctx.long {own:Own}{S:Doc.dO}(c:Ctx w W own n m L k i j S)(o:kv)(a:vN o) :
 dH 37 #[dK n 0,.agg #[dw o.kind,dw o.a,dw o.b,dw o.c,dD o.s,dD o.t]] W λe b=>LX e/\dB W b:=
 Nj n own L o W c.law a c.b.word (aQ c.b.words c.lim)
theorem Ctx.ahG {own:Own}{S:Doc.dO}(c:Ctx w W own n m L k i j S)(z:Int)(b:-9223372036854775808<=z)(d:z<=9223372036854775807) :
 dH 45 #[dK n 0,dw z] W λe a=>UQ a e/\dB W a:=Z5 n own L z m W c.law c.fresh c.b b d
theorem Ctx.holds {own:Own}{S:Doc.dO}(c:Ctx w W own n m L k i j S)(d:eu)(e f:Nat)(a:List fU)(h:gI W d e a)(l:a.length=f)(g:∀i∈a,AU i) :
 dH 47 #[dK j 0,.slice d f e] W λo p=>kL S a o/\dB W p:=
 UL j (4*k+4) own S d e f a W (c.law.eQ k i j S c.eQ).2 c.wf h l (λi b=>⟨(g i b).val,(g i b).args⟩) (λi b=>(g i b).sym)
theorem Ctx.aej {own:Own}{S:Doc.dO}(c:Ctx w W own n m L k i j S)(d:eu)(e f:Nat)(a:List fU)(h:gI W d e a)(l:a.length=f)(g:∀i∈a,AU i) :
 dH 46 #[dK i 0,.slice d f e] W λo p=>kL S a o/\dB W p:=
 SB i (4*k+2) own S d e f a W (c.law.eQ k i j S c.eQ).1 c.wf h l (λi b=>⟨(g i b).val,(g i b).args⟩) (λi b=>(g i b).sym)
theorem Ctx.fields {own:Own}{S:Doc.dO}(h:Ctx w W own n m L k i j S):∃c a l d,∀b,dB W b->b.cell? (dA j 2)=some (.slice c S.held.length a)/\b.cell? (dA j 3)=some (.slice l S.levels.length d)/\S.held.length<=a/\a<=2 ^ 63-1/\S.levels.length<=d/\d<=2 ^ 63-1/\
 ∀y:dN,y.length<=90000->dH 44 #[dK j 0,.slice c S.held.length a,dD y] b λp q=>iY p/\dB b q:=by
 have e:=(h.law.eQ k i j S h.eQ).2;obtain⟨C,r,o⟩:=e.held;obtain⟨D,s,t⟩:=e.levels;have u:=Xb o;obtain⟨c,a,rfl,v,x⟩:=o.form;obtain⟨l,d,rfl,z,A⟩:=t.form;refine⟨c,a,l,d,λb g=>⟨(g.dL r e.lt),(g.dL s e.lt),v,x,z,A,λy B=>?_⟩⟩;have f:=h.wf;exact QW j S.held.length a c S.terms S.held y b (e.book.terms.below g) (u.below g) rfl (aP f.qR) (aP f.book.many) (tQ f.book) (DL f.book) (UF f.book) B
theorem step1 (b:Nat)(own:Own)(M:kK)(x y z:Int)(A B:dN)(C:Nat)(w:World)(D:gp w own b M)(hfr:eD own w)(E:iK C M)(hn:C+1<=100000)(I:vN ⟨1,x,y,z,A,B⟩) :
 dH 22 #[dK b 0,.agg #[dw 1,dw x,dw y,dw z,dD A,dD B],dP] w λr w'=>r=dF (fu)/\jd w w' own b (C+1):=by
 obtain⟨⟨xy,xw⟩,⟨pQ,sV⟩,⟨zI,zH⟩,hos,hot⟩:=id I;simp only at xy xw pQ sV zI zH hos hot;obtain⟨e,Q⟩:∃e,w.alloc (.cells #[dw 1,dw x,dw y,dw z,dD A,dD B] 33)=e:=⟨_,rfl⟩;have F:dB w e:=by rw[<-Q];exact af.alloc ae _
 have hsz1:w.heap.size<e.heap.size:=by rw[<-Q];simp
 have j:=D.up F;have R:=hfr.up F;have sF:=j.lt;have Am:=D.lt;have HB1:=dn F
 have S:Hid (∀W,dB e W->W.cell? (dA w.heap.size 0)=some (dw 1)/\W.cell? (dA w.heap.size 1)=some (dw x)/\W.cell? (dA w.heap.size 2)=some (dw y)/\W.cell? (dA w.heap.size 3)=some (dw z)/\W.cell? (dA w.heap.size 4)=some (dD A)/\W.cell? (dA w.heap.size 5)=some (dD B)):=λW f=>by
  have q:∀J,W.cell? (dA w.heap.size J)=e.cell? (dA w.heap.size J):=λJ=>f.cell (p:=dA w.heap.size J) hsz1;rw[q,q,q,q,q,q,<-Q];exact aW
 obtain⟨f0,f1,f2,f3,f4,f5⟩:=S.o e af;have HO:=dn (Wq b own M 1 x y z A B C e j R E hn I aR);obtain⟨i0,hi,hz0,hz1,hz2⟩:=info_parts X5;have hls:M.eQ.length<=100000:=aQ E.eQ E.lim;obtain⟨v0,m,s⟩:=j.s;obtain⟨p,g,rfl,p1,p2⟩:=s.form
 have HST:Hid (∀d a,dB e d->dB d a->a.heap.size=d.heap.size+1->dI a (dG own d.heap.size (4*M.eQ.length+2)) (4*M.eQ.length+2) d.heap.size Doc.dO.empty->
  ∃n:Own,gp (a.alloc (.cells #[dE,dE,dE,dE] 83)) n b M/\eD n (a.alloc (.cells #[dE,dE,dE,dE] 83))/\dB w (a.alloc (.cells #[dE,dE,dE,dE] 83))/\(∀c,c<w.heap.size->n c=own c)/\dI (a.alloc (.cells #[dE,dE,dE,dE] 83)) n (4*M.eQ.length+2) d.heap.size Doc.dO.empty/\ed (a.alloc (.cells #[dE,dE,dE,dE] 83)) n (4*M.eQ.length+4) a.heap.size Doc.dO.empty):=λd a o G K hp=>by
  have hs2:=o.size;have t:dB a (a.alloc (.cells #[dE,dE,dE,dE] 83)):=ai;have Ao:dB e a:=o.trans (G.mono hs2);have T:=Ao.trans (t.mono aR);have hsm:=t.size
  have hx:∀c,c<d.heap.size->dG (dG own d.heap.size (4*M.eQ.length+2)) a.heap.size (4*M.eQ.length+4) c=own c:=λc f=>by
   unfold dG;rw[if_neg aR,if_neg aR]
  refine⟨dG (dG own d.heap.size (4*M.eQ.length+2)) a.heap.size (4*M.eQ.length+4),j.keep (λc f=>⟨T.block c f,hx c aR⟩) (j.jq.fT (λc _ hlt=>T.block c hlt)),λc f=>?_,F.dW T,λc f=>hx c aR,?_,ed.new⟩
  ·simp at f;unfold dG;rw[if_neg aR,if_neg aR];exact R c aR
  ·refine hp.step (λc f I=>⟨t.block c f,?_⟩);rw[show dG (dG own d.heap.size (4*M.eQ.length+2)) a.heap.size (4*M.eQ.length+4) c=dG own d.heap.size (4*M.eQ.length+2) c by unfold dG;rw[if_neg aR]]
 have xG:Hid (∀W,dB e W->W.cell? (dA b 0)=some (.slice p M.eQ.length g)/\W.frozen? (dA b 0)=false):=λW f=>⟨(f.dL m sF),(f.gq (j.fr 0) sF)⟩;have HMB:=dn E;obtain⟨N,hN⟩:=aK M.eQ.length;have i:=dn hN;clear D hfr E I j R F s m;go_enter func22,ntmps22;go_wp2_with fail;refine HO.o.dX λd o=>?_;obtain⟨r0,r1,r2,r3,r4,r5⟩:=S.o d o;have HB2:=dn o;have hs2:=o.size;clear o;go_wp2_with fail;refine(Rz (4*M.eQ.length+2) own d).mono ?_;rintro r a ⟨rfl,G,K,hp3⟩;have PS:Hid (dB e a):=HB2.o.dW G;obtain⟨U,z0⟩:=xG.o a PS.o;obtain⟨n,H,hF,V,hX,X,Y⟩:=HST.o d a HB2.o G K hp3;obtain⟨h,Z⟩:∃h,a.alloc (.cells #[dE,dE,dE,dE] 83)=h:=⟨_,rfl⟩;rw[Z]at H hF V X Y;have ahJ:h.heap.size=a.heap.size+1:=by rw[<-Z];simp
 have t:dB a h:=by rw[<-Z];exact af.alloc ae _
 have hlt3:b<a.heap.size:=aR;have aap:b<h.heap.size:=aR;have em:h.cell? (dA b 0)=some (.slice p M.eQ.length g):=t.dL U hlt3;have zm:h.frozen? (dA b 0)=false:=t.gq z0 hlt3;obtain⟨v0,m,s⟩:=H.s;rw[em]at m;injection m with m
 subst m;have mh:=dn s;obtain⟨xs,x1,x2,x3,x4⟩:=id s;have uE:=dn x1;have FM:=dn (show _/\_/\_ from⟨x1,x2,x3⟩)
 have lX:Hid (∀q,(Value.slice p M.eQ.length g).ownBlock=some q->q≠b):=λq hq hc=>by
  have j:=x4 q hq;rw[hc,H.mine]at j;exact aR
 have HW:=dn H;have HFm:=dn hF;have HBw:=dn V;have HXo:=dn hX;have HPs:=dn X;have HSt:=dn Y;have YG:=dn em;have HZM:=dn zm;have mO:=dn K
 have PH:Hid (∀(k u:Nat) (l L:World),dB h L->l.ownsRow 0 75 2 (dJ k (N+1) u) (N+1) (xs.flatten++qi d.heap.size a.heap.size)->L.grownBy l (Value.slice p N g).ownBlock->((Value.slice p N g).ownBlock=some k\/L.heap.size<=k)->jd w (l.setCell (dA b 0) (dJ k (N+1) u)) own b (C+1)):=λk u l L hbx O v P=>by
  have hap:=wK (f:=0) (r:=3) (n:=N+1) mh.o HFm.o HW.o.mine aR aap hbx YG.o O (by rw[i.o];exact v) (by rw[i.o];exact P);have h9:=eU.snoc (own':=dG n k 3) (k:=3) (D:=EJ) (a:=(d.heap.size,a.heap.size,Doc.dO.empty)) (c:=qi d.heap.size a.heap.size) (g:=k) (cap:=u) FM.o (by rw[i.o];exact hap.2) (λ_ _ D=>D) rfl rfl amz;rw[i.o]at h9;exact⟨_,HMB.o.adZ hn,(iT.MU hap.1 aR (HW.o.adt hap.1 h9 HPs.o HSt.o)).Ui HBw.o HXo.o⟩
 have aiM:Hid (h.ownsRow 0 75 2 (.slice p N g) N xs.flatten):=by rw[<-i.o];exact uE.o
 have agi:Hid (∀q,(Value.slice p N g).ownBlock=some q->q≠b):=by rw[<-i.o];exact lX.o
 have em':h.cell? (dA b 0)=some (.slice p N g):=by rw[<-i.o];exact YG.o
 have e0':a.cell? (dA b 0)=some (.slice p N g):=by rw[<-i.o];exact U
 have ajU:=dn em';have hN1:N+1<=1000000:=by rw[<-i.o];omega
 have hpN:N<=g:=by rw[<-i.o];exact p1
 clear H hF V hX X Y s x1 x2 x3 x4 G hp3 hN K ahJ U em HW HFm HBw HXo HPs HSt YG mh FM HST HMB uE lX xG HO S p1 hls;go_wp2_with (at_builtin;refine dU rfl (.tmp 40) (.tmp 45) 44 rfl 0 75 i0 (.agg #[.pointer none,.pointer none]) 2 16 underlying44 hi hz0 hz1 hz2 rfl aY (.slice p N g) N xs.flatten rfl (by exact aiM.o.alloc _) (dA h.heap.size 0) 1 (qi d.heap.size a.heap.size) rfl rfl (by exact SN _ _ _ _ _ rfl) (Zz _ _) bz aR aW ?_;intro k u l O v hg1 P;have y1:l.cell? (dA b 0)=some (.slice p N g):=((eY v (a:=dA b 0) aX (λr=>agi.o b r.symm rfl)).trans (dV _ _ _ aap)).trans ajU.o;have y2:l.frozen? (dA b 0)=false:=((fo v (a:=dA b 0) aX (λr=>agi.o b r.symm rfl)).trans (eF _ _ _ aap)).trans HZM.o;have iP:=dn (PH.o k u l _ (ai) O v P);clear O v hg1 P);go_ret;exact⟨rfl,iP.o⟩
theorem stepG (g:Nat)(own:Own)(M:kK)(d i j B:Int)(u C:dN)(n:Nat)(w:World)(v:gp w own g M)(Q:eD own w)(r:iK n M)(hn:n+1<=100000)(D:vN ⟨d,i,j,B,u,C⟩) :
 dH 22 #[dK g 0,.agg #[dw d,dw i,dw j,dw B,dD u,dD C],dP] w λo l=>rD d o/\jd w l own g (n+1):=by
 obtain⟨⟨xy,xw⟩,⟨pQ,sV⟩,⟨zI,zH⟩,hos,hot⟩:=id D;simp only at xy xw pQ sV zI zH hos hot;obtain⟨b,hW1⟩:∃b,w.alloc (.cells #[dw d,dw i,dw j,dw B,dD u,dD C] 33)=b:=⟨_,rfl⟩;have E:dB w b:=amH;have hsz1:w.heap.size<b.heap.size:=alZ;have m:=v.up E;have R:=Q.up E;have sF:=m.lt;have Am:=v.lt;have HB1:=dn E
 have Pp:Hid (∀W,dB b W->W.dQ w.heap.size 0=some (dw d)/\W.dQ w.heap.size 1=some (dw i)/\W.dQ w.heap.size 2=some (dw j)/\W.dQ w.heap.size 3=some (dw B)/\W.dQ w.heap.size 4=some (dD u)/\W.dQ w.heap.size 5=some (dD C)):=λW c=>by
  have x:∀bg,W.dQ w.heap.size bg=b.dQ w.heap.size bg:=λbg=>c.cell (p:=dA w.heap.size bg) hsz1;rw[x,x,x,x,x,x,<-hW1];exact aW
 obtain⟨f0,f1,f2,f3,f4,f5⟩:=Pp.o b af
 by_cases hk1:d=1
 ·subst hk1;exact(step1 g own M i j B u C n w v Q r hn D).mono λo l x=>⟨by rw[x.1];exact rD.tt _,x.2⟩
 by_cases T:7<=d/\d<=14
 ·have HO:=dn (Wp g own M d i j B u C n b m R r hn D T);have HQ:Hid (∀W,jd b W own g (n+1)->jd w W own g (n+1)):=λW k=>k.from HB1.o;clear v Q r D m R E T hk1;go_enter func22,ntmps22;go_wp2_with fail;refine HO.o.dX λF k=>?_;have y:=dn (HQ.o _ k);clear k;go_wp2;go_ret;exact⟨rD.tt _,y.o⟩
 have HO:=dn (Wq g own M d i j B u C n b m R r hn D aR);have J:Hid (∀W,dB b W->jd w W own g (n+1)):=λW c=>⟨M,r.mono aR hn,iT.below v Q (E.dW c)⟩;have HKD:Hid (d<7\/14<d):=by show _\/_;omega
 have t1:(d==1)=false:=ak hk1;clear T hk1
 by_cases hs0:M.eQ.length=0
 ·obtain⟨v0,G,b0⟩:=m.s;obtain⟨bC,cp,rfl,p1,p2⟩:=b0.form;rw[hs0]at G;have s:Hid (∀W,dB b W->W.dQ g 0=some (.slice bC 0 cp)):=λW c=>(c.dL G sF);clear v Q r D m R E b0 G hs0;go_enter func22,ntmps22;go_wp2_with fail;refine HO.o.dX λF p=>?_;have e0:=s.o F p;obtain⟨r0,r1,r2,r3,r4,r5⟩:=Pp.o F p;have y:=dn (J.o F p);clear p;go_wp2;go_ret;exact⟨rD.tt _,y.o⟩
 have DY:0<M.eQ.length:=aR;clear hs0;obtain⟨v0,G,b0⟩:=m.s;have hls:M.eQ.length<=100000:=aQ r.eQ r.lim;have hpk:=oF i DY;obtain⟨⟨bB,U,S⟩,hs⟩:∃bD,M.eQ[pk i M.eQ.length]?=some bD:=⟨_,aF hpk⟩;have HC:=dn (λW=>kJ i M.eQ.length W xy xw DY aR);obtain⟨K,cp,hv,k1,k2,og,V,d1⟩:=Mv m G hs;subst hv;obtain⟨H,T⟩:=aK (pk i M.eQ.length);rw[T]at HC hpk V d1 hs;simp only at V d1;have h:Hid (Ctx w b own g n M H bB U S):=⟨m,R,E,r,hn,hs⟩;have HOG:=dn og;have hg1:K<b.heap.size:=aj V;obtain⟨bA,hN⟩:=aK M.eQ.length;rw[hN]at HC hpk G hls DY k1;have hkk:(H:Int)<(bA:Int):=aR;have s:Hid (∀W,dB b W->W.dQ g 0=some (dJ K bA cp)/\W.dQ K (H*2)=some (dK bB 0)/\W.dQ K (H*2+1)=some (dK U 0)):=λW c=>⟨(c.dL G sF),(c.dL V hg1),(c.dL d1 hg1)⟩;have HCM:Hid (∀(W:World) (bn:dN) (bu:Int),dB b W->bn.length<=1000000->dH 41 #[dK g 0,dK K (H*2),dD bn,dw bu,dP] W λo l=>o=dF (fu)/\jd w l own g (n+1)):=λW bn bu c hl=>(h.o.more c).command HOG.o (s.o W c).2.1 (s.o W c).2.2 bn bu hl;have uU:=dn (λW (c:dB b W)=>(h.o.more c).long ⟨d,i,j,B,u,C⟩ D);simp only at uU;have Pn:=dn (fun(z:Nat) W (m:0<z) (h2:z<=1000000)=>kJ j z W pQ sV m aR);clear D;clear v Q r m R E b0 hs T hN og V d1 G;go_enter func22,ntmps22;go_wp2_with fail;refine HO.o.dX λF p=>?_;obtain⟨e0,V,d1⟩:=s.o F p;obtain⟨r0,r1,r2,r3,r4,r5⟩:=Pp.o F p;have a:=dn p;have FM:=dn (h.o.more p);have hs2:=p.size;clear p;go_wp2_with fail;go_region_held3 (fun l=>l.dQ g 0=some (dJ K bA cp)/\l.dQ w.heap.size 1=some (dw i)) (go_keep) (first|(go_at_call 38;refine(HC.o _).dX fun w3 hw3=>?_;subst hw3))
 by_cases h2:d=2
 ·subst h2;go_wp2_with fail;refine(HCM.o _ u j bU aR).dX λf k=>?_;exact aqD
 have t2:(d==2)=false:=ak h2;clear h2
 by_cases Dh:d=15
 ·subst Dh;go_wp2_with fail;refine(uU.o _ bU).mono ?_;rintro o f ⟨⟨L,rfl,hy⟩,q⟩;have e:Hid (dB b f):=(by first|exact a.o.drew|exact a.o|exact below_drewN a.o _:dB b _).trans (q.mono (by first|exact a.o.drew|exact a.o|exact below_drewN a.o _:dB b _).size);obtain⟨r0,r1,r2,r3,r4,r5⟩:=Pp.o f e.o;clear q;go_wp2_with fail;refine(Ed L _ aR).mono ?_;rintro o t ⟨⟨bH,X,rfl,hown,hpos,hlen,hcnt⟩,A⟩;have N:Hid (dB b t):=e.o.dW A;obtain⟨ao,cap,rfl,m1,m2,hel⟩:=eZ hown;have Df:=oF j hpos;have rZ:=dn (λW=>Pn.o X.length W hpos aR);obtain⟨g5,rfl,Fx,_⟩:=hel _ Df;obtain⟨O,hj⟩:=aK (pk j X.length);rw[hj]at rZ Df Fx;have hyl:=hlen (X[O]) (List.getElem_mem _);have hc6:t.cell? (dA g5 O)=some (dD (X[O])):=by rw[Fx,List.getElem?_map,aF Df];rfl
  obtain⟨q0,q1,q2,q3,q4,q5⟩:=Pp.o t N.o;obtain⟨tx,htx⟩:=aK (X[O]);rw[htx]at hc6 hyl;obtain⟨NW,Xg⟩:=aK X.length;rw[Xg]at rZ Df m1 hpos hcnt ⊢;have hjj:(O:Int)<(NW:Int):=aR;clear A hown hel hlen hj Fx htx Xg;go_wp2_with fail;refine(rZ.o _).dX λP zQ=>?_;subst zQ;go_wp2_with fail;refine(HCM.o _ tx 400 N.o aR).dX λw7 k=>?_;exact aqD
 have t15:(d==15)=false:=ak Dh;clear Dh
 by_cases h16:d=16
 ·subst h16;go_wp2;go_ret;exact⟨rD.tt _,J.o _ bU⟩
 have t16:(d==16)=false:=ak h16;clear h16
 by_cases h3:d=3
 ·subst h3;obtain⟨aH,cH,aL,cL,I⟩:=h.o.fields;obtain⟨NH,xC⟩:=aK S.held.length;simp only[xC]at I;have xE:Hid (∀W,dB b W->W.dQ U 2=some (.slice aH NH cH)):=λW c=>(I W c).1;have BJ:Hid (∀W,dB b W->∀L:dN,L.length<=90000->dH 44 #[dK U 0,.slice aH NH cH,dD L] W λo l=>iY o/\dB W l):=λW c=>(I W c).2.2.2.2.2.2;clear xC I;go_wp2_with fail;refine(uU.o _ bU).mono ?_;rintro o f ⟨⟨L,rfl,hy⟩,q⟩;have e:Hid (dB b f):=(by first|exact a.o.drew|exact a.o|exact below_drewN a.o _:dB b _).trans (q.mono (by first|exact a.o.drew|exact a.o|exact below_drewN a.o _:dB b _).size);obtain⟨e4,d4,d5⟩:=s.o f e.o;have z4:=xE.o f e.o;clear q;go_wp2_with fail;refine(Mx _ L _).dX λt lW=>?_;subst lW;go_wp2_with fail;go_region_held3 (fun l=>l.dQ K (H*2+1)=some (dK U 0)/\l.dQ U 2=some (.slice aH NH cH)) (go_keep) (first|(go_at_call 44;refine(BJ.o _ (by first|exact e.o.drew|exact e.o) L hy).mono ?_;rintro o P ⟨⟨rb,rfl⟩,Y⟩;have Z:Hid (dB b P):=(by first|exact e.o.drew.dW Y|exact e.o.dW Y);obtain⟨e6,d6,d7⟩:=s.o P Z.o;have z6:=xE.o P Z.o;clear Y));go_wp2;go_ret;exact⟨⟨_,rfl,λv=>absurd rfl v⟩,J.o _ Z.o⟩
 have t3:(d==3)=false:=ak h3;clear h3
 by_cases h4:d=4
 ·subst h4;have I7:=dn (λW (c:dB b W)=>(h.o.more c).ahG j pQ sV);have HHO:=dn (λW (c:dB b W)=>(h.o.more c).holds);have uH:=dn (λW (c:dB b W)=>(h.o.more c).aej);go_wp2_with fail;refine(I7.o _ bU).mono ?_;rintro o f ⟨⟨av,cv,bF,bG,nl,bq,rfl,hE1,hE,hnl,hEB⟩,q⟩;have e:Hid (dB b f):=(by first|exact a.o.drew|exact a.o|exact below_drewN a.o _:dB b _).trans (q.mono (by first|exact a.o.drew|exact a.o|exact below_drewN a.o _:dB b _).size);obtain⟨e4,d4,d5⟩:=s.o f e.o;have HH3:=dn (uH.o f e.o av cv nl bq hE1 hnl hEB);have HH4:=dn (λW (c:dB f W)=>HHO.o W (e.o.dW c) bF bG nl bq (hE.below c) hnl hEB);unfold kL at HH3 HH4;generalize (Doc.holds S (fZ bq)).1=rb at HH3 HH4;generalize (Doc.holds S (fZ bq)).2=rn at HH3 HH4;clear q hE1 hE hnl hEB HHO uH;go_wp2_with fail;refine HH3.o.dX λt A=>?_;have N:Hid (dB b t):=e.o.dW A;have HH5:=dn (HH4.o t A);clear A e4 d4 d5;obtain⟨e4,d4,d5⟩:=s.o t N.o;go_wp2_with fail;refine HH5.o.dX λP Y=>?_;have Z:Hid (dB b P):=N.o.dW Y;clear Y;cases rb with
  | true=>
   go_wp2;go_ret;exact⟨rD.tt _,J.o _ Z.o⟩
  | false=>
   go_wp2;go_ret;exact⟨rD.tt _,J.o _ Z.o⟩
 have t4:(d==4)=false:=ak h4;clear h4
 by_cases h5:d=5
 ·subst h5;have Dp:=dn (λW (c:dB b W)=>(h.o.more c).print);have RJ:=dn (λW (c:dB b W)=>(h.o.more c).aen);have HWO:=dn (λW (c:dB b W)=>(h.o.more c).word (Doc.print S) (Wj h.o.wf));generalize Doc.print S=tx at Dp RJ HWO;go_wp2_with fail;refine(Dp.o _ bU).dX λf q=>?_;have e:Hid (dB b f):=(by first|exact a.o.drew|exact a.o|exact below_drewN a.o _:dB b _).trans (q.mono (by first|exact a.o.drew|exact a.o|exact below_drewN a.o _:dB b _).size);obtain⟨e4,d4,d5⟩:=s.o f e.o;clear q;go_wp2_with fail;refine(RJ.o _ e.o).dX λt A=>?_;have N:Hid (dB b t):=e.o.dW A;clear A;go_wp2_with fail;refine(HWO.o _ N.o).dX λP k=>?_;exact aqD
 have t5:(d==5)=false:=ak h5;clear h5
 by_cases h6:d=6
 ·subst h6;have HDE:=dn (λW (c:dB b W)=>(h.o.more c).depth);have RO:=dn (λW (c:dB b W)=>(h.o.more c).held);obtain⟨aH,cH,aL,cL,I⟩:=h.o.fields;obtain⟨NH,xC⟩:=aK S.held.length;obtain⟨NV,Xh⟩:=aK S.levels.length;simp only[xC,Xh]at HDE RO I;obtain⟨z2,z3,_⟩:=I F a.o;clear xC Xh I;go_wp2_with fail;refine(HDE.o _ bU).dX λf hw4=>?_;subst hw4;go_wp2_with fail;refine(RO.o _ bU).dX λf hw4=>?_;subst hw4;go_wp2;go_ret;exact⟨rD.tt _,J.o _ bU⟩
 have t6:(d==6)=false:=ak h6;clear h6;go_wp2;go_ret;exact⟨rD.tt _,J.o _ bU⟩
theorem Za (a:Nat)(own:Own)(M:kK)(o:kv)(n:Nat)(w:World)(h:gp w own a M)(b:eD own w)(c:iK n M)(d:n+1<=100000)(e:vN o) :
 dH 22 #[dK a 0,o.val,dP] w λf g=>rD o.kind f/\jd w g own a (n+1):=by
 obtain⟨i,j,k,l,m,p⟩:=o;exact stepG a own M i j k l m p n w h b c d e
def xh (w wr:World)(i:Nat):Prop:=∃own M,gp wr own w.heap.size M/\eD own wr/\iK i M/\(∀b,b<w.heap.size->wr.heap[b]?=w.heap[b]?/\own b=0)/\w.heap.size<=wr.heap.size/\Same w wr
theorem xh.below {wr:World}(h:xh w wr n):dB w wr:=by
 obtain⟨own,M,_,_,_,b,c,a⟩:=h;exact⟨a.1,a.2.1,a.2.2,c,λd e=>(b d e).1⟩
theorem xh.zero (d:gZ w):xh w (w.alloc (.cells #[dE,dE,dE,dE,dE,dw 0,dw 0,dw 0] 48)) 0:=by
 have a:dB w (w.alloc (.cells #[dE,dE,dE,dE,dE,dw 0,dw 0,dw 0] 48)):=ai;refine⟨_,_,gp.new d,λc b=>?_,iK.zero,λc b=>⟨a.block c b,?_⟩,a.size,Same.below a⟩
 ·simp at b;unfold dG;rw[if_neg aR]
 ·unfold dG;rw[if_neg aR]
structure Round (w wr:World)(i:Nat)(o:kv):Prop where
 part:dH 21 #[dK w.heap.size 0,.agg #[dw o.kind,dw o.a,dw o.b,dw o.c,dD o.s,dD o.t]] wr λe w'=>sj o.kind e/\dB wr w'
 step:∀w1,dB wr w1->dH 22 #[dK w.heap.size 0,.agg #[dw o.kind,dw o.a,dw o.b,dw o.c,dD o.s,dD o.t],dP] w1 λe w'=>rD o.kind e/\xh w w' (i+1)
theorem xh.round {wr:World}{o:kv}(i:xh w wr n)(hi:n+1<=100000)(e:vN o):Round w wr n o:=by
 obtain⟨own,M,f,j,g,c,v,k⟩:=i;refine⟨Zy w.heap.size own M o n wr f g e,λl a=>?_⟩;refine(Za w.heap.size own M o n l (f.up a) (j.up a) g hi e).mono ?_;rintro x y ⟨m,p,q,r,s,t,h,z,u⟩;have A:=a.size;exact⟨m,r,p,t,s,q,λb d=>⟨((h b aR (c b d).2).1.trans (a.block b aR)).trans (c b d).1,(h b aR (c b d).2).2⟩,aR,(k.trans (Same.below a)).trans u⟩
theorem xh.looks {wr:World}(h:xh w wr n)(hi:n<=100000):dH 23 #[dK w.heap.size 0] wr λi c=>i=dF (fu)/\xh w c n:=by
 obtain⟨own,M,d,j,e,f,m,k⟩:=h;refine(WL w.heap.size own M wr d (aP e.ls)).dX λc l=>?_;have a:=l.below;have o:=a.size;exact⟨rfl,own,M,d.up a,j.up a,e,λb g=>⟨(a.block b aR).trans (f b g).1,(f b g).2⟩,aR,k.trans (Same.below a)⟩
