import Derived.Test.YtjiagbaaikifpaaGreatDoorA
import Derived.Test.YtjiagbaaikifpaaGreatDoorProg
import Derived.WalkKit
import Derived.WalkSpells
import Derived.WalkLawsBesides
namespace Go.RowKit
theorem Hid.o {p:Prop}(h:Hid p):p:=h
theorem Below.dW {w W V:World}(h:Below w.heap.size w W)(g:Below W.heap.size W V):Below w.heap.size w V:=h.trans (g.mono h.size)
theorem Below.dL {n b o:Nat}{w W:World}{v:Value}(h:Below n w W)(e:w.cell? ⟨b,o,none⟩=some v)(l:b<n):W.cell? ⟨b,o,none⟩=some v:=(h.cell (p:=⟨b,o,none⟩) l).trans e
theorem Below.eT {b o:Nat}{w W:World}{v:Value}(h:Below w.heap.size w W)(e:w.cell? ⟨b,o,none⟩=some v):W.cell? ⟨b,o,none⟩=some v:=(h.cell (p:=⟨b,o,none⟩) (World.block_lt_of_cell? w _ e)).trans e
theorem Below.gq {n b o:Nat}{w W:World}{v:Bool}(h:Below n w W)(e:w.frozen? ⟨b,o,none⟩=v)(l:b<n):W.frozen? ⟨b,o,none⟩=v:=(h.frozen (p:=⟨b,o,none⟩) l).trans e
theorem Below.fO {w W:World}{o:Obj}(h:Below w.heap.size w W):Below w.heap.size w (W.alloc o):=h.alloc h.size o
end Go.RowKit
namespace Go
abbrev World.ABz (w:World):Nat:=w.heap.size
abbrev World.dQ (w:World)(b o:Nat):Option Value:=w.cell? ⟨b,o,none⟩
abbrev World.uV (w:World)(b o:Nat):Bool:=w.frozen? ⟨b,o,none⟩
abbrev World.oq (w:World)(b o:Nat)(v:Value):World:=w.setCell ⟨b,o,none⟩ v
abbrev World.ABal (w:World)(x:Array Value)(t:TypeId):World:=w.alloc (.cells x t)
theorem Calls.dX {P:Program}{f:FuncId}{a:Array Value}{w:World}{v:Value}{R:World->Prop}{Q:Ending->World->Prop}(h:Calls P f a w fun e W=>e=.returned v/\R W)(k:∀W,R W->Q (.returned v) W):Calls P f a w Q:=h.mono (by rintro _ W ⟨rfl,r⟩;exact k W r)
theorem dR {P:Program}{f:Func}{R:Ending->World->Prop}{a:Act}{w:World}(v:Value)(h:(results f a.tmps).run P w=.ok v w)(d:a.defers=[])(r:R (.returned v) w):bodyPost P f R .ret a w:=bodyPost_ret h d r
end Go
namespace Go.Proofs.YtjiagbaaikifpaaGreatDoor
open Go.RowKit
abbrev dB (w W:World):Prop:=Below w.heap.size w W
abbrev dK (b o:Nat):Value:=.pointer (some ⟨b,o,none⟩)
abbrev dD (x:List UInt8):Value:=.string ⟨x.toArray⟩
abbrev dw (x:Int):Value:=.int .i64 x
abbrev dA (b o:Nat):Addr:=⟨b,o,none⟩
abbrev dH:=Calls Tryz.prog
abbrev dF (v:Value):Ending:=.returned v
abbrev dP:Value:=.bool false
abbrev fu:Value:=.bool true
abbrev dM (x:Array Value):Value:=.tuple x
abbrev dN:=List UInt8
abbrev eu:=Option Addr
abbrev dE:Value:=.slice none 0 0
abbrev eB:Value:=.string ⟨#[]⟩
abbrev dJ (b n c:Nat):Value:=.slice (some ⟨b,0,none⟩) n c
theorem af {B:Nat}{w:World}:Below B w w:=Below.refl B w
theorem ai {w:World}{o:Obj}:Below w.heap.size w (w.alloc o):=(Below.refl _ _).alloc (Nat.le_refl _) _
theorem aj {w:World}{a:Addr}{v:Value}(h:w.cell? a=some v):a.block<w.heap.size:=World.block_lt_of_cell? w a h
theorem ax {w:World}{a b:Addr}{v:Value}(h:a≠b):(w.setCell a v).cell? b=w.cell? b:=World.cell?_setCell_other _ _ _ _ h
theorem aC {w:World}{a:Addr}{v u:Value}(h:w.cell? a=some u):(w.setCell a v).cell? a=some v:=World.cell?_setCell_same _ _ _ h
theorem aD {w:World}{a:Addr}{v:Value}{b:Nat}(h:b≠a.block):(w.setCell a v).heap[b]?=w.heap[b]?:=Below.heap_setCell _ _ _ _ h
variable {p:Prop}
theorem bK(h:p:=by simp[results,results145,go_sem,h,i,j,k,l]):p:=h
theorem bL(h:p:=by go_num):p:=h
theorem bR(h:p:=by kernel_rfl):p:=h
theorem bS(h:p:=by simp[results,results96,go_sem,i,j,k]):p:=h
theorem cu(h:p:=by simp[results,results33,go_sem,s,t]):p:=h
theorem alS(h:p:=by simp[results,results248,go_sem,s,u,y,A]):p:=h
theorem alV(h:p:=by simp[results,results248,go_sem]):p:=h
theorem al0(h:p:=by simp[results,results82,go_sem,z,A]):p:=h
theorem amb(h:p:=by simp[results,results235,go_sem,n,o]):p:=h
theorem amc(h:p:=by simp[results,results210,go_sem,E,F]):p:=h
theorem amd(h:p:=by simp[results,results178,go_sem,y,z]):p:=h
theorem ams(h:p:=by simp[results,results121,go_sem,z,A]):p:=h
theorem amA(h:p:=by simp[results,results237,go_sem,r,s,u,v,x]):p:=h
theorem amE(h:p:=by simp[results,results137,go_sem,g,j,o,p]):p:=h
theorem amK(h:p:=by simp[results,results127,go_sem,v,x]):p:=h
theorem am2(h:p:=by simp[rep,results,results19,go_sem,G,H,I,J,K,L]):p:=h
theorem am4(h:p:=by simp[results,results270,go_sem,kW,v,x,y,z,A]):p:=h
theorem ang(h:p:=by simp[results,results218,go_sem,O,P,Q,R]):p:=h
theorem anh(h:p:=by simp[results,results90,go_sem,f,g,h,k]):p:=h
theorem anl(h:p:=by simp[results,results263,go_sem,z0,z1]):p:=h
theorem anw(h:p:=by simp[results,results261,go_sem,u,x]):p:=h
theorem anx(h:p:=by simp[results,results129,go_sem,q,r]):p:=h
theorem anz(h:p:=by simp[results,results124,go_sem,y,z]):p:=h
theorem anG(h:p:=by simp[results,results85,go_sem,B,C]):p:=h
theorem anH(h:p:=by simp[results,results84,go_sem,B,C]):p:=h
theorem anI(h:p:=by simp[results,results83,go_sem,B,C]):p:=h
theorem anJ(h:p:=by simp[results,results78,go_sem,j,k]):p:=h
theorem anK(h:p:=by simp[rep,results,results19,go_sem]):p:=h
theorem anZ(h:p:=by simp[results,results95,go_sem]):p:=h
theorem an0(h:p:=by simp[results,results94,go_sem]):p:=h
theorem aoI(h:p:=by as_aux_lemma=>kernel_rfl):p:=h
theorem aoV(h:p:=by simp[results,results237,go_sem,kW,r,s,u,v,x]):p:=h
theorem ao8(h:p:=by simp[results,results273,go_sem,D,E,F,G,H]):p:=h
theorem api(h:p:=by
 have tb:(y==[124])=false:=ak Q;have pK:=dn (yw y wr aR);clear Q;go_wp2_with fail;refine pK.o.mono ?_;rintro D J ⟨⟨u,lb,rfl,hu⟩,R⟩;have HU:=dn hu;have F:=dn ((s.o.below R).below (af.alloc ae (.cells #[.bool u.neg,.int .u8 u.kind,dw u.a,dw u.b] 168)));have L:=F.o.bx;obtain⟨M7,M6,M5,M4,M3,M0,Nc,Nb,Na,Be,M9,Bd,_,_⟩:=id L;have z:=dn L;have hs3:=R.size;clear R hu L d1;clear Bn xA yN xz Bl Bj zO zN zM zL Bi Bh;cases lb
 ·obtain⟨C,I,h,i,j,k,l,e,g⟩:=fe z.o.r0 z.o.r1 z.o.r2 z.o.r3 z.o.r4 (.int .u8 (a.toNat:Int)) (dw (0:Int)) (dw (0:Int)) (.slice d b c) (dE);have m:=dn (e _ _ z.o.ek ae);clear e g;go_wp2;exact dR (dM #[.agg #[.int .u8 (a.toNat:Int),dw (0:Int),dw (0:Int),.slice d b c,dE],dP]) bK rfl ⟨iX.no a.toNat 0 0 d b c none 0 0,m.o⟩
 ·have T:=F.o.own;rw[<-E.o]at T;have HOWN:=dn T;have A:Hid (w.heap.size+1<J.heap.size+1):=cK;have lX:Hid (∀q,(Value.slice d b c).ownBlock=some q->w.heap.size+2<=q):=λq H=>alX;have nZ:=dn Be;have rX:=dn Bd;have nC:=dn (pE u);have nU:=dn (fun(X:World) (bg:Nat) (hn:bg=X.heap.size)=>nW X u 168 bg hn);have uK:Hid (r.heap.size<=J.heap.size):=Nat.le_trans s.o.sz hs3;have uU:=dn s.o.lo;clear T;go_wp2_with (at_builtin;refine dU rfl (.tmp 97) (.tmp 99) 161 rfl r.heap.size 168 i0 (.agg #[dP,.int .u8 0,dw 0,dw 0]) 4 24 underlying161 hi0 hz0 hz1 hz2 rfl aY (.slice d b c) b (p.map Lit.cells).flatten rfl ami (dA (J.heap.size+1) 0) 1 u.cells rfl rfl (by exact nU.o _ _ aW) nC.o bz aR amG ?_;intro ga fD o hown' S hg1 hg2;have y1:o.cell? (dA (w.heap.size+1) 3)=some (.slice d b c):=((eY S (a:=dA (w.heap.size+1) 3) bO (λD=>aP (lX.o (w.heap.size+1) D.symm))).trans (dV _ _ _ bO)).trans nZ.o;have y2:o.frozen? (dA (w.heap.size+1) 3)=false:=((fo S (a:=dA (w.heap.size+1) 3) bO (λD=>aP (lX.o (w.heap.size+1) D.symm))).trans (eF _ _ _ bO)).trans (rX.o 3);obtain⟨W,lW⟩:=aK (o.setCell (dA (w.heap.size+1) 3) (dJ ga (b+1) fD));have hap:=gK (eb:=w.heap.size+1) (f:=3) (aP uU.o) (HOWN.o.alloc _) bO ((dV _ _ _ bO).trans nZ.o) hown' S hg2;rw[lW]at hap;have pV:Hid (qG w r W (.int .u8 (a.toNat:Int)) (dw (0:Int)) (dw (0:Int)) (dJ ga (b+1) fD) (p++[u])):=F.o.app _ amN;have hcp:=oG hown';clear hap hown' S hg1 hg2);go_roundw
  ·exact⟨t+1,some (dA ga 0),b+1,fD,p++[u],bL,aR,aR,amk,pV.o,λZ hl=>bW,aR,hcp.1,hcp.2⟩
  ·exact aph):p:=h
theorem apj(h:p:=by
 have tb:(y==[124])=false:=ak Q;have pK:=dn (yw y wr aR);clear Q;go_wp2_with fail;refine pK.o.mono ?_;rintro D J ⟨⟨u,lb,rfl,hu⟩,R⟩;have HU:=dn hu;have F:=dn ((s.o.below R).below (af.alloc ae (.cells #[.bool u.neg,.int .u8 u.kind,dw u.a,dw u.b] 168)));have L:=F.o.bx;obtain⟨M7,M6,M5,M4,M3,M0,Nc,Nb,Na,Be,M9,Bd,_,_⟩:=id L;have z:=dn L;have hs3:=R.size;clear R hu L d1;clear Bn xA yN xz Bl Bj zO zN zM zL Bi Bh;cases lb
 ·obtain⟨C,I,h,i,j,k,l,e,g⟩:=fe z.o.r0 z.o.r1 z.o.r2 z.o.r3 z.o.r4 (.int .u8 (a.toNat:Int)) (dw (n:Nat)) (dw (0:Int)) (.slice d b c) (dE);have m:=dn (e _ _ z.o.ek ae);clear e g;go_wp2;exact dR (dM #[.agg #[.int .u8 (a.toNat:Int),dw (n:Nat),dw (0:Int),.slice d b c,dE],dP]) bK rfl ⟨iX.no a.toNat n 0 d b c none 0 0,m.o⟩
 ·have T:=F.o.own;rw[<-E.o]at T;have HOWN:=dn T;have A:Hid (w.heap.size+1<J.heap.size+1):=cK;have lX:Hid (∀q,(Value.slice d b c).ownBlock=some q->w.heap.size+2<=q):=λq H=>alX;have nZ:=dn Be;have rX:=dn Bd;have nC:=dn (pE u);have nU:=dn (fun(X:World) (bg:Nat) (hn:bg=X.heap.size)=>nW X u 168 bg hn);have uK:Hid (r.heap.size<=J.heap.size):=Nat.le_trans s.o.sz hs3;have uU:=dn s.o.lo;clear T;go_wp2_with (at_builtin;refine dU rfl (.tmp 97) (.tmp 99) 161 rfl r.heap.size 168 i0 (.agg #[dP,.int .u8 0,dw 0,dw 0]) 4 24 underlying161 hi0 hz0 hz1 hz2 rfl aY (.slice d b c) b (p.map Lit.cells).flatten rfl ami (dA (J.heap.size+1) 0) 1 u.cells rfl rfl (by exact nU.o _ _ aW) nC.o bz aR amG ?_;intro ga fD o hown' S hg1 hg2;have y1:o.cell? (dA (w.heap.size+1) 3)=some (.slice d b c):=((eY S (a:=dA (w.heap.size+1) 3) bO (λD=>aP (lX.o (w.heap.size+1) D.symm))).trans (dV _ _ _ bO)).trans nZ.o;have y2:o.frozen? (dA (w.heap.size+1) 3)=false:=((fo S (a:=dA (w.heap.size+1) 3) bO (λD=>aP (lX.o (w.heap.size+1) D.symm))).trans (eF _ _ _ bO)).trans (rX.o 3);obtain⟨W,lW⟩:=aK (o.setCell (dA (w.heap.size+1) 3) (dJ ga (b+1) fD));have hap:=gK (eb:=w.heap.size+1) (f:=3) (aP uU.o) (HOWN.o.alloc _) bO ((dV _ _ _ bO).trans nZ.o) hown' S hg2;rw[lW]at hap;have pV:Hid (qG w r W (.int .u8 (a.toNat:Int)) (dw (n:Nat)) (dw (0:Int)) (dJ ga (b+1) fD) (p++[u])):=F.o.app _ amN;have hcp:=oG hown';clear hap hown' S hg1 hg2);go_roundw
  ·exact⟨t+1,some (dA ga 0),b+1,fD,p++[u],bL,aR,aR,amk,pV.o,λZ hl=>bW,aR,hcp.1,hcp.2⟩
  ·exact aph):p:=h
theorem apl(h:p:=by obtain⟨C,I,h,i,j,k,l,e,g⟩:=fe v.o.r0 v.o.r1 v.o.r2 v.o.r3 v.o.r4 (.int .u8 (a.toNat:Int)) (dw (0:Int)) (dw (0:Int)) (dE) (dE);have m:=dn (e _ _ v.o.ek ae);clear e g;go_wp2;exact dR (dM #[.agg #[.int .u8 (a.toNat:Int),dw (0:Int),dw (0:Int),dE,dE],dP]) bK rfl ⟨iX.no a.toNat 0 0 none 0 0 none 0 0,m.o⟩):p:=h
theorem apm(h:p:=by
 go_wp2_with fail;refine HT.o.mono ?_;rintro D J ⟨⟨aT,nT,cT,Mi,rfl,hds⟩,R⟩;have HTD:=dn hds;have F:=dn (s.o.below R);have L:=F.o.bx;obtain⟨M7,M6,M5,M4,M3,M0,Nc,Nb,Na,Be,M9,Bd,_,_⟩:=id L;obtain⟨o,hw4⟩:=aK (J.setCell (dA (w.heap.size+1) 4) (.slice aT nT cT));have K:=L.set 4 (.slice aT nT cT);rw[hw4]at K;simp only[if_pos,Nat.reduceEqDiff,ite_false]at K;have O:=dn K;have Ev:Hid (∀q,q≠w.heap.size+1->o.heap[q]?=J.heap[q]?):=λq H=>by rw[<-hw4];exact aD H
 obtain⟨nr0,nr1,nr2,nr3,nr4,nrf,nc0,nc1,nc2,nc3,nc4,ncf,_,_⟩:=id K;clear L K hds R d1;clear Bn xA yN xz Bl Bj zO zN zM zL Bi Bh;obtain⟨C,I,h,i,j,k,l,e,g⟩:=fe O.o.r0 O.o.r1 O.o.r2 O.o.r3 O.o.r4 (.int .u8 (a.toNat:Int)) (dw (0:Int)) (dw (0:Int)) (.slice d b c) (.slice aT nT cT);have m:=dn (e _ _ O.o.ek ae)
 have mr:Hid (iX C bq.length (dF (dM #[.agg #[.int .u8 (a.toNat:Int),dw (0:Int),dw (0:Int),.slice d b c,.slice aT nT cT],.bool Mi]))):=⟨a.toNat,0,0,d,b,c,aT,nT,cT,Mi,rfl,λB=>⟨a.toNat_lt,bZ,bZ,⟨p,E.o.symm,qp F.o.own (λq H=>(g q (aP s.o.lo)).trans (Ev.o q (aP s.o.lo))),oO.o,amo⟩,λ_=>by
  obtain⟨ds,x,V,h3,h4,h5⟩:=HTD.o B;have hlo:=s.o.bx.lt;refine⟨ds,x,?_,h3,?_,?_⟩
  ·have h6:FK o wr.heap.size (.slice aT nT cT) ds:=by rw[<-hw4];exact V.set dh _
   have h7:FK C wr.heap.size (.slice aT nT cT) ds:=by rw[<-I];exact((((h6.set aZ _).set aZ _).set aZ _).set aZ _).set aZ _
   exact h7.nodes
  ·have:=IW.o;have:=HWC.o;omega
  ·have:=HND.o;have:=uJ.o;omega⟩⟩
 clear e g;go_wp2;exact dR (dM #[.agg #[.int .u8 (a.toNat:Int),dw (0:Int),dw (0:Int),.slice d b c,.slice aT nT cT],.bool Mi]) bK rfl ⟨mr.o,m.o⟩):p:=h
theorem apn(h:p:=by obtain⟨E,F⟩:=bA;obtain⟨rfl,o⟩:=T;have D:=dn o;have n:Hid (jg S R=(E,F,false,S)):=amw;clear B o;have a:=v.o.of_block U.o;have e:=a.c0;have f:=a.c1;have g:=a.c2;have G:=a.fr;obtain⟨H,h,i,j,k,_,_⟩:=jD e f g (dw (E:Int)) (dw (F:Int)) (dP);have l:=dn (jX s.o ae aR C.o D.o h);clear a;go_wp2_with fail;refine dR (.agg #[dw (E:Int),dw (F:Int),dP]) bS rfl ?_;obtain⟨m,c,d⟩:=l.o;rw[n.o];exact⟨m,c,rfl,d⟩):p:=h
theorem apo(h:p:=by obtain⟨rfl,o⟩:=T;have D:=dn o;have n:Hid (jg S R=(0,0,false,S6)):=amw;clear B o;have a:=v.o.of_block U.o;have e:=a.c0;have f:=a.c1;have g:=a.c2;have G:=a.fr;obtain⟨H,h,i,j,k,_,_⟩:=jD e f g (dw (0:Int)) (dw (0:Int)) (dP);have l:=dn (jX s.o ae aR C.o D.o h);clear a;go_wp2_with fail;refine dR (.agg #[dw (0:Int),dw (0:Int),dP]) bS rfl ?_;obtain⟨m,c,d⟩:=l.o;rw[n.o];exact⟨m,c,rfl,d⟩):p:=h
theorem apq(h:p:=by obtain⟨C,I,h,i,j,k,l,e,g⟩:=fe f.o.r0 f.o.r1 f.o.r2 f.o.r3 f.o.r4 (.int .u8 (a.toNat:Int)) (dw (n:Nat)) (dw (0:Int)) (.slice d b c) (dE);have m:=dn (e _ _ f.o.ek ae);clear e g;go_wp2;exact dR (dM #[.agg #[.int .u8 (a.toNat:Int),dw (n:Nat),dw (0:Int),.slice d b c,dE],dP]) bK rfl ⟨iX.no a.toNat n 0 d b c none 0 0,m.o⟩):p:=h
theorem apr(h:p:=by go_enter func243,ntmps243;go_wp2_with fail;refine(q.o _).mono ?_;rintro e f ⟨rfl,rfl⟩;go_wp2_with fail;refine(p.o _ (a.o 1 1 0)).mono ?_;rintro e f ⟨rfl,rfl⟩;go_wp2_with fail;refine m.o.mono ?_;rintro e H c;obtain⟨I,J,rfl⟩:=c.two;have n:=dn c;clear c;go_wp2;go_ret2;rw[l.o];exact n.o):p:=h
theorem aps(h:p:=by
 simp only[hT]at v;obtain⟨⟨pp,rfl⟩,o⟩:=v;have y:=CY.o r hT;have I:=dn (F.o.after hk u o y.wf y.ext);have qI:=dn y.lt;have jF:Hid (Doc.iN (Doc.term S.syms d) (a.drop (j+1)) r.1 (b++[r.2])=z):=by have i:=G.o;rw[rW.o,hT]at i;exact i
 have mh:=dn I.o.row;have hal:b.length<=1000:=aR;have Gl:w.heap.size<q.heap.size:=I.o.size;clear hT u o y;go_wp2_with (at_builtin;refine dU rfl (.tmp 94) (.tmp 96) 57 rfl (w.heap.size+1) 3 i0 (dw 0) 1 8 underlying57 hi hz0 hz1 hz2 rfl aY (.slice av b.length Ay) b.length (b.map (λL:Nat=>Value.int .i64 (L:Int))) rfl an7 (dA q.heap.size 0) 1 [dw (r.2:Int)] rfl rfl bP bX bz aR aX ?_;intro ga fD w3 hown' hgrow hg1 f);have mO:=dn (I.o.snoc qI.o ((Below.refl q.heap.size q).alloc ae _) hown' hgrow hg1 f);clear hown' hgrow hg1 f;go_wp2;go_roundw
 ·exact⟨j+1,b++[r.2],r.1,_,bL,aR,aR,aX,mO.o,jF.o⟩
 ·exact aph):p:=h
theorem apt(h:p:=by clear e g;go_wp2;exact dR (dM #[.agg #[.int .u8 (a.toNat:Int),dw (0:Int),dw (0:Int),.slice d b c,dE],dP]) bK rfl ⟨iX.no a.toNat 0 0 d b c none 0 0,m.o⟩):p:=h
theorem apu(h:p:=by have DX:t=N:=aR;have tN:((t:Int)==(N:Int))=true:=bM;have htn:¬((t:Int)<(N:Int)):=aR;clear DX;obtain⟨C,I,h,i,j,k,l,e,g⟩:=fe f.o.r0 f.o.r1 f.o.r2 f.o.r3 f.o.r4 (.int .u8 (a.toNat:Int)) (dw (0:Int)) (dw (0:Int)) (.slice d b c) (dE);have m:=dn (e _ _ f.o.ek ae);have mr:Hid (iX C bq.length (dF (dM #[.agg #[.int .u8 (a.toNat:Int),dw (0:Int),dw (0:Int),.slice d b c,dE],fu]))):=⟨a.toNat,0,0,d,b,c,none,0,0,true,rfl,λ_=>⟨a.toNat_lt,bZ,bZ,⟨p,E.o.symm,qp s.o.own (λq H=>g q (aP s.o.lo)),oO.o,amo⟩,λB=>absurd B CX.o⟩⟩;clear e g;go_wp2;exact dR (dM #[.agg #[.int .u8 (a.toNat:Int),dw (0:Int),dw (0:Int),.slice d b c,dE],fu]) bK rfl ⟨mr.o,m.o⟩):p:=h
theorem apw(h:p:=by go_wp2_with fail;refine(T.o _ af).mono ?_;rintro e w2 b;obtain⟨D,h,d,rfl⟩:=b.three;have c:=b.fb J.o Lb.o;have E:=c.c0;have F:=c.c1;have cf:=c.fr;obtain⟨U,V,n,o,f,g⟩:=eP E F (dw (h:Int)) (dw (d:Int));have p:=dn (b.fw v.o aR aR f g);clear b c f g;go_wp2;exact dR (dM #[dw (D:Int),.agg #[dw (h:Int),dw (d:Int)]]) amb rfl p.o):p:=h
theorem apx(h:p:=by have a:=v.o.of_block GI.o;have e:=a.c0;have f:=a.c1;have g:=a.c2;have G:=a.fr;obtain⟨H,h,i,j,k,_,_⟩:=jD e f g (dw (4:Int)) (dw (p:Int)) (dP);have l:=dn (jX s.o ae aR y.o u.o h);clear a;go_wp2_with fail;refine dR (.agg #[dw (4:Int),dw (p:Int),dP]) bS rfl ?_;obtain⟨m,c,d⟩:=l.o;rw[n.o];exact⟨m,c,rfl,d⟩):p:=h
theorem apz(h:p:=by obtain⟨C,I,h,i,j,k,l,e,g⟩:=fe f.o.r0 f.o.r1 f.o.r2 f.o.r3 f.o.r4 (.int .u8 (a.toNat:Int)) (dw (n:Nat)) (dw (0:Int)) (.slice d b c) (dE);have m:=dn (e _ _ f.o.ek ae);have mr:Hid (iX C bq.length (dF (dM #[.agg #[.int .u8 (a.toNat:Int),dw (n:Nat),dw (0:Int),.slice d b c,dE],fu]))):=⟨a.toNat,n,0,d,b,c,none,0,0,true,rfl,λ_=>⟨a.toNat_lt,HA.o,bZ,⟨p,E.o.symm,qp s.o.own (λq H=>g q (aP s.o.lo)),oO.o,amo⟩,λB=>absurd B CX.o⟩⟩;clear e g;go_wp2;exact dR (dM #[.agg #[.int .u8 (a.toNat:Int),dw (n:Nat),dw (0:Int),.slice d b c,dE],fu]) bK rfl ⟨mr.o,m.o⟩):p:=h
theorem apA(h:p:=by have N:=dn M.o;have O:=dn YK.o;have P:=dn (IV.o f a _ _ K.o qI.o hna YK.o b.o);have Q:=s.o.print;have T:=s.o.op;have U:=b.o;clear U;go_wp2_with fail;refine P.o.dX λV c=>?_;have o:=(b.o).trans (c.mono (b.o).size);have X:=(s.o.below c).op;have Y:=dn (uT.o ⟨Doc.written S.terms f.print a,f.op,y,0,a⟩ _ V (O.o.below c) o);generalize Doc.written S.terms f.print a=bg at *;clear c o Q T;unfold eO;simp only[Nat.zero_add]at X;go_wp2_with fail;refine Y.o.mono ?_;rintro e w4 d;obtain⟨pa,pb,rfl⟩:=d.two;have Z:=dn d;clear d;go_wp2;go_ret2;rw[N.o];exact Z.o):p:=h
theorem apB(h:p:=by have xH:=dn hcc;clear hcc;rintro f w6 ⟨⟨Q,v6,rfl,m,M,hb6,hc6⟩,sG⟩;obtain⟨a6,cap6,hv6,_,_,_⟩:=eZ m;subst hv6;have b:=(H7.o.after sG);have D:=dn (b.store (c':=k) m (by exact H7.o.hi));have f0:=b.c0;have f1:=b.c1;have ff:=b.fr;have g0:=b.r0;have g1:=b.r1;have gf:=b.rf;have Px:=dn M;clear b M m;go_wp2_with fail;obtain⟨E,F,G,H⟩:=D.o.done (dD (dC.dec k));exact dR (.agg #[.slice a6 Q.length cap6,dD (dC.dec k)]) amc rfl ⟨⟨Q,k,⟨_,rfl,G⟩,Px.o,λz r=>Nat.le_trans (hb6 z r) (aP nG.o),Nat.le_trans hc6 (aP nG.o),λN=>absurd N FT.o⟩,H⟩):p:=h
theorem apC(h:p:=by go_wp2_with fail;refine X.o.mono ?_;rintro K e ⟨⟨vv,rfl,g⟩,A⟩;rw[Y.o]at g;have Z:=dn g;obtain⟨B,C,D,F,l4,rfl,hq⟩:=g;have a:=dn (z.o.dW A);have G:=a.o.dL M.o b.o;have f1:=a.o.dL N.o b.o;have ff:∀o,e.uV w.heap.size o=false:=λo=>(a.o.gq (O.o o) b.o);obtain⟨j,hwz,u,x,c,d⟩:=jV G f1 (.bool B) (.slice C D F);have y:=dn (c _ _ (L.o.dW a.o) ae);have HZ:=dn (P.o j _ true q.o (by rw[if_pos rfl];exact Z.o.put G d));clear c d hq A;go_wp2;exact dR (dM #[.agg #[.bool B,.slice C D F],fu]) anw rfl ⟨HZ.o,y.o⟩):p:=h
theorem apH(h:p:=by go_enter func21,ntmps21;go_wp2;go_ret;exact⟨c.o,d.o⟩):p:=h
theorem apI(h:p:=by go_enter func40,ntmps40;go_wp2_with fail;refine C.o.dX λc e=>?_;have m:=dn (J.o _ e);clear e;go_wp2;go_ret;exact⟨rfl,m.o⟩):p:=h
theorem apJ(h:p:=by
 have o:Hid (c.ownsRow w.heap.size 9 1 (dJ j (a.length+1) m) (a++[List.drop q (List.take k l)]).length ((a++[List.drop q (List.take k l)]).map eO)):=alW;have p:Hid (dB w c):=(f.alloc D _).grown e aX (λx r=>(b.o.lt x r).1);clear d e n;go_wp2;go_roundw
 ·exact⟨k+1,k+1,a++[List.drop q (List.take k l)],bL,bL,aR,aR,o.o,aX,λy s=>ane,p.o⟩
 ·exact aph):p:=h
theorem apL(h:p:=by
 go_wp2_with fail;refine(pX _ _ _ i aR).mono ?_;rintro e v ⟨rfl,rfl⟩
 have l:(if m=true then -(dC.val t:Int) else(dC.val t:Int))=x+y:=by
  have b:=p.o;have c:=q.o;have d:=k.o;cases m
  ·simp at b c;simp[d];omega
  ·simp at b c;simp[d];omega
 rw[l];go_wp2;go_ret;exact⟨rfl,(f.dW g).trans (j.mono (Nat.le_trans f.size g.size))⟩):p:=h
theorem apM(h:p:=by
 simp only[hT]at v;obtain⟨rfl,hne,ex,o⟩:=v;have hen:((xx.1:Int) !=0)=true:=bJ;have m:V=.error xx:=by rw[HT2.o,<-G.o,rW.o,hT]
 have ry:=dn u;have lq:=dn o;clear hT u o;go_wp2;go_ret3;rw[m];obtain⟨Xt,NY⟩:=F.o.ext;refine⟨Ce,F.o.fr.trans ry.o,rfl,hne,Xt++ex,?_⟩;have i:=lq.o;simp only[NY,List.append_assoc]at i;exact i):p:=h
theorem apN(h:p:=by obtain⟨C,I,h,i,j,k,l,e,g⟩:=fe O.o.r0 O.o.r1 O.o.r2 O.o.r3 O.o.r4 (.int .u8 (a.toNat:Int)) (dw (n:Nat)) (dw (0:Int)) (dE) (dE);have m:=dn (e _ _ O.o.ek ae);clear e g;go_wp2;exact dR (dM #[.agg #[.int .u8 (a.toNat:Int),dw (n:Nat),dw (0:Int),dE,dE],dP]) bK rfl ⟨iX.no a.toNat n 0 none 0 0 none 0 0,m.o⟩):p:=h
theorem apO(h:p:=by generalize kz a=B at *;go_enter func225,ntmps225;go_wp2_with fail;refine v.o.dX λh b=>?_;have d:=dn b;clear b;go_wp2;go_ret;exact⟨dS c.o.symm,d.o⟩):p:=h
theorem apP(h:p:=by have o:Hid (c.ownsRow w.heap.size 9 1 (dJ j (a.length+1) m) (a++[List.drop q l]).length ((a++[List.drop q l]).map eO)):=alW;have p:Hid (dB w c):=(f.alloc D _).grown e aX (λx r=>(b.o.lt x r).1);clear d e n;go_wp2;go_ret;exact⟨⟨_,a++[List.drop q l],rfl,o.o,aW,λy s=>ann,aX⟩,p.o⟩):p:=h
theorem apQ(h:p:=by go_enter func248,ntmps248;go_wp2;exact dR (dM #[.agg #[.int .u8 0,dE,dw 0,eB],dw (i:Nat),dP]) alV rfl ⟨lV.no 0 [] i none 0,HB0.o.ek⟩):p:=h
theorem apS(h:p:=by have d:=b.x;have f:=b.b;have g:=b.k;have h:=b.p;simp only[kE]at d f g h;exact dR (dM #[.agg #[dD x,dP,dE,dw i],dw k,dw 0]) (by simp[results,results137,go_sem,d,f,g,h]) rfl ⟨⟨⟨x,false,none,0,0,i⟩,by rw[q.o,<-a],by show _=_;rw[a]⟩,s⟩):p:=h
theorem apX(h:p:=by go_wp2;go_ret;exact⟨dS (f.o.symm.trans e.o.symm),g.o⟩):p:=h
theorem apY(h:p:=by go_wp2;exact dR (dM #[.agg #[.int .u8 102,.slice g c h,dw 0,eB],dw (t:Nat),dP]) alS rfl ⟨M.o,ZB.o⟩):p:=h
theorem apZ(h:p:=by go_wp2;exact dR (dM #[.agg #[.int .u8 99,.slice g c h,dw 0,eB],dw (t:Nat),dP]) alS rfl ⟨M.o,ZB.o⟩):p:=h
theorem ap0(h:p:=by
 rintro e w2 ⟨⟨c,d,rfl,i⟩,n⟩;have Q:=dn i;have o:=dn n;clear i n;go_wp2_with fail
 all_goals
  go_ret2;exact⟨iP.o _ _ _ _ _ _ o.o aR aR (λ_=>by first|rfl|(exfalso;omega)) Q.o,o.o⟩):p:=h
theorem ap1(h:p:=by go_wp2_with fail;obtain⟨a,v⟩:=iP.o;have g:=a.x;have j:=a.b;have o:=a.k;have p:=a.p;simp only[kE]at g j o p;exact dR (dM #[.agg #[eB,fu,.slice d m e,dw i],dw k,dw 2]) amE rfl ⟨an2,v⟩):p:=h
theorem ap3(h:p:=by go_enter func294,ntmps294;go_wp2;go_ret;exact⟨dS g.o.symm,s.o⟩):p:=h
theorem ap7(h:p:=by go_enter func191,ntmps191;go_wp2;go_ret;exact⟨fM aow,e.o⟩):p:=h
theorem ap9(h:p:=by go_enter func278,ntmps278;go_wp2_with fail;refine f.o.mono ?_;rintro e i ⟨rfl,rfl⟩;go_wp2;go_ret2;rw[g];exact⟨own,Fr.of_below k x.o c.o,rfl,b.o.below c.o⟩):p:=h
theorem aqb(h:p:=by go_wp2;go_ret2;rw[y.o];obtain⟨L,M⟩:=Z.o;refine⟨s,v.o.trans L,rfl,?_⟩;have O:ed _ s k b { S with terms:=r.1.take S.terms.length }:=M;rw[uF.o]at O;exact O):p:=h
theorem aqc(h:p:=by clear e g;go_wp2;exact dR (dM #[.agg #[.int .u8 (a.toNat:Int),dw (n:Nat),dw (bn:Nat),.slice d b c,dE],dP]) bK rfl ⟨iX.no a.toNat n bn d b c none 0 0,m.o⟩):p:=h
theorem aqd(h:p:=by go_wp2;exact dR (dM #[.agg #[eB,dP,dE,dw 0],dw 2,dw i]) (by simp[results,results90,go_sem]) rfl ⟨by rw[a];exact⟨⟨[],false,none,0,0,0⟩,rfl⟩,r.o⟩):p:=h
theorem aqe(h:p:=by go_wp2;exact dR (.agg #[.bool D,.slice E F G]) anl rfl ⟨⟨_,rfl,aoL⟩,ZB.o⟩):p:=h
theorem aqg(h:p:=by go_enter func198,ntmps198;go_wp2;exact dR (dM #[.agg #[dP,.int .u8 0,dw 0,dw 0],dP]) (by simp[results,results198,go_sem]) rfl ⟨H.o,G.o.ek⟩):p:=h
theorem aqh(h:p:=by go_enter func281,ntmps281;go_wp2;go_ret;exact⟨fM (by rw[c.o];rfl),rfl⟩):p:=h
theorem aqi(h:p:=by go_wp2_with fail;refine F.o.mono ?_;rintro e Q ⟨⟨rb,rfl⟩,t⟩;have G:=dn (c.o.dW t);clear t;go_wp2;go_ret;exact⟨⟨_,rfl⟩,G.o⟩):p:=h
theorem aqk(h:p:=by rintro t M ⟨⟨r,rfl,o⟩,p⟩;have x:=dn (d.o r ⟨r,rfl,o⟩);have y:=dn (c.o.dW p);clear o p;go_wp2;go_ret;exact⟨x.o,y.o⟩):p:=h
theorem aql(h:p:=by go_enter func157,ntmps157;go_wp2_with fail;refine(a.o _).mono ?_;rintro e f ⟨rfl,rfl⟩;go_wp2;go_ret;exact⟨dS b.o.symm,rfl⟩):p:=h
theorem aqo(h:p:=by go_enter func280,ntmps280;go_wp2;go_ret2;exact⟨by rw[T.o];rfl,af⟩):p:=h
theorem aqp(h:p:=by clear p q v s y m;go_enter func19,ntmps19;go_wp2;exact dR (rep 11 0 0 0) anK rfl ⟨own,Fr.of_below k V.o ai,by rw[c.o],aoJ⟩):p:=h
theorem aqs(h:p:=by
 go_wp2;go_roundw
 ·exact⟨m+1,rfl,aR,aR,tJ.o,HB3.o⟩
 ·exact aph):p:=h
theorem aqt(h:p:=by go_wp2;exact dR (dM #[kW,dw 7]) am4 rfl ⟨by rw[u.o];rfl,p.o⟩):p:=h
theorem aqu(h:p:=by
 go_wp2_with fail;refine H.o.dX λw3 d=>?_;have r:=dn d;clear d;go_wp2;go_roundw
 ·exact⟨i+1,bL,aR,r.o⟩
 ·exact aph):p:=h
theorem aqx(h:p:=by go_wp2;exact dR (dM #[.agg #[.int .u8 115,dE,dw (v:Nat),dD k],dw ((i:Int)+3),dP]) alV rfl ⟨M.o v _,tK.o v⟩):p:=h
theorem aqy(h:p:=by go_enter func182,ntmps182;go_wp2;go_ret2;exact⟨rfl,rfl⟩):p:=h
theorem aqz(h:p:=by have rz:=dn (c.o.trans ((af.drew.trans v).mono c.o.size));clear v;go_wp2;go_ret;exact⟨⟨_,rfl⟩,rz.o⟩):p:=h
theorem aqB(h:p:=by go_enter func125,ntmps125;go_wp2;go_ret;exact⟨rfl,rfl⟩):p:=h
theorem aqC(h:p:=by go_enter func109,ntmps109;go_wp2;go_ret;exact⟨anc,rfl⟩):p:=h
theorem aqD(h:p:=by have y:=dn k;clear k;go_wp2;go_ret;exact⟨rD.tt _,y.o⟩):p:=h
theorem aqE(h:p:=by
 go_wp2;go_roundw
 ·exact⟨q+1,d,e,_,bL,by congr 1;omega,by congr 1;omega,aR,rfl,Ad.o,D.o⟩
 ·exact aph):p:=h
theorem aqK(h:p:=by have y:=dn (p.o.trans ((af.drew.trans P).mono p.o.size));clear P;go_wp2;go_ret;exact⟨e.o,y.o⟩):p:=h
theorem aqL(h:p:=by go_wp2;go_ret;exact⟨dS (f.o.symm.trans e.o.symm),g.o.trans ((af.drew.trans l).mono g.o.size)⟩):p:=h
theorem aqM(h:p:=by generalize Doc.digits x=g at *;subst a;go_enter func246,ntmps246;go_wp2;go_ret;exact⟨rfl,rfl⟩):p:=h
theorem aqN(h:p:=by rw[h]at a ⊢;clear k c e j f;go_enter func187,ntmps187;go_wp2;go_ret;exact⟨ic d.o.symm,a.o⟩):p:=h
theorem aqQ(h:p:=by
 go_wp2;go_roundw
 ·exact⟨p+1,h++[S2.mk (.slice c a.length d) a b],bL,aR,C.o,aX⟩
 ·exact aph):p:=h
theorem aqS(h:p:=by clear b o m;go_wp2;go_ret;exact⟨dS q.o.symm,d.o⟩):p:=h
theorem aqU(h:p:=by go_wp2;go_ret;exact⟨r.o _ aR aR,HB3.o.dW (by first|exact Below.lN j.o|exact j.o:dB w4 _)⟩):p:=h
theorem aqV(h:p:=by clear i k E F;have m:=dn l;clear l;go_wp2_with fail;go_ret;exact⟨⟨_,rfl,m.o.1⟩,m.o.2⟩):p:=h
theorem aqX(h:p:=by go_wp2;go_ret2;rw[b];exact⟨own,Fr.of_below k K.o (a.o 1 1 0),rfl,A.o.below (a.o 1 1 0)⟩):p:=h
theorem aqY(h:p:=by go_wp2;go_ret;exact⟨r.o _ aR aR,d.o.dW (by first|exact Below.lN j.o|exact j.o:dB b _)⟩):p:=h
theorem aq1(h:p:=by have c:Doc.digit x[k]=false:=aoE;go_wp2;go_ret;exact⟨dS (by rw[e.o,j.o,c];rfl),rfl⟩):p:=h
theorem aq3(h:p:=by
 go_roundw
 ·exact⟨t+1,_,a++[z],bL,aR,aR,Z.o,HLEN.o,by rw[X.o];omega⟩
 ·exact aph):p:=h
theorem aq4(h:p:=by clear c;go_wp2;go_ret;rw[D.o];exact⟨own,Fr.of_below k z.o e.o,rfl,J.o.below e.o⟩):p:=h
theorem aq5(h:p:=by go_enter func244,ntmps244;go_wp2;go_ret2;rw[c];exact⟨own,Fr.refl E.o k,rfl,D.o⟩):p:=h
theorem aq6(h:p:=by
 clear E;go_wp2;go_roundw
 ·exact⟨k+1,q,a,bL,rfl,aR,aR,b.o,aR,g.o,f⟩
 ·exact aph):p:=h
theorem aq7(h:p:=by clear A;go_enter func131,ntmps131;go_wp2;go_ret;exact⟨rfl,nP.same N.o m.o af⟩):p:=h
theorem aq9(h:p:=by
 go_wp2;go_round
 ·exact⟨k+1,bL,aR,by rw[<-Doc.CK e b];exact c.o⟩
 ·exact aph):p:=h
theorem ara(h:p:=by go_enter func247,ntmps247;go_wp2;go_ret;exact⟨dS (by rw[l.o,<-acb];rfl),rfl⟩):p:=h
theorem arc(h:p:=by rintro x w2 ⟨⟨y,rfl⟩,hb2⟩;go_wp2;go_ret;exact⟨⟨_,rfl⟩,G.dW hb2⟩):p:=h
theorem arf(h:p:=by
 have CX:Hid (a.toNat≠65):=aov;have Vx:((a.toNat:Int) !=65)=true:=bJ;clear Y;have HS:=dn HS2.o;go_wp2_with fail
 go_loopw [6] (fun q wr=>∃(t:Nat) (d:eu) (b c:Nat) (p:List Lit),q=dw t/\1<=t/\t<=N/\b=p.length/\qG w r wr (.int .u8 (a.toNat:Int)) (dw (0:Int)) (dw (0:Int)) (.slice d b c) p/\(∀Z∈p,Z.small)/\b<=t/\b<=c/\c<=2 ^ 63-1) (fun q _=>N-(intOf q).toNat)
 ·exact aqI
 case round=>
  obtain⟨t,d,b,c,p,rfl,hit,Ky,wL,P,hsm,hlt,Gt,Gs⟩:=hrel;have s:=dn P;have oO:=dn hsm;have E:=dn wL;have bx:=P.bx;obtain⟨zO,zN,zM,zL,Bi,Bh,Bn,xA,yN,xz,Bl,Bj,_,_⟩:=id bx;have Dr:Hid (wr.heap[G]?=r.heap[G]?):=P.keep G wS.o.2 (aP wS.o.1);have f:=dn bx;clear P hsm wL bx
  by_cases htl:t<N
  ·obtain⟨y,M⟩:∃y,U[t]?=some y:=⟨_,aF amR⟩;have d1:=wm.o wr Dr.o t y M;have hyl:=uQ.o y (List.mem_of_getElem? M);clear M
   by_cases Q:y=[124]
   ·have tb:(y==[124])=true:=aoR;clear Q;have tN:((t:Int)==(N:Int))=false:=ak aR;obtain⟨C,I,h,i,j,k,l,e,g⟩:=fe f.o.r0 f.o.r1 f.o.r2 f.o.r3 f.o.r4 (.int .u8 (a.toNat:Int)) (dw (0:Int)) (dw (0:Int)) (.slice d b c) (dE);have m:=dn (e _ _ f.o.ek ae);exact apt
   ·exact api
  ·exact apu):p:=h
end Go.Proofs.YtjiagbaaikifpaaGreatDoor
