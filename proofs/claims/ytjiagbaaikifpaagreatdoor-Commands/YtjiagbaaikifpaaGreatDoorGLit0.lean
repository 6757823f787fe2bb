import Derived.Test.YtjiagbaaikifpaaGreatDoorGLW0
import Derived.Test.YtjiagbaaikifpaaGreatDoorGSum0
set_option maxRecDepth 100000
set_option maxHeartbeats 16000000
namespace Go.Proofs.YtjiagbaaikifpaaGreatDoor
open Go.RowKit Go.Proofs.Tryz
variable {J:List Lit}{V v y:Value}{W u w:World}{a:eu}{b:List Value}{e:TypeId}{f:List Int}{i k m n:Nat}{l:List Nat}{x:dN}
theorem qh {u0 u1 u2 u3:Value}(k:w.cell? (dA n 0)=some u0)(l:w.cell? (dA n 1)=some u1)(m:w.cell? (dA n 2)=some u2)(o:w.cell? (dA n 3)=some u3)(g h i j:Value) :
 ∃b,(((w.setCell (dA n 0) g).setCell (dA n 1) h).setCell (dA n 2) i).setCell (dA n 3) j=b/\b.cell? (dA n 0)=some g/\b.cell? (dA n 1)=some h/\b.cell? (dA n 2)=some i/\b.cell? (dA n 3)=some j/\∀d K,Below K d w->K<=n->Below K d b:=by
 have a:∀(e f:Nat),e≠f->((dA n e):Addr)≠(dA n f):=λe f p q=>p (by injection q);refine⟨_,rfl,?_,?_,?_,?_,λd K r c=>(((r.setCell c _).setCell c _).setCell c _).setCell c _⟩
 ·rw[ax (a 3 0 aR),ax (a 2 0 aR),ax (a 1 0 aR)];exact aC k
 ·rw[ax (a 3 1 aR),ax (a 2 1 aR)];exact aC ((ax (a 0 1 aR)).trans l)
 ·rw[ax (a 3 2 aR)];exact aC ((ax (a 1 2 aR)).trans ((ax (a 0 2 aR)).trans m))
 ·exact aC ((ax (a 2 3 aR)).trans ((ax (a 1 3 aR)).trans ((ax (a 0 3 aR)).trans o)))
theorem xM (h:n∈l):n<=l.sum:=by
 induction l with
 | nil=>cases h
 | cons b l a=>
  rw[List.sum_cons];rcases List.mem_cons.1 h with h|h
  ·exact aR
  ·have:=a h;exact aR
def afV (e:Ending):Prop:=∃(u:Lit) (b:Bool),e=dF (dM #[.agg #[.bool u.neg,.int .u8 u.kind,dw u.a,dw u.b],.bool b])/\u.small
structure qL (w wx:World)(z0 z1 z2 z3 v0 v1 v2 v3:Value):Prop where
 r0:wx.cell? (dA w.heap.size 0)=some z0
 r1:wx.cell? (dA w.heap.size 1)=some z1
 r2:wx.cell? (dA w.heap.size 2)=some z2
 r3:wx.cell? (dA w.heap.size 3)=some z3
 rf:∀o,wx.frozen? (dA w.heap.size o)=false
 c0:wx.cell? (dA (w.heap.size+1) 0)=some v0
 c1:wx.cell? (dA (w.heap.size+1) 1)=some v1
 c2:wx.cell? (dA (w.heap.size+1) 2)=some v2
 c3:wx.cell? (dA (w.heap.size+1) 3)=some v3
 cf:∀o,wx.frozen? (dA (w.heap.size+1) o)=false
 ek:dB w wx
 lt:w.heap.size+1<wx.heap.size
theorem qL.below {b c d e f:Value}(h:qL w W v V y b c d e f)(a:dB W u):qL w u v V y b c d e f:=by
 have j:=h.lt;have t:∀{p:Addr} {g:Value},W.cell? p=some g->u.cell? p=some g:=λi=>(a.cell (aj i)).trans i;exact⟨t h.r0,t h.r1,t h.r2,t h.r3,λo=>(a.gq (h.rf o) aZ),t h.c0,t h.c1,t h.c2,t h.c3,λo=>(a.gq (h.cf o) dh),h.ek.dW a,Nat.lt_of_lt_of_le j a.size⟩
theorem qL.start (w:World)(a b c d e f g h:Value)(i j:TypeId):qL w ((w.alloc (.cells #[a,b,c,d] i)).alloc (.cells #[e,f,g,h] j)) a b c d e f g h:=
 ⟨aW,aW,aW,aW,λo=>aW,aW,aW,aW,aW,λo=>aW,ai.alloc aW _,aW⟩
theorem qL.set {d g i j k:Value}(h:qL w W v V y d g i j k)(f:Nat)(u:Value) :
 qL w (W.setCell (dA (w.heap.size+1) f) u) v V y d (if f=0 then u else g) (if f=1 then u else i) (if f=2 then u else j) (if f=3 then u else k):=by
 have o:∀{q:Nat} {a:Value},W.cell? (dA w.heap.size q)=some a->(W.setCell (dA (w.heap.size+1) f) u).cell? (dA w.heap.size q)=some a:=λb=>(ax (λe=>by injection e with e _;omega)).trans b
 have s:∀{q:Nat} {a:Value},W.cell? (dA (w.heap.size+1) q)=some a->(W.setCell (dA (w.heap.size+1) f) u).cell? (dA (w.heap.size+1) q)=some (if f=q then u else a):=λ{q a} b=>by
  exact aqP
 exact⟨o h.r0,o h.r1,o h.r2,o h.r3,λq=>by rw[World.frozen?_setCell];exact h.rf q,s h.c0,s h.c1,s h.c2,s h.c3,λq=>by rw[World.frozen?_setCell];exact h.cf q,h.ek.setCell aog _,amC⟩
theorem yw (x:dN)(w:World)(hx:x.length<=1000000000) :
 dH 198 #[dD x] w λs w'=>afV s/\dB w w':=by
 have hR:=gU;have G:=dn (qL.start w (dP) (.int .u8 0) (dw 0) (dw 0) (dP) (.int .u8 0) (dw 0) (dw 0) 168 168);have H:Hid (afV (dF (dM #[.agg #[dP,.int .u8 0,dw 0,dw 0],dP]))):=⟨⟨false,0,0,0⟩,false,rfl,by simp[Lit.small]⟩
 by_cases E:x.length<3
 ·have P:(x.length:Int)<3:=aR;clear E;exact aqg
 ·obtain⟨h,a,z,t,rfl⟩:∃h a z t,x=h::a::z::t:=by
   match x,E with
   | [],A=>simp at A
   | [_],A=>simp at A
   | [_,_],A=>simp at A
   | b::d::bg::t,_=>exact⟨b,d,bg,t,rfl⟩
  have P:¬(((h::a::z::t).length:Int)<3):=by simp only[List.length_cons];omega
  have hrl:(z::t).length<=1000000000:=by simp only[List.length_cons]at hx ⊢;omega
  have AR:=dn (λbn=>JL (z::t) 44 bn aR);have o:=a.toNat_lt;simp only[List.length_cons]at P
  by_cases Q:h.toNat≠43/\h.toNat≠45
  ·have R:((h.toNat:Int) !=43)=true:=bJ;have tb:((h.toNat:Int) !=45)=true:=bJ;clear Q;exact aqg
  ·obtain⟨c,te⟩:=aK (((h.toNat:Int)==45));have HB1:=dn (qL.start w (dP) (.int .u8 0) (dw 0) (dw 0) (.bool c) (.int .u8 (a.toNat:Int)) (dw 0) (dw 0) 168 168)
   have hcase:(((h.toNat:Int) !=43)=false)\/(((h.toNat:Int) !=43)=true/\((h.toNat:Int) !=45)=false):=by
    by_cases h43:h.toNat=43
    ·left;rw[bne_eq_false_iff_eq];omega
    ·right
     have h45:h.toNat=45:=aR;exact⟨bJ,amt⟩
   clear Q G H;rcases hcase with R|⟨R,tb⟩
   all_goals
    go_enter func198,ntmps198;go_wp2_with fail;refine(AR.o _).mono ?_;rintro s I ⟨⟨bA,u,rfl,J,S,hsum⟩,T⟩;obtain⟨av,cv,hv,q1,q2,U⟩:=eZ J;subst hv;have V:=dn (HB1.o.below T)
    have W:Hid (∀y∈u,y.length<=1000000000):=λy hy=>by
     have h1:y.length<=(u.map List.length).sum:=xM (List.mem_map_of_mem hy);exact aR
    have K:Hid (∀p,p<u.length->∃r y,av=some (dA r 0)/\y∈u/\I.cell? (dA r p)=some (dD y)):=λp B=>by
     obtain⟨r,h1,h2,_⟩:=U p B;exact⟨r,u[p],h1,List.getElem_mem B,by rw[h2];simp[B,eO]⟩
    obtain⟨N,X⟩:=aK u.length;rw[X]at q1 S K ⊢;obtain⟨r,Y,rfl,Z,d0⟩:=K.o 0 S;have FR:=dn (qd Y I (aP (W.o Y Z)));have v:=V.o;have b2:=v.c2;have b1:=v.c1;have b0:=v.c0;have b3:=v.c3;have bf:=v.cf;have HG:Hid (w.heap.size+1+1<=r):=by show _<=_;have:=(J.lt r rfl).1;simpa using this
    clear J hsum U T X Z v;go_wp2_with fail;refine FR.o.mono ?_;rintro s w2 ⟨⟨b,xb,ha,rfl⟩,hw2⟩;have yP:=hw2.symm;subst yP;have q:=dn ha;obtain⟨C,hw3⟩:=aK (I.setCell (dA (w.heap.size+1) 2) (dw (b:Nat)));have g:=V.o.set 2 (dw (b:Nat));rw[hw3]at g;simp only[if_pos,Nat.reduceEqDiff,ite_false]at g;have f:=dn g;have e0:=g.c0;have e1:=g.c1;have e2:=g.c2;have e3:=g.c3;have ef:=g.cf;have er:=g.rf;have er0:=g.r0;have er1:=g.r1;have er2:=g.r2;have er3:=g.r3
    have ai9:Hid (∀p,p<N->∃y,y∈u/\C.cell? (dA r p)=some (dD y)):=λp B=>by
     obtain⟨g',y,h1,h2,E⟩:=K.o p B;injection h1 with h1
     injection h1 with h1;subst h1;exact⟨y,h2,by rw[<-hw3];exact(ax (λs=>by injection s with s _;have:=HG.o;omega)).trans E⟩
    clear g ha hw2 d0
    by_cases hT:a.toNat=84
    ·have tT:((a.toNat:Int)==84)=true:=bM;obtain⟨L,M,i,j,k,l,n⟩:=qh f.o.r0 f.o.r1 f.o.r2 f.o.r3 (.bool c) (.int .u8 (a.toNat:Int)) (dw (b:Nat)) (dw 0);have m:=dn (n _ _ f.o.ek ae);clear n hT;cases xb
     case' true=>
      obtain⟨bN,tN⟩:=aK (((N:Int)==1));cases bN
     all_goals
      go_wp2_with fail
      first
      | (refine dR (dM #[.agg #[.bool c,.int .u8 a.toNat,dw (b:Nat),dw 0],dP]) ?h1 rfl ?h2;(case h1=>(simp[results,results198,go_sem,i,j,k,l];done));(case h2=>exact⟨⟨⟨c,a.toNat,b,0⟩,false,rfl,o,q.o,bZ⟩,m.o⟩))
      | (refine dR (dM #[.agg #[.bool c,.int .u8 a.toNat,dw (b:Nat),dw 0],fu]) ?h1 rfl ?h2;(case h1=>(simp[results,results198,go_sem,i,j,k,l];done));(case h2=>exact⟨⟨⟨c,a.toNat,b,0⟩,true,rfl,o,q.o,bZ⟩,m.o⟩))
    ·have tT:((a.toNat:Int)==84)=false:=ak aR;clear hT
     by_cases O:N=2
     ·have tN:((N:Int) !=2)=false:=amt
      by_cases D:a.toNat=69\/a.toNat=76
      ·obtain⟨y1,hy1,d1⟩:=ai9.o 1 aR;have nS:=dn (qd y1 C (aP (W.o y1 hy1)));have aaG:(1:Int)<(N:Int):=aR
       have hK2:(((a.toNat:Int) !=69)=false/\((a.toNat:Int)==76)=false)\/(((a.toNat:Int) !=69)=true/\((a.toNat:Int) !=76)=false/\((a.toNat:Int)==76)=true):=by
        rcases D with D|D
        ·left;exact⟨amt,ak aR⟩
        ·right;exact⟨bJ,amt,bM⟩
       clear D O hy1;rcases hK2 with ⟨tk1,tk3⟩|⟨tk1,tk2,tk3⟩
       all_goals
        go_wp2_with fail;refine nS.o.mono ?_;rintro s w4 ⟨⟨d,yb,hb,rfl⟩,hw4⟩;have aah:=hw4.symm;subst aah;have F:=dn hb;obtain⟨w5,lW⟩:=aK (C.setCell (dA (w.heap.size+1) 3) (dw (d:Nat)));have e:=f.o.set 3 (dw (d:Nat));rw[lW]at e;simp only[if_pos,Nat.reduceEqDiff,ite_false]at e;have k0:=e.c0;have k1:=e.c1;have k2:=e.c2;have k3:=e.c3;have kr:=e.rf;have zO:=e.r0;have zN:=e.r1;have zM:=e.r2;have zL:=e.r3;obtain⟨L,M,i,j,k,l,n⟩:=qh e.r0 e.r1 e.r2 e.r3 (.bool c) (.int .u8 (a.toNat:Int)) (dw (b:Nat)) (dw (d:Nat));have m:=dn (n _ _ e.ek ae);clear n e hb hw4;cases xb
        case' true=>cases yb
        all_goals
         go_wp2_with fail
         first
         | (refine dR (dM #[.agg #[.bool c,.int .u8 a.toNat,dw (b:Nat),dw (d:Nat)],dP]) ?h1 rfl ?h2;(case h1=>(simp[results,results198,go_sem,i,j,k,l];done));(case h2=>exact⟨⟨⟨c,a.toNat,b,d⟩,false,rfl,o,q.o,F.o⟩,m.o⟩))
         | (refine dR (dM #[.agg #[.bool c,.int .u8 a.toNat,dw (b:Nat),dw (d:Nat)],fu]) ?h1 rfl ?h2;(case h1=>(simp[results,results198,go_sem,i,j,k,l];done));(case h2=>exact⟨⟨⟨c,a.toNat,b,d⟩,true,rfl,o,q.o,F.o⟩,m.o⟩))
         | (refine dR (dM #[.agg #[.bool c,.int .u8 a.toNat,dw (b:Nat),dw (d:Nat)],.bool (decide (b<d))]) ?h1 rfl ?h2;(case h1=>(simp[results,results198,go_sem,i,j,k,l];done));(case h2=>exact⟨⟨⟨c,a.toNat,b,d⟩,(decide (b<d)),rfl,o,q.o,F.o⟩,m.o⟩))
         | (refine dR (dM #[.agg #[.bool c,.int .u8 a.toNat,dw (b:Nat),dw (d:Nat)],.bool (decide ((b:Int)<(d:Int)))]) ?h1 rfl ?h2;(case h1=>(simp[results,results198,go_sem,i,j,k,l];done));(case h2=>exact⟨⟨⟨c,a.toNat,b,d⟩,(decide ((b:Int)<(d:Int))),rfl,o,q.o,F.o⟩,m.o⟩))
      ·have tk1:((a.toNat:Int) !=69)=true:=bJ;have tk2:((a.toNat:Int) !=76)=true:=bJ;obtain⟨L,M,i,j,k,l,n⟩:=qh f.o.r0 f.o.r1 f.o.r2 f.o.r3 (.bool c) (.int .u8 (a.toNat:Int)) (dw (b:Nat)) (dw 0);have m:=dn (n _ _ f.o.ek ae);clear n D O;go_wp2_with fail
       first
       | (refine dR (dM #[.agg #[.bool c,.int .u8 a.toNat,dw (b:Nat),dw 0],dP]) ?h1 rfl ?h2;(case h1=>(simp[results,results198,go_sem,i,j,k,l];done));(case h2=>exact⟨⟨⟨c,a.toNat,b,0⟩,false,rfl,o,q.o,bZ⟩,m.o⟩))
       | (refine dR (dM #[.agg #[.bool c,.int .u8 a.toNat,dw (b:Nat),dw 0],fu]) ?h1 rfl ?h2;(case h1=>(simp[results,results198,go_sem,i,j,k,l];done));(case h2=>exact⟨⟨⟨c,a.toNat,b,0⟩,true,rfl,o,q.o,bZ⟩,m.o⟩))
     ·have tN:((N:Int) !=2)=true:=bJ;obtain⟨L,M,i,j,k,l,n⟩:=qh f.o.r0 f.o.r1 f.o.r2 f.o.r3 (.bool c) (.int .u8 (a.toNat:Int)) (dw (b:Nat)) (dw 0);have m:=dn (n _ _ f.o.ek ae);clear n O;go_wp2_with fail
      first
      | (refine dR (dM #[.agg #[.bool c,.int .u8 a.toNat,dw (b:Nat),dw 0],dP]) ?h1 rfl ?h2;(case h1=>(simp[results,results198,go_sem,i,j,k,l];done));(case h2=>exact⟨⟨⟨c,a.toNat,b,0⟩,false,rfl,o,q.o,bZ⟩,m.o⟩))
      | (refine dR (dM #[.agg #[.bool c,.int .u8 a.toNat,dw (b:Nat),dw 0],fu]) ?h1 rfl ?h2;(case h1=>(simp[results,results198,go_sem,i,j,k,l];done));(case h2=>exact⟨⟨⟨c,a.toNat,b,0⟩,true,rfl,o,q.o,bZ⟩,m.o⟩))
def wc (ws:List (dN)):Nat:=(ws.map (λx=>x.length+33)).sum
theorem AY {a:List (dN)}(h:a[n]?=some x):wc (a.take (n+1))=wc (a.take n)+(x.length+33):=by
 unfold wc;rw[List.take_add_one,h];exact aW
theorem agJ (a:List (dN))(i:Nat):wc (a.take i)<=wc a:=by
 exact ap4
def IG (w:World)(a:eu)(xs:List (dN)):Prop:=∀i z,xs[i]?=some z->∃g o,a=some (dA g o)/\w.cell? (dA g (o+i))=some (dD z)
theorem IG.below {b:List (dN)}(h:IG w a b)(c:dB w W):IG W a b:=λi z d=>by
 obtain⟨g,o,e,f⟩:=h i z d;exact⟨g,o,e,(c.eT f)⟩
def lV (w':World)(base:Nat)(ws:List (dN))(i:Nat)(e:Ending):Prop:=
 ∃(d:Nd) (j:Nat) (b:Bool) (a:eu) (c:Nat),e=dF (dM #[.agg #[.int .u8 d.kind,.slice a d.mult.length c,dw d.var,dD d.num],dw j,.bool b])/\
  (b=true->Ep d/\fA w' (.slice a d.mult.length c) d.mult/\i<j/\j<=ws.length/\G7 d+wc (ws.take i)<=wc (ws.take j)/\∀q,(Value.slice a d.mult.length c).ownBlock=some q->base<=q)
theorem lV.no {d:List (dN)}(k:Nat)(a:List Int)(j:Nat)(b:eu)(c:Nat):lV w n d m (dF (dM #[.agg #[.int .u8 k,.slice b a.length c,dw (0:Nat),eB],dw j,dP])):=⟨⟨k,a,0,[]⟩,j,false,b,c,rfl,aW⟩
structure y9 (w wx:World)(kd:Nat)(vs:Value)(ms:List Int):Prop where
 bx:qL w wx (.int .u8 0) (dE) (dw 0) (eB) (.int .u8 kd) vs (dw 0) (eB)
 own:wx.ownsRow (w.heap.size+2) 9 1 vs ms.length (ms.map str)
theorem y9.app {z:Int}(h:y9 w W n v f)(X:Obj)(b:mo (W.alloc X) u (w.heap.size+1) 1 (w.heap.size+2) 9 1 v V (f.length+1) (f.map str++[str z])):y9 w u n V (f++[z]):=by
 have d:dB W (W.alloc X):=af.alloc ae X;have a:=h.bx.below d;have e:=a.lt;have t:∀{q:Nat} {c:Value},(W.alloc X).cell? (dA w.heap.size q)=some c->u.cell? (dA w.heap.size q)=some c:=λg=>(b.below.dL g aZ);refine⟨⟨t a.r0,t a.r1,t a.r2,t a.r3,λo=>(b.below.gq (a.rf o) aZ),(b.cells 0 aR).trans a.c0,b.cell,(b.cells 2 aR).trans a.c2,(b.cells 3 aR).trans a.c3,λo=>(b.frozen o).trans (a.cf o),a.ek.trans (b.below.mono aR),Nat.lt_of_lt_of_le e b.size⟩,?_⟩;rw[List.length_append,List.map_append];exact b.own
theorem y9.nums (h:y9 w W n v f){b c d e:Value}(g:(((W.setCell (dA w.heap.size 0) b).setCell (dA w.heap.size 1) c).setCell (dA w.heap.size 2) d).setCell (dA w.heap.size 3) e=u):fA u v f:=by
 have i:=fA.fq h.own;have a:v.ownBlock≠some w.heap.size:=λj=>aP ((h.own.lt _ j).1);rw[<-g];exact(((i.set a _).set a _).set a _).set a _
theorem ZN (a0:eu)(cap0 N i:Nat)(b:List (dN))(w:World)(hws:IG w a0 b)(hN:b.length=N)(hc:N<=cap0/\cap0<=2 ^ 63-1)(hi:i<=1000000000)(hn:N<=1000000000)(hl:∀x∈b,x.length<=1000000000) :
 dH 248 #[.slice a0 N cap0,dw i] w λJ w'=>lV w' w.heap.size b i J/\dB w w':=by
 have hR:=gU;obtain⟨i0,hi0,hz0,hz1,hz2⟩:=info_parts ni;obtain⟨hc1,hc2⟩:=hc;have HG:Hid (∀W,dB w W->∀i z,b[i]?=some z->∃bg o,a0=some (dA bg o)/\W.cell? (dA bg (o+i))=some (dD z)):=λW j=>hws.below j;have HL:=dn hl;have K:=dn hN;have HB0:=dn (qL.start w (.int .u8 0) (dE) (dw 0) (eB) (.int .u8 0) (dE) (dw 0) (eB) 277 277);have HIS:=dn (λbn W j=>OY bn W j);have oO:=dn (λbn W j=>qd bn W j);clear hws hl hN
 by_cases hlt:i<N
 ·obtain⟨x,l⟩:∃x,b[i]?=some x:=⟨_,aF (by rw[K.o];exact hlt)⟩;have hxl:=HL.o x (List.mem_of_getElem? l);have HX:=dn l;have HW1:=dn (AY l);obtain⟨bg,o,rfl,d0⟩:=HG.o _ HB0.o.ek i x l;have hge:¬((N:Int)<=(i:Int)):=aR;clear l
  by_cases hs:x=[115]
  ·subst hs
   by_cases h2:i+2<N
   ·obtain⟨y1,hy1⟩:∃D,b[i+1]?=some D:=⟨_,aF anR⟩;obtain⟨k,hy2⟩:∃D,b[i+2]?=some D:=⟨_,aF anR⟩;obtain⟨g1,o1,f,d1⟩:=HG.o _ HB0.o.ek (i+1) y1 hy1;injection f with f
    injection f with f ho1;subst f ho1;obtain⟨g2,o2,n,d2⟩:=HG.o _ HB0.o.ek (i+2) k hy2;injection n with n;injection n with n ho2;subst n ho2;have nS:=dn (λW=>oO.o y1 W (aP (HL.o y1 (List.mem_of_getElem? hy1))));have HI2:=dn (λW=>HIS.o k W (aP (HL.o k (List.mem_of_getElem? hy2))));have HW2:=dn (AY hy1);have HW3:=dn (AY hy2);have hlt1:(i:Int)+1<(N:Int):=aR;have hlt2:(i:Int)+2<(N:Int):=aR;have ae7:¬((N:Int)<=(i:Int)+2):=aR
    have L:Hid (∀(v:Nat) (W:World),v<1000->dC.Is k=true->lV W w.heap.size b i (dF (dM #[.agg #[.int .u8 (115:Nat),dE,dw (v:Nat),dD k],dw (i+3:Nat),fu]))):=λv W hv hI=>by
     refine⟨⟨115,[],v,k⟩,i+3,true,none,0,rfl,λ_=>⟨⟨by show 115<256;omega,hv,λ_=>dC.qD hI⟩,⟨none,0,rfl,ae,bz,λbB hj=>by simp at hj⟩,aR,anR,?_,λq p=>aoO⟩⟩;have e1:=HW1.o;have e2:wc (b.take (i+2))=_:=HW2.o;have e3:=HW3.o;show(ib []+k.length+30)+_<=wc (b.take (i+2+1));have:ib []=0:=rfl;exact aR
    have M:Hid (∀(v:Nat) (W:World),lV W w.heap.size b i (dF (dM #[.agg #[.int .u8 (115:Nat),dE,dw (v:Nat),dD k],dw (i+3:Nat),dP]))):=λv W=>⟨⟨115,[],v,k⟩,i+3,false,none,0,rfl,aW⟩;have tK:=dn (λv:Nat=>(qL.start w (.int .u8 115) (dE) (dw (v:Nat)) (dD k) (.int .u8 115) (dE) (dw (v:Nat)) (dD k) 277 277).ek);clear hy1 hy2;generalize dC.Is k=yb at *;go_enter func248,ntmps248;go_wp2_with fail;refine(nS.o _).mono ?_;rintro J O ⟨⟨v,xb,hv,rfl⟩,hw1⟩;have HVV:=dn hv;subst hw1;clear hv;go_wp2_with fail;refine(HI2.o _).dX λO hw1=>?_;subst hw1;cases xb
    ·exact aqx
    ·cases yb
     ·exact aqx
     ·go_wp2;exact dR (dM #[.agg #[.int .u8 115,dE,dw (v:Nat),dD k],dw ((i:Int)+3),fu]) alV rfl ⟨by first|exact L.o v _ HVV.o rfl|exact L.o v _ HVV.o trivial,tK.o v⟩
   ·have ae7:(N:Int)<=(i:Int)+2:=aR;exact apQ
  ·by_cases hf:x=[102]
   ·subst hf;have HW0:Hid (wc (b.take (i+1))=wc (b.take i)+34):=by show _=_;rw[HW1.o];rfl
    have HST:Hid (y9 w ((w.alloc (.cells #[.int .u8 0,dE,dw 0,eB] 277)).alloc (.cells #[.int .u8 (102:Nat),dE,dw 0,eB] 277)) 102 (dE) []):=⟨qL.start w (.int .u8 0) (dE) (dw 0) (eB) (.int .u8 (102:Nat)) (dE) (dw 0) (eB) _ _,World.ownsRow_nil _ _ _ _⟩
    have L:Hid (∀(a:List Int) (t:Nat) (E:eu) (F:Nat) (W:World),fA W (.slice E a.length F) a->(∀q,(Value.slice E a.length F).ownBlock=some q->w.heap.size<=q)->i<t->t<=N->ib a+wc (b.take (i+1))<=wc (b.take t)->lV W w.heap.size b i (dF (dM #[.agg #[.int .u8 (102:Nat),.slice E a.length F,dw (0:Nat),eB],dw (t:Nat),fu]))):=λa t E F W hnu hbq h1 h2 h3=>by
     refine⟨⟨102,a,0,[]⟩,t,true,E,F,rfl,λ_=>⟨⟨by show 102<256;omega,bZ,λj=>by simp at j⟩,hnu,h1,by rw[K.o];exact h2,?_,hbq⟩⟩;have:=HW0.o;show(ib a+0+30)+_<=_;exact aR
    clear HW1;go_enter func248,ntmps248;go_wp2_with fail;clear d0
    go_loopw [1] (fun q wr=>∃(t:Nat) (vs:Value) (a:List Int),q=dw t/\i+1<=t/\t<=N/\y9 w wr 102 vs a/\ib a+wc (b.take (i+1))<=wc (b.take t)/\a.length<=t) (fun q _=>N-(intOf q).toNat)
    ·exact aq0
    case round=>
     obtain⟨t,vs,a,rfl,hit,Ky,P,hco,NM⟩:=hrel;have Q:=dn P;have RX:=dn hco;have d:=P.bx;obtain⟨g,h,rfl,hcap,hmax,_⟩:=eZ P.own;have k0:=d.c0;have k1:=d.c1;have k2:=d.c2;have k3:=d.c3;have kf:=d.cf;have q0:=d.r0;have q1:=d.r1;have q2:=d.r2;have q3:=d.r3;have qf:=d.rf;have hsz:=d.lt;have I5:=dn NM;obtain⟨c,hNM⟩:=aK a.length;have R:=dn hNM;rw[hNM]at hcap k1 NM;obtain⟨S,hwz,s,u,y,A,G⟩:=qh q0 q1 q2 q3 (.int .u8 (102:Int)) (.slice g c h) (dw (0:Int)) (eB);have ZB:=dn (G _ _ d.ek ae);have M:Hid (lV S w.heap.size b i (dF (dM #[.agg #[.int .u8 (102:Nat),.slice g c h,dw (0:Nat),eB],dw (t:Nat),dP]))):=by show lV _ _ _ _ _;rw[<-R.o];exact lV.no 102 a t g h
     clear G d P hco hNM
     by_cases hlt2:t<N
     ·obtain⟨x,l⟩:∃x,b[t]?=some x:=⟨_,aF (by rw[K.o];exact hlt2)⟩;have hxl:=HL.o x (List.mem_of_getElem? l);have HWT:=dn (AY l);obtain⟨g1,o1,f,d1⟩:=HG.o wr Q.o.bx.ek t x l;injection f with f
      injection f with f ho1;subst f ho1;clear l;go_upto_region 22 with fail;go_cut [13] (fun D wx=>(∃H:Bool,D=.bool H/\(H=true->0<x.length))/\wx=wr)
      case first=>
       exact apR
      case rest=>
       obtain⟨⟨H,rfl,hlb⟩,I⟩:=hcut;have hwc':=I.symm;subst hwc';have wR:=dn hlb;clear hlb I
       go_upto_if 109 with fail
       go_cut [12] (fun D wx=>(∃m:dN,D=dD m/\m.length<=x.length)/\wx=wr)
       case first=>
        cases H
        ·go_wp2;go_meet
         ·exact⟨⟨x,rfl,ae⟩,rfl⟩
        ·exact aqv
       case rest=>
        obtain⟨⟨m,rfl,aao⟩,I⟩:=hcut;have hwc':=I.symm;subst hwc';clear I d1;have HI2:=dn (λW=>HIS.o m W aR);have T:=dn (AO (l:=m));have U:Hid (dC.Is m=true->∃z:Int,m=dC.dec z):=λj=>dC.qD j;obtain⟨mb,hmb⟩:=aK (dC.Is m);rw[hmb]at HI2 T U;clear hmb;go_wp2_with fail;refine(HI2.o _).dX λw2 hw2=>?_;have yP:=hw2.symm;subst yP;clear hw2;cases mb
        ·exact apY
        ·have hm0:0<m.length:=ao6;obtain⟨z,hz⟩:∃z:Int,m=dC.dec z:=ao5;have K4:=dn hz;have ahZ:(0:Int)<(m.length:Int):=aR;clear hz
         by_cases h45:(m[0]'hm0).toNat=45
         ·have t45:(((m[0]'hm0).toNat:Int)==45)=true:=bM;clear h45;exact apY
         ·have t45:(((m[0]'hm0).toNat:Int)==45)=false:=ak aR;clear h45;have V:=Q.o.own;rw[R.o]at V;have HOWN:=dn V;have r:Hid (w.heap.size+1<wr.heap.size):=Q.o.bx.lt;have hnb:∀q,(Value.slice g c h).ownBlock=some q->w.heap.size+2<=q:=λq p=>(V.lt q p).1;have lX:=dn hnb;have nZ:=dn k1;have rX:=dn kf;have rE:Hid ((dD m:Value)=str z):=by show _=_;rw[K4.o];rfl
          have HLEN:Hid (ib (a++[z])+wc (b.take (i+1))<=wc (b.take (t+1))):=by
           exact aqf
          have X:Hid ((a++[z]).length=c+1):=by show _=_;rw[List.length_append,R.o];rfl
          clear V hnb s u y A hwz;cases H
          all_goals
           go_wp2_with (at_builtin;refine dU rfl (.tmp 127) (.tmp 129) 45 rfl (w.heap.size+2) 9 i0 (eB) 1 16 underlying45 hi0 hz0 hz1 hz2 rfl aY (.slice g c h) c (a.map str) rfl ami (dA wr.heap.size 0) 1 [dD m] rfl rfl bP bX bz aR aml ?_;intro B C O hown' Y f n;have y1:O.cell? (dA (w.heap.size+1) 1)=some (.slice g c h):=((eY Y (a:=dA (w.heap.size+1) 1) aml (λJ=>aP (lX.o (w.heap.size+1) J.symm))).trans (dV wr _ _ r.o)).trans nZ.o;have k:O.frozen? (dA (w.heap.size+1) 1)=false:=((fo Y (a:=dA (w.heap.size+1) 1) aml (λJ=>aP (lX.o (w.heap.size+1) J.symm))).trans (eF wr _ _ r.o)).trans (rX.o 1);obtain⟨w5,lW⟩:=aK (O.setCell (dA (w.heap.size+1) 1) (dJ B (c+1) C));have hap:=gK (eb:=w.heap.size+1) (f:=1) aR (HOWN.o.alloc _) aml ((dV wr _ _ r.o).trans nZ.o) hown' Y n;rw[rE.o,lW]at hap;have Z:Hid (y9 w w5 102 (dJ B (c+1) C) (a++[z])):=Q.o.app (z:=z) _ (by rw[R.o];exact hap);have e:=Z.o.bx;have p0:=e.c0;have p1:=e.c1;have p2:=e.c2;have p3:=e.c3;have pf:=e.cf;have s0:=e.r0;have s1:=e.r1;have s2:=e.r2;have s3:=e.r3;have sf:=e.rf;obtain⟨S,hwz,s,u,y,A,G⟩:=qh s0 s1 s2 s3 (.int .u8 (102:Int)) (dJ B (c+1) C) (dw (0:Int)) (eB);have ZB2:=dn (G _ _ e.ek ae);have CW:Hid (fA S (dJ B (c+1) C) (a++[z])):=Z.o.nums hwz;clear G e hap hown' Y f n)
          ·exact aq3
          ·refine dR (dM #[.agg #[.int .u8 102,dJ B (c+1) C,dw 0,eB],dw ((t:Int)+1),fu]) alS rfl ⟨?_,ZB2.o⟩;exact ap8
     ·exact apY
   ·by_cases hf2:x=[99]
    ·subst hf2;have HW0:Hid (wc (b.take (i+1))=wc (b.take i)+34):=by show _=_;rw[HW1.o];rfl
     have HST:Hid (y9 w ((w.alloc (.cells #[.int .u8 0,dE,dw 0,eB] 277)).alloc (.cells #[.int .u8 (99:Nat),dE,dw 0,eB] 277)) 99 (dE) []):=⟨qL.start w (.int .u8 0) (dE) (dw 0) (eB) (.int .u8 (99:Nat)) (dE) (dw 0) (eB) _ _,World.ownsRow_nil _ _ _ _⟩
     have L:Hid (∀(a:List Int) (t:Nat) (E:eu) (F:Nat) (W:World),fA W (.slice E a.length F) a->(∀q,(Value.slice E a.length F).ownBlock=some q->w.heap.size<=q)->i<t->t<=N->ib a+wc (b.take (i+1))<=wc (b.take t)->lV W w.heap.size b i (dF (dM #[.agg #[.int .u8 (99:Nat),.slice E a.length F,dw (0:Nat),eB],dw (t:Nat),fu]))):=λa t E F W hnu hbq h1 h2 h3=>by
      refine⟨⟨99,a,0,[]⟩,t,true,E,F,rfl,λ_=>⟨⟨by show 99<256;omega,bZ,λj=>by simp at j⟩,hnu,h1,by rw[K.o];exact h2,?_,hbq⟩⟩;have:=HW0.o;show(ib a+0+30)+_<=_;exact aR
     clear HW1;go_enter func248,ntmps248;go_wp2_with fail;clear d0
     go_loopw [1] (fun q wr=>∃(t:Nat) (vs:Value) (a:List Int),q=dw t/\i+1<=t/\t<=N/\y9 w wr 99 vs a/\ib a+wc (b.take (i+1))<=wc (b.take t)/\a.length<=t) (fun q _=>N-(intOf q).toNat)
     ·exact aq0
     case round=>
      obtain⟨t,vs,a,rfl,hit,Ky,P,hco,NM⟩:=hrel;have Q:=dn P;have RX:=dn hco;have d:=P.bx;obtain⟨g,h,rfl,hcap,hmax,_⟩:=eZ P.own;have k0:=d.c0;have k1:=d.c1;have k2:=d.c2;have k3:=d.c3;have kf:=d.cf;have q0:=d.r0;have q1:=d.r1;have q2:=d.r2;have q3:=d.r3;have qf:=d.rf;have hsz:=d.lt;have I5:=dn NM;obtain⟨c,hNM⟩:=aK a.length;have R:=dn hNM;rw[hNM]at hcap k1 NM;obtain⟨S,hwz,s,u,y,A,G⟩:=qh q0 q1 q2 q3 (.int .u8 (99:Int)) (.slice g c h) (dw (0:Int)) (eB);have ZB:=dn (G _ _ d.ek ae);have M:Hid (lV S w.heap.size b i (dF (dM #[.agg #[.int .u8 (99:Nat),.slice g c h,dw (0:Nat),eB],dw (t:Nat),dP]))):=by show lV _ _ _ _ _;rw[<-R.o];exact lV.no 99 a t g h
      clear G d P hco hNM
      by_cases hlt2:t<N
      ·obtain⟨x,l⟩:∃x,b[t]?=some x:=⟨_,aF (by rw[K.o];exact hlt2)⟩;have hxl:=HL.o x (List.mem_of_getElem? l);have HWT:=dn (AY l);obtain⟨g1,o1,f,d1⟩:=HG.o wr Q.o.bx.ek t x l;injection f with f
       injection f with f ho1;subst f ho1;clear l;go_upto_region 22 with fail;go_cut [13] (fun D wx=>(∃H:Bool,D=.bool H/\(H=true->0<x.length))/\wx=wr)
       case first=>
        exact apR
       case rest=>
        obtain⟨⟨H,rfl,hlb⟩,I⟩:=hcut;have hwc':=I.symm;subst hwc';have wR:=dn hlb;clear hlb I
        go_upto_if 109 with fail
        go_cut [12] (fun D wx=>(∃m:dN,D=dD m/\m.length<=x.length)/\wx=wr)
        case first=>
         cases H
         ·go_wp2;go_meet
          ·exact⟨⟨x,rfl,ae⟩,rfl⟩
         ·exact aqv
        case rest=>
         obtain⟨⟨m,rfl,aao⟩,I⟩:=hcut;have hwc':=I.symm;subst hwc';clear I d1;have HI2:=dn (λW=>HIS.o m W aR);have T:=dn (AO (l:=m));have U:Hid (dC.Is m=true->∃z:Int,m=dC.dec z):=λj=>dC.qD j;obtain⟨mb,hmb⟩:=aK (dC.Is m);rw[hmb]at HI2 T U;clear hmb;go_wp2_with fail;refine(HI2.o _).dX λw2 hw2=>?_;have yP:=hw2.symm;subst yP;clear hw2;cases mb
         ·exact apZ
         ·have hm0:0<m.length:=ao6;obtain⟨z,hz⟩:∃z:Int,m=dC.dec z:=ao5;have K4:=dn hz;have ahZ:(0:Int)<(m.length:Int):=aR;clear hz
          by_cases h45:(m[0]'hm0).toNat=45
          ·have t45:(((m[0]'hm0).toNat:Int)==45)=true:=bM;clear h45;exact apZ
          ·have t45:(((m[0]'hm0).toNat:Int)==45)=false:=ak aR;clear h45;have V:=Q.o.own;rw[R.o]at V;have HOWN:=dn V;have r:Hid (w.heap.size+1<wr.heap.size):=Q.o.bx.lt;have hnb:∀q,(Value.slice g c h).ownBlock=some q->w.heap.size+2<=q:=λq p=>(V.lt q p).1;have lX:=dn hnb;have nZ:=dn k1;have rX:=dn kf;have rE:Hid ((dD m:Value)=str z):=by show _=_;rw[K4.o];rfl
           have HLEN:Hid (ib (a++[z])+wc (b.take (i+1))<=wc (b.take (t+1))):=by
            exact aqf
           have X:Hid ((a++[z]).length=c+1):=by show _=_;rw[List.length_append,R.o];rfl
           clear V hnb s u y A hwz;cases H
           all_goals
            go_wp2_with (at_builtin;refine dU rfl (.tmp 127) (.tmp 129) 45 rfl (w.heap.size+2) 9 i0 (eB) 1 16 underlying45 hi0 hz0 hz1 hz2 rfl aY (.slice g c h) c (a.map str) rfl ami (dA wr.heap.size 0) 1 [dD m] rfl rfl bP bX bz aR aml ?_;intro B C O hown' Y f n;have y1:O.cell? (dA (w.heap.size+1) 1)=some (.slice g c h):=((eY Y (a:=dA (w.heap.size+1) 1) aml (λJ=>aP (lX.o (w.heap.size+1) J.symm))).trans (dV wr _ _ r.o)).trans nZ.o;have k:O.frozen? (dA (w.heap.size+1) 1)=false:=((fo Y (a:=dA (w.heap.size+1) 1) aml (λJ=>aP (lX.o (w.heap.size+1) J.symm))).trans (eF wr _ _ r.o)).trans (rX.o 1);obtain⟨w5,lW⟩:=aK (O.setCell (dA (w.heap.size+1) 1) (dJ B (c+1) C));have hap:=gK (eb:=w.heap.size+1) (f:=1) aR (HOWN.o.alloc _) aml ((dV wr _ _ r.o).trans nZ.o) hown' Y n;rw[rE.o,lW]at hap;have Z:Hid (y9 w w5 99 (dJ B (c+1) C) (a++[z])):=Q.o.app (z:=z) _ (by rw[R.o];exact hap);have e:=Z.o.bx;have p0:=e.c0;have p1:=e.c1;have p2:=e.c2;have p3:=e.c3;have pf:=e.cf;have s0:=e.r0;have s1:=e.r1;have s2:=e.r2;have s3:=e.r3;have sf:=e.rf;obtain⟨S,hwz,s,u,y,A,G⟩:=qh s0 s1 s2 s3 (.int .u8 (99:Int)) (dJ B (c+1) C) (dw (0:Int)) (eB);have ZB2:=dn (G _ _ e.ek ae);have CW:Hid (fA S (dJ B (c+1) C) (a++[z])):=Z.o.nums hwz;clear G e hap hown' Y f n)
           ·exact aq3
           ·refine dR (dM #[.agg #[.int .u8 99,dJ B (c+1) C,dw 0,eB],dw ((t:Int)+1),fu]) alS rfl ⟨?_,ZB2.o⟩;exact ap8
      ·exact apZ
    ·by_cases hg:x=[102,59]
     ·subst hg
      have L:Hid (∀W,lV W w.heap.size b i (dF (dM #[.agg #[.int .u8 (102:Nat),dE,dw (0:Nat),eB],dw (i+1:Nat),fu]))):=λW=>by
       refine⟨⟨102,[],0,[]⟩,i+1,true,none,0,rfl,λ_=>⟨⟨by show 102<256;omega,bZ,λj=>by simp at j⟩,⟨none,0,rfl,ae,bz,λbB hj=>by simp at hj⟩,aR,anR,?_,λq p=>aoO⟩⟩;have:=HW1.o;show(ib []+0+30)+_<=_;have h0:ib []=0:=rfl;exact aR
      have tK:=dn (qL.start w (.int .u8 102) (dE) (dw 0) (eB) (.int .u8 102) (dE) (dw 0) (eB) 277 277).ek;go_enter func248,ntmps248;go_wp2;exact dR (dM #[.agg #[.int .u8 102,dE,dw 0,eB],dw ((i:Int)+1),fu]) alV rfl ⟨L.o _,tK.o⟩
     ·by_cases n:x=[99,59]
      ·subst n
       have L:Hid (∀W,lV W w.heap.size b i (dF (dM #[.agg #[.int .u8 (99:Nat),dE,dw (0:Nat),eB],dw (i+1:Nat),fu]))):=λW=>by
        refine⟨⟨99,[],0,[]⟩,i+1,true,none,0,rfl,λ_=>⟨⟨by show 99<256;omega,bZ,λj=>by simp at j⟩,⟨none,0,rfl,ae,bz,λbB hj=>by simp at hj⟩,aR,anR,?_,λq p=>aoO⟩⟩;have:=HW1.o;show(ib []+0+30)+_<=_;have h0:ib []=0:=rfl;exact aR
       have tK:=dn (qL.start w (.int .u8 99) (dE) (dw 0) (eB) (.int .u8 99) (dE) (dw 0) (eB) 277 277).ek;go_enter func248,ntmps248;go_wp2;exact dR (dM #[.agg #[.int .u8 99,dE,dw 0,eB],dw ((i:Int)+1),fu]) alV rfl ⟨L.o _,tK.o⟩
      ·have n1:(x==[115])=false:=ak hs;have n2:(x==[102])=false:=ak hf;have n3:(x==[99])=false:=ak hf2;have n4:(x==[102,59])=false:=ak hg;have n5:(x==[99,59])=false:=ak n;clear hs hf hf2 hg n;exact apQ
 ·have hge:(N:Int)<=(i:Int):=aR;exact apQ
theorem X6:(prog.info? 277).map (λi=>(i.zero,i.size,i.bytes))=some (some (.agg #[.int .u8 0,dE,dw 0,eB]),4,56):=bR
theorem FH (w:World)(a:List Value)(b:TypeId)(n:Nat)(c:n=w.heap.size):∀j u,a[j]?=some u->(w.alloc (.cells a.toArray b)).cell? (((dA n 0):Addr).add j)=some u:=by
 subst c;intro j u h;have d:=heap_alloc_new w (.cells a.toArray b);have e:((dA w.heap.size 0):Addr).add j=(dA w.heap.size j):=aob;rw[e,cell_of_row _ w.heap.size j a.toArray b (0,0) d];exact anv
def Bc (w:World)(base:Nat)(c:List Value)(d:Nd):Prop:=∃a cp,c=[.int .u8 d.kind,.slice a d.mult.length cp,dw d.var,dD d.num]/\fA w (.slice a d.mult.length cp) d.mult/\∀q,(Value.slice a d.mult.length cp).ownBlock=some q->base<=q
theorem Bc.below {d:Nd}(h:Bc w n b d)(a:dB w W):Bc W n b d:=by
 obtain⟨c,e,f,g,i⟩:=h;exact⟨c,e,f,g.below a,i⟩
structure vM (w wr:World)(v:Value)(ds:List Nd):Prop where
 row:∃xs:List (List Value),wr.ownsRow w.heap.size 277 4 v ds.length xs.flatten/\iw (Bc wr w.heap.size) xs ds/\∀x∈xs,x.length=4
 nil:ds=[]->v=dE
 ek:dB w wr
theorem vM.below {wr:World}{b:List Nd}(h:vM w wr v b)(a:dB wr W):vM w W v b:=by
 obtain⟨c,d,e,f⟩:=h.row;exact⟨⟨c,ownsRow_below d a,e.imp (λi j g=>g.below a),f⟩,h.nil,h.ek.dW a⟩
theorem Bc.grown {a:List Nd}{f:List (List Value)}(t:w.ownsRow n 277 4 v a.length f.flatten)(k:iw (Bc w n) f a)(u:a=[]->v=dE)(x:w.grownBy W v.ownBlock){l:List Value}{m:Nd}(h:Bc w n l m):Bc W n l m:=by
 obtain⟨y,z,A,i,B⟩:=h;refine⟨y,z,A,?_,B⟩;obtain⟨C,D,E,F,G,o⟩:=i;refine⟨C,D,E,F,G,λp hi=>?_⟩;obtain⟨g,q,H⟩:=o p hi;refine⟨g,q,λI=>?_⟩;have r:=H I;rw[eY x (a:=dA g p) (aj r) (λJ=>?_)]
 ·exact r
 ·have c:some g=v.ownBlock:=J;have X:=k.len;obtain⟨K,s,L⟩:=o 0 aR;have j:=L aR;have M:g=K:=by rw[q]at s;injection s with h;injection h
  subst M;cases a with
  | nil=>
   rw[u rfl]at c;simp[Value.ownBlock]at c
  | cons d a=>
   cases k with
   | @cons Y _ f _ N _=>
    obtain⟨Z,cp2,i,_⟩:=N;subst i;rcases t.2 with ⟨_,O⟩|⟨P,afO,b,Q,_,R,q1,q2,q3,S⟩
    ·simp at O
    ·rw[Q]at c;have:g=P:=aoq;subst this;have T:w.cell? (dA g 0)=b[0]?:=cell_of_row w g 0 b 277 (0,0) R
     have U:b.toList[0]?=some (.int .u8 d.kind):=by
      have e:(b.toList.take ((d::a).length*4))[0]?=some (.int .u8 d.kind):=by rw[S];rfl
      rw[List.getElem?_take]at e;split at e
      ·exact e
      ·cases e
     rw[T]at j;have V:b[0]?=some (.int .u8 d.kind):=by simpa using U
     rw[V]at j;cases j
theorem vM.app {wr:World}{a:List Nd}{e:Nd}{X:Obj}{g cap:Nat}{d:List (List Value)}(c:wr.ownsRow w.heap.size 277 4 v a.length d.flatten/\iw (Bc wr w.heap.size) d a/\∀x∈d,x.length=4)(l:a=[]->v=dE)(h:dB w wr)(o:Bc wr w.heap.size b e)(p:b.length=4)
 (q:W.ownsRow w.heap.size 277 4 (dJ g (a.length+1) cap) (a.length+1) (d.flatten++b)) (i:(wr.alloc X).grownBy W v.ownBlock):vM w W (dJ g (a.length+1) cap) (a++[e]):=by
 obtain⟨m,r,s⟩:=c;have f:dB wr (wr.alloc X):=af.alloc ae X;have n:=ownsRow_below m f;have j:iw (Bc (wr.alloc X) w.heap.size) d a:=r.imp (λb e k=>k.below f);have t:w.heap.size<=(wr.alloc X).heap.size:=Nat.le_trans h.size f.size;refine⟨⟨d++[b],?_,?_,?_⟩,λu=>by simp at u,(h.alloc h.size X).grown i t (λy z=>(m.lt y z).1)⟩
 ·rw[List.length_append];simpa using q
 ·exact(j.imp (λb e k=>k.grown n j l i)).app (.cons ((o.below f).grown n j l i) .nil)
 ·intro x c;rcases List.mem_append.1 c with c|c
  ·exact s x c
  ·rw[List.mem_singleton.1 c];exact p
def FK (wr:World)(base:Nat)(v:Value)(ds:List Nd):Prop:=∃xs:List (List Value),wr.ownsRow base 277 4 v ds.length xs.flatten/\iw (Bc wr base) xs ds/\∀x∈xs,x.length=4
theorem FK.set {wr:World}{a:List Nd}(h:FK wr n v a){c:Addr}(e:c.block<n)(u:Value):FK (wr.setCell c u) n v a:=by
 obtain⟨f,g,i,j⟩:=h;refine⟨f,ownsRow_setCell_below g e u,i.imp (λq r k=>?_),j⟩;obtain⟨b,l,m,o,d⟩:=k;exact⟨b,l,m,o.set (λp=>aP (d _ p)) u,d⟩
theorem FK.nodes {wr:World}{c:List Nd}(h:FK wr n v c):nQ wr v c:=by
 obtain⟨s,i,d,j⟩:=h;have e:=d.len;refine gu.imp' (Row.fq i e.symm j).sl e λt k hi l m=>?_;have a:=l hi;obtain⟨o,p,q,f,_⟩:=d.get k hi m;rw[q]at a;obtain⟨u,w,b,r,g,x⟩:=id f;injection b with _ _ b
 subst b;unfold maxLen at g;exact⟨a 0 aR _ rfl,⟨o,p,a 1 aR _ rfl,r,g,f⟩,a 2 aR _ rfl,a 3 aR _ rfl⟩
def LW (w':World)(base:Nat)(ws:List (dN))(e:Ending):Prop:=∃(a:eu) (n c:Nat) (b:Bool),e=dF (dM #[.slice a n c,.bool b])/\(b=true->∃ds:List Nd,ds.length=n/\FK w' base (.slice a n c) ds/\(∀d∈ds,Ep d)/\gM ds<=wc ws/\ds.length<=ws.length)
theorem LW.no {d:List (dN)}(a:eu)(b c:Nat):LW w n d (dF (dM #[.slice a b c,dP])):=⟨a,b,c,false,rfl,aW⟩
theorem J5 (R:eu)(D N:Nat)(t:List (dN))(w:World)(hws:IG w R t)(T:t.length=N)(hc:N<=D/\D<=2 ^ 63-1)(hn:N<=500000)(hl:∀bC∈t,bC.length<=1000000000) :
 dH 199 #[.slice R N D] w λs E=>LW E w.heap.size t s/\dB w E:=by
 obtain⟨U,V,X,Y,Z⟩:=info_parts X6;have aha:Hid (∀o,o<=500000->∀W,dB w W->dH 248 #[.slice R N D,dw (o:Nat)] W λs E=>lV E W.heap.size t o s/\dB W E):=λo hi W hW=>ZN R D N o t W (hws.below hW) T hc aR aR hl;have HN:=dn T;have uG:Hid (vM w w (dE) []):=⟨⟨[],World.ownsRow_nil _ _ _ _,.nil,aW⟩,λ_=>rfl,af⟩;clear hws T hl;go_enter func199,ntmps199;go_wp2_with fail
 go_loopw [4,5,6] (fun bB bg bn wr=>∃(p:eu) (n m u o:Nat) (b:List Nd),bB=.slice p n m/\n=b.length/\bg=dw u/\bn=dw o/\o<=N/\u<=o+1/\vM w wr bB b/\(∀d∈b,Ep d)/\gM b<=wc (t.take o)/\b.length<=o/\n<=m/\m<=2 ^ 63-1) (fun _ _ bn _=>N+1-(intOf bn).toNat)
 ·exact⟨none,0,0,1,0,[],rfl,rfl,rfl,rfl,aR,aR,uG.o,aW,by show 0<=_;omega,aW,aR,aR⟩
 case round=>
  obtain⟨p,n,m,u,o,b,rfl,hnd,rfl,rfl,hi,hwn,F,hok,hco,hdl,hc1',hc2'⟩:=hrel;have HST:=dn F;have oP:=dn hok;have RX:=dn hco;have v:=dn hnd;have YH:=dn hdl;have hn5:n<=500000:=aR;clear hok hco
  by_cases hw0:u=0
  ·have t0:¬((0:Int)<(u:Int)):=aR;have G:Hid (∀j:Bool,LW wr w.heap.size t (dF (dM #[.slice p n m,.bool j]))):=λj=>⟨p,n,m,j,rfl,λ_=>⟨b,v.o.symm,HST.o.row,oP.o,Nat.le_trans RX.o (agJ _ _),ame⟩⟩;have HB:=dn F.ek;clear F hnd hdl;go_wp2;go_ret2;exact⟨G.o _,HB.o⟩
  ·have t0:(0:Int)<(u:Int):=aR;have HC:=dn (aha.o o aR wr F.ek);clear F hnd hdl;go_wp2_with fail;refine HC.o.mono ?_;rintro s c ⟨⟨d,z,j,k,l,rfl,hd⟩,hb2⟩;have HD:=dn hd;have B:=dn (HST.o.below hb2);clear hd hb2;cases j
   ·have HB:=dn (B.o.ek.alloc B.o.ek.size (.cells #[.int .u8 d.kind,.slice k d.mult.length l,dw d.var,dD d.num] 277));go_wp2;go_ret2;exact⟨.no _ _ _,HB.o⟩
   ·obtain⟨hdo,hdn,hj1,hj2,Bp,hdq⟩:=HD.o rfl;have HDO:=dn hdo;have HDC:=dn Bp;have hjN:z<=N:=by rw[<-HN.o];exact hj2
    have H:Hid (vM w (c.alloc (.cells #[.int .u8 d.kind,.slice k d.mult.length l,dw d.var,dD d.num] 277)) (.slice p n m) b):=B.o.below ai;have abL:Hid (Bc (c.alloc (.cells #[.int .u8 d.kind,.slice k d.mult.length l,dw d.var,dD d.num] 277)) w.heap.size [.int .u8 d.kind,.slice k d.mult.length l,dw d.var,dD d.num] d):=⟨k,l,rfl,hdn.below ai,λbg hq=>Nat.le_trans HST.o.ek.size (hdq bg hq)⟩;obtain⟨I,S,hx2,hx3⟩:=H.o.row;rw[<-v.o]at S;have J:=dn S;have HX:=dn (show _/\_/\_ from⟨(by rw[<-v.o];exact S:(c.alloc (.cells #[.int .u8 d.kind,.slice k d.mult.length l,dw d.var,dD d.num] 277)).ownsRow w.heap.size 277 4 (.slice p n m) b.length I.flatten),hx2,hx3⟩);have hs2:=B.o.ek.size
    have aiO:Hid (∀j,(Value.slice p n m).ownBlock=some j->j<c.heap.size):=λj hb=>by
     obtain⟨ys,hy1,_⟩:=B.o.row;exact(hy1.lt j hb).2
    have abV:Hid (gM (b++[d])<=wc (t.take z)):=by
     show _<=_;have e1:gM (b++[d])=gM b+G7 d:=by unfold gM;rw[List.map_append,List.sum_append];simp
     have e2:=RX.o;have e3:=HDC.o;exact aR
    have CV:Hid (∀bq∈b++[d],Ep bq):=λbq K=>by
     rcases List.mem_append.1 K with K|K
     ·exact oP.o bq K
     ·rw[List.mem_singleton.1 K];exact HDO.o
    have HKK:=dn hdo.1;obtain⟨a,x,f,g⟩:=d;simp only at H abL J HX HKK;clear hdo hdn Bp hdq S hx2 hx3 hj2 B;obtain⟨y,hNM⟩:=aK x.length;rw[hNM]at H abL J HX ⊢;clear hNM
    have nC:Hid (∀L∈[Value.int .u8 (a:Int),.slice k y l,dw (f:Int),dD g],L.oneCell'=true):=by
     intro L hu;simp only[List.mem_cons,List.not_mem_nil,or_false]at hu;rcases hu with rfl|rfl|rfl|rfl<;>rfl
    have nU:Hid (∀(W:World) (n:Nat),n=W.heap.size->∀z L,[Value.int .u8 (a:Int),.slice k y l,dw (f:Int),dD g][z]?=some L->(W.alloc (.cells #[.int .u8 (a:Int),.slice k y l,dw (f:Int),dD g] 277)).cell? (((dA n 0):Addr).add z)=some L):=λW n hn=>FH W [.int .u8 (a:Int),.slice k y l,dw (f:Int),dD g] _ n hn;have Yj:Hid (∀j,(Value.slice p n m).ownBlock=some j->j<c.heap.size):=λj hb=>aiO.o j hb
    have G:Hid (∀h e (i:World) (bA:Obj),i.ownsRow w.heap.size 277 4 (dJ h (n+1) e) (n+1) (I.flatten++[.int .u8 (a:Int),.slice k y l,dw (f:Int),dD g])->((c.alloc (.cells #[.int .u8 (a:Int),.slice k y l,dw (f:Int),dD g] 277)).alloc bA).grownBy i (Value.slice p n m).ownBlock->vM w i (dJ h (n+1) e) (b++[⟨a,x,f,g⟩])):=λh e i bA h1 h2=>by
     have h3:=vM.app (X:=bA) (g:=h) (cap:=e) HX.o H.o.nil H.o.ek abL.o rfl (by rw[<-v.o];exact h1) h2;rw[<-v.o]at h3;exact h3
    have HCAP:Hid (∀h e (i:World) (ys:List Value),i.ownsRow w.heap.size 277 4 (dJ h (n+1) e) (n+1) ys->n+1<=e/\e<=2 ^ 63-1):=λh e i ys bF=>by
     rcases bF.2 with ⟨M,_⟩|⟨bG,cap,cur,M,_,_,q1,q2,_⟩
     ·cases M
     ·injection M with _ _ M;subst M;unfold maxLen at q2;exact⟨q1,q2⟩
    have C:Hid ((b++[(⟨a,x,f,g⟩:Nd)]).length=n+1):=by show _=_;rw[List.length_append,<-v.o];rfl
    by_cases hf:a=102
    ·have tf:((a:Int)==102)=true:=bM;have ts:((a:Int)==115)=false:=ak aR;clear hf;go_wp2_with (at_builtin;refine dU rfl (.tmp 21) (.tmp 23) 162 rfl w.heap.size 277 U (.agg #[.int .u8 0,dE,dw 0,eB]) 4 56 underlying162 V X Y Z rfl aY (.slice p n m) n I.flatten rfl (by exact J.o.alloc _) (dA (c.heap.size+1) 0) 1 [.int .u8 (a:Int),.slice k y l,dw (f:Int),dD g] rfl rfl (by exact nU.o _ _ aW) nC.o bz aR aX ?_;intro h e i q r O P;have b0:i.cell? (dA c.heap.size 0)=some (.int .u8 (a:Int)):=(eY r (a:=dA c.heap.size 0) aX (λs=>amT)).trans aW;have Q:Hid (vM w i (dJ h (n+1) e) (b++[⟨a,x,f,g⟩])):=G.o _ _ _ _ q r;have A:=HCAP.o _ _ _ _ q;clear q r O P);go_roundw
     ·exact⟨some (dA h 0),n+1,e,u-1,z,b++[⟨a,x,f,g⟩],rfl,C.o.symm,bL,rfl,hjN,aR,Q.o,CV.o,abV.o,anW,A.1,A.2⟩
     ·exact aph
    ·have tf:((a:Int)==102)=false:=ak aR;clear hf
     by_cases hs:a=115
     ·have ts:((a:Int)==115)=true:=bM;clear hs;go_wp2_with (at_builtin;refine dU rfl (.tmp 21) (.tmp 23) 162 rfl w.heap.size 277 U (.agg #[.int .u8 0,dE,dw 0,eB]) 4 56 underlying162 V X Y Z rfl aY (.slice p n m) n I.flatten rfl (by exact J.o.alloc _) (dA (c.heap.size+1) 0) 1 [.int .u8 (a:Int),.slice k y l,dw (f:Int),dD g] rfl rfl (by exact nU.o _ _ aW) nC.o bz aR aX ?_;intro h e i q r O P;have b0:i.cell? (dA c.heap.size 0)=some (.int .u8 (a:Int)):=(eY r (a:=dA c.heap.size 0) aX (λs=>amT)).trans aW;have Q:Hid (vM w i (dJ h (n+1) e) (b++[⟨a,x,f,g⟩])):=G.o _ _ _ _ q r;have A:=HCAP.o _ _ _ _ q;clear q r O P);go_roundw
      ·exact⟨some (dA h 0),n+1,e,u+1,z,b++[⟨a,x,f,g⟩],rfl,C.o.symm,bL,rfl,hjN,aR,Q.o,CV.o,abV.o,anW,A.1,A.2⟩
      ·exact aph
     ·have ts:((a:Int)==115)=false:=ak aR;clear hs;go_wp2_with (at_builtin;refine dU rfl (.tmp 21) (.tmp 23) 162 rfl w.heap.size 277 U (.agg #[.int .u8 0,dE,dw 0,eB]) 4 56 underlying162 V X Y Z rfl aY (.slice p n m) n I.flatten rfl (by exact J.o.alloc _) (dA (c.heap.size+1) 0) 1 [.int .u8 (a:Int),.slice k y l,dw (f:Int),dD g] rfl rfl (by exact nU.o _ _ aW) nC.o bz aR aX ?_;intro h e i q r O P;have b0:i.cell? (dA c.heap.size 0)=some (.int .u8 (a:Int)):=(eY r (a:=dA c.heap.size 0) aX (λs=>amT)).trans aW;have Q:Hid (vM w i (dJ h (n+1) e) (b++[⟨a,x,f,g⟩])):=G.o _ _ _ _ q r;have A:=HCAP.o _ _ _ _ q;clear q r O P);go_roundw
      ·exact⟨some (dA h 0),n+1,e,u,z,b++[⟨a,x,f,g⟩],rfl,C.o.symm,bL,rfl,hjN,aR,Q.o,CV.o,abV.o,anW,A.1,A.2⟩
      ·exact aph
theorem fe {u0 u1 u2 u3 u4:Value}(m:w.cell? (dA n 0)=some u0)(o:w.cell? (dA n 1)=some u1)(p:w.cell? (dA n 2)=some u2)(q:w.cell? (dA n 3)=some u3)(r:w.cell? (dA n 4)=some u4)(h i j k l:Value) :
 ∃b,((((w.setCell (dA n 0) h).setCell (dA n 1) i).setCell (dA n 2) j).setCell (dA n 3) k).setCell (dA n 4) l=b/\b.cell? (dA n 0)=some h/\b.cell? (dA n 1)=some i/\b.cell? (dA n 2)=some j/\b.cell? (dA n 3)=some k/\b.cell? (dA n 4)=some l/\(∀f K,Below K f w->K<=n->Below K f b)/\(∀c,c≠n->b.heap[c]?=w.heap[c]?):=by
 have a:∀(g c:Nat),g≠c->((dA n g):Addr)≠(dA n c):=λg c s t=>s (by injection t);refine⟨_,rfl,?_,?_,?_,?_,?_,λf K d e=>((((d.setCell e _).setCell e _).setCell e _).setCell e _).setCell e _,λc d=>?_⟩
 ·rw[ax (a 4 0 aR),ax (a 3 0 aR),ax (a 2 0 aR),ax (a 1 0 aR)];exact aC m
 ·rw[ax (a 4 1 aR),ax (a 3 1 aR),ax (a 2 1 aR)];exact aC ((ax (a 0 1 aR)).trans o)
 ·rw[ax (a 4 2 aR),ax (a 3 2 aR)];exact aC ((ax (a 1 2 aR)).trans ((ax (a 0 2 aR)).trans p))
 ·rw[ax (a 4 3 aR)];exact aC ((ax (a 2 3 aR)).trans ((ax (a 1 3 aR)).trans ((ax (a 0 3 aR)).trans q)))
 ·exact aC ((ax (a 3 4 aR)).trans ((ax (a 2 4 aR)).trans ((ax (a 1 4 aR)).trans ((ax (a 0 4 aR)).trans r))))
 ·rw[aD d,aD d,aD d,aD d,aD d]
structure AJ (w wx:World)(v0 v1 v2 v3 v4:Value):Prop where
 r0:wx.cell? (dA w.heap.size 0)=some (.int .u8 0)
 r1:wx.cell? (dA w.heap.size 1)=some (dw 0)
 r2:wx.cell? (dA w.heap.size 2)=some (dw 0)
 r3:wx.cell? (dA w.heap.size 3)=some (dE)
 r4:wx.cell? (dA w.heap.size 4)=some (dE)
 rf:∀o,wx.frozen? (dA w.heap.size o)=false
 c0:wx.cell? (dA (w.heap.size+1) 0)=some v0
 c1:wx.cell? (dA (w.heap.size+1) 1)=some v1
 c2:wx.cell? (dA (w.heap.size+1) 2)=some v2
 c3:wx.cell? (dA (w.heap.size+1) 3)=some v3
 c4:wx.cell? (dA (w.heap.size+1) 4)=some v4
 cf:∀o,wx.frozen? (dA (w.heap.size+1) o)=false
 ek:dB w wx
 lt:w.heap.size+1<wx.heap.size
theorem AJ.below {b c:Value}(h:AJ w W v V y b c)(a:dB W u):AJ w u v V y b c:=by
 have f:=h.lt;have t:∀{p:Addr} {d:Value},W.cell? p=some d->u.cell? p=some d:=λe=>(a.cell (aj e)).trans e;exact⟨t h.r0,t h.r1,t h.r2,t h.r3,t h.r4,λo=>(a.gq (h.rf o) aZ),t h.c0,t h.c1,t h.c2,t h.c3,t h.c4,λo=>(a.gq (h.cf o) dh),h.ek.dW a,Nat.lt_of_lt_of_le f a.size⟩
theorem AJ.start (w:World)(a b:TypeId):AJ w ((w.alloc (.cells #[.int .u8 0,dw 0,dw 0,dE,dE] a)).alloc (.cells #[.int .u8 0,dw 0,dw 0,dE,dE] b)) (.int .u8 0) (dw 0) (dw 0) (dE) (dE):=
 ⟨aW,aW,aW,aW,aW,λo=>aW,aW,aW,aW,aW,aW,λo=>aW,ai.alloc aW _,aW⟩
theorem AJ.set {d g:Value}(h:AJ w W v V y d g)(f:Nat)(u:Value) :
 AJ w (W.setCell (dA (w.heap.size+1) f) u) (if f=0 then u else v) (if f=1 then u else V) (if f=2 then u else y) (if f=3 then u else d) (if f=4 then u else g):=by
 have o:∀{q:Nat} {a:Value},W.cell? (dA w.heap.size q)=some a->(W.setCell (dA (w.heap.size+1) f) u).cell? (dA w.heap.size q)=some a:=λb=>(ax (λe=>by injection e with e _;omega)).trans b
 have s:∀{q:Nat} {a:Value},W.cell? (dA (w.heap.size+1) q)=some a->(W.setCell (dA (w.heap.size+1) f) u).cell? (dA (w.heap.size+1) q)=some (if f=q then u else a):=λ{q a} b=>by
  exact aqP
 exact⟨o h.r0,o h.r1,o h.r2,o h.r3,o h.r4,λq=>by rw[World.frozen?_setCell];exact h.rf q,s h.c0,s h.c1,s h.c2,s h.c3,s h.c4,λq=>by rw[World.frozen?_setCell];exact h.cf q,h.ek.setCell aog _,amC⟩
structure qG (w w1 wr:World)(v0 v1 v2:Value)(vs:Value)(ls:List Lit):Prop where
 bx:AJ w wr v0 v1 v2 vs (dE)
 own:wr.ownsRow w1.heap.size 168 4 vs ls.length (ls.map Lit.cells).flatten
 keep:∀b,b<w1.heap.size->b≠w.heap.size+1->wr.heap[b]?=w1.heap[b]?
 sz:w1.heap.size<=wr.heap.size
 lo:w.heap.size+1<w1.heap.size
theorem qG.below {wr:World}{b:Value}(h:qG w W wr v V y b J)(a:dB wr u):qG w W u v V y b J:=
 ⟨h.bx.below a,ownsRow_below h.own a,λc d e=>(a.block c (Nat.lt_of_lt_of_le d h.sz)).trans (h.keep c d e),Nat.le_trans h.sz a.size,h.lo⟩
theorem qG.app {wr:World}{e f:Value}{g:Lit}(h:qG w W wr v V y e J)(X:Obj)(a:mo (wr.alloc X) u (w.heap.size+1) 3 W.heap.size 168 4 e f (J.length+1) ((J.map Lit.cells).flatten++g.cells)):qG w W u v V y f (J++[g]):=by
 have l:dB wr (wr.alloc X):=af.alloc ae X;have c:=h.below l;have b:=c.bx;have m:=b.lt;have n:=h.lo;have t:∀{q:Nat} {i:Value},(wr.alloc X).cell? (dA w.heap.size q)=some i->u.cell? (dA w.heap.size q)=some i:=λp=>(a.below.dL p aZ);refine⟨⟨t b.r0,t b.r1,t b.r2,t b.r3,t b.r4,λo=>(a.below.gq (b.rf o) aZ),(a.cells 0 aR).trans b.c0,(a.cells 1 aR).trans b.c1,(a.cells 2 aR).trans b.c2,a.cell,(a.cells 4 aR).trans b.c4,λo=>(a.frozen o).trans (b.cf o),b.ek.trans (a.below.mono aR),Nat.lt_of_lt_of_le m a.size⟩,?_,λd j k=>?_,Nat.le_trans c.sz a.size,n⟩
 ·rw[List.length_append,wJ];exact a.own
 ·rw[a.block d (Nat.lt_of_lt_of_le j c.sz) k (λr=>aP ((h.own.lt d r.symm).1))];exact c.keep d j k
def iX (w':World)(n:Nat)(e:Ending):Prop:=∃(k a b:Nat) (aL:eu) (nL cL:Nat) (aT:eu) (nT cT:Nat) (ok:Bool),e=dF (dM #[.agg #[.int .u8 k,dw a,dw b,.slice aL nL cL,.slice aT nT cT],.bool ok])/\
 (ok=true->k<256/\a<1000/\b<1000/\(∃ls:List Lit,ls.length=nL/\fK w' (.slice aL nL cL) ls/\(∀l∈ls,l.small)/\ls.length<=n+1)/\(k=65->∃ds:List Nd,ds.length=nT/\nQ w' (.slice aT nT cT) ds/\(∀d∈ds,Ep d)/\gM ds<=34*(n+1)/\ds.length<=n+1))
theorem iX.no (k a b:Nat)(c:eu)(d e:Nat)(f:eu)(g h:Nat):iX w n (dF (dM #[.agg #[.int .u8 k,dw a,dw b,.slice c d e,.slice f g h],dP])):=⟨k,a,b,c,d,e,f,g,h,false,rfl,aW⟩
theorem aea (a:List (dN)):wc a=(a.map List.length).sum+33*a.length:=by
 unfold wc
 induction a with
 | nil=>rfl
 | cons x a b=>simp only[List.map_cons,List.sum_cons,List.length_cons,b];omega
theorem acW (a:List (dN))(i:Nat):wc (a.drop i)<=wc a:=by
 exact ap4
theorem qp (h:w.ownsRow n 168 4 v J.length (J.map Lit.cells).flatten)(c:∀b,n<=b->W.heap[b]?=w.heap[b]?):fK W v J:=by
 have d:W.ownsRow n 168 4 v J.length (J.map Lit.cells).flatten:=by
  refine⟨h.1,?_⟩;rcases h.2 with e|⟨g,f,i,j,a,k,r⟩
  ·exact .inl e
  ·exact .inr ⟨g,f,i,j,a,by rw[c g a];exact k,r⟩
 exact fK.wH (Row.fq d aW am6)
theorem oG (h:w.ownsRow n e m (.slice a k i) k b):k<=i/\i<=2 ^ 63-1:=by
 rcases h.2 with ⟨c,g⟩|⟨j,l,o,c,_,_,f,d,_⟩
 ·injection c with _ _ c;subst c;exact⟨aR,aR⟩
 ·injection c with _ _ c;subst c;unfold maxLen at d;exact⟨f,d⟩
theorem VP (bq:dN)(w:World)(hx:bq.length<=200000) :
 dH 145 #[dD bq] w λD w'=>iX w' bq.length D/\dB w w':=by
 have hR:=gU;obtain⟨i0,hi0,hz0,hz1,hz2⟩:=info_parts CP;have HB0:=dn (AJ.start w 164 164);have AR:=dn (λX=>JL bq 32 X aR);go_enter func145,ntmps145;go_wp2_with fail;refine(AR.o _).mono ?_;rintro D r ⟨⟨bF,U,rfl,T,hpos,hsum⟩,hb1⟩;obtain⟨av,cv,hv,q1,q2,q3⟩:=eZ T;subst hv;have vP:=dn (HB0.o.below hb1)
 have uQ:Hid (∀y∈U,y.length<=200000):=λy M=>by
  have x:y.length<=(U.map List.length).sum:=xM (List.mem_map_of_mem M);have V:0<U.length:=hpos;exact aR
 have HWC:Hid (wc U<=34*(bq.length+1)):=by show _<=_;rw[aea];omega
 have uJ:Hid (U.length<=bq.length+1):=by show _<=_;omega
 obtain⟨N,hN⟩:=aK U.length
 obtain⟨G,rfl⟩:∃G,av=some (dA G 0):=by
  obtain⟨G,x,_⟩:=q3 0 hpos;exact⟨G,x⟩
 have wS:Hid (w.heap.size+2<=G/\G<r.heap.size):=by
  have x:=T.lt G rfl;have V:=x.1;simp only[World.size_alloc]at V;exact⟨aR,x.2⟩
 have wm:Hid (∀(X:World),X.heap[G]?=r.heap[G]?->∀bA y,U[bA]?=some y->X.cell? (dA G bA)=some (dD y)):=λX hW bA y M=>by
  obtain⟨hj,hy'⟩:=aG M;obtain⟨g',x,V,_⟩:=q3 bA hj;injection x with x
  injection x with x;subst x;rw[World.cell?_of_block (w:=r) (a:=dA G bA) hW,V];simp[M,eO]
 have HN:=dn hN;rw[hN]at q1 hpos uJ ⊢;have hN5:N<=200001:=aP uJ.o;have GA:Hid (w.heap.size+1<r.heap.size):=vP.o.lt;obtain⟨y0,hy0⟩:∃y,U[0]?=some y:=⟨_,aF (by rw[HN.o];exact hpos)⟩;have d0:=wm.o r rfl 0 y0 hy0;have hpos':(0:Int)<(N:Int):=aR;clear T hsum q3 hb1 hN hy0;obtain⟨br0,br1,br2,br3,br4,brf,bc0,bc1,bc2,bc3,bc4,bcf,_,_⟩:=id vP.o
 by_cases hy1:y0.length=1
 ·obtain⟨a,rfl⟩:∃a,y0=[a]:=by
   match y0,hy1 with
   | [bD],_=>exact⟨bD,rfl⟩
  clear hy1;have hk0:=a.toNat_lt;obtain⟨w2,hw2⟩:=aK (r.setCell (dA (w.heap.size+1) 0) (.int .u8 (a.toNat:Int)));have Rt:=vP.o.set 0 (.int .u8 (a.toNat:Int));rw[hw2]at Rt;simp only[if_pos,Nat.reduceEqDiff,ite_false]at Rt;have v:=dn Rt;have FW:Hid (∀q,q≠w.heap.size+1->w2.heap[q]?=r.heap[q]?):=λq H=>by rw[<-hw2];exact aD H
  have HZ2:Hid (w2.heap.size=r.heap.size):=by show _=_;rw[<-hw2];simp[World.setCell]
  have HS2:Hid (qG w r w2 (.int .u8 (a.toNat:Int)) (dw 0) (dw 0) (dE) []):=⟨Rt,World.ownsRow_nil _ _ _ _,λq x V=>FW.o q V,by rw[HZ2.o];exact ae,GA.o⟩;obtain⟨er0,er1,er2,er3,er4,erf,ec0,ec1,ec2,ec3,ec4,ecf,_,_⟩:=id Rt;have HD1:=dn (λbA y (B:U[bA]?=some y)=>wm.o w2 (FW.o G (aP wS.o.1)) bA y B);clear Rt
  by_cases Y:a.toNat=70
  ·have t70:((a.toNat:Int)==70)=true:=bM;have t68:((a.toNat:Int)==68)=false:=ak aR;have t81:((a.toNat:Int)==81)=false:=ak aR;have t85:((a.toNat:Int)==85)=false:=ak aR;have t65:((a.toNat:Int)==65)=false:=ak aR;have t82:((a.toNat:Int)==82)=false:=ak aR;have CX:Hid (a.toNat≠65):=aov;have Vx:((a.toNat:Int) !=65)=true:=bJ;clear Y
   by_cases hN2:N<2
   ·have VI:(N:Int)<2:=aR;exact apl
   ·have VI:¬((N:Int)<2):=aR;obtain⟨y1,hy1⟩:∃y,U[1]?=some y:=⟨_,aF ame⟩;have d1:=HD1.o 1 y1 hy1;have Pf:=dn (qd y1 w2 (aP (uQ.o y1 (List.mem_of_getElem? hy1))));have aaG:(1:Int)<(N:Int):=aR;clear hy1;go_wp2_with fail;refine Pf.o.mono ?_;rintro D J ⟨⟨n,ab,ha,rfl⟩,hw3⟩;have Gj:=hw3.symm;subst Gj;have HA:=dn ha;clear ha hw3 d1;cases ab
    ·exact apl
    ·obtain⟨o,hw4⟩:=aK (w2.setCell (dA (w.heap.size+1) 1) (dw (n:Nat)));have K:=v.o.set 1 (dw (n:Nat));rw[hw4]at K;simp only[if_pos,Nat.reduceEqDiff,ite_false]at K;have O:=dn K;have Ev:Hid (∀q,q≠w.heap.size+1->o.heap[q]?=r.heap[q]?):=λq H=>aot;have RD:Hid (o.heap.size=r.heap.size):=amX;have RI:Hid (qG w r o (.int .u8 (a.toNat:Int)) (dw (n:Nat)) (dw 0) (dE) []):=⟨K,World.ownsRow_nil _ _ _ _,λq x V=>Ev.o q V,by rw[RD.o];exact ae,GA.o⟩;obtain⟨fr0,fr1,fr2,fr3,fr4,frf,fc0,fc1,fc2,fc3,fc4,fcf,_,_⟩:=id K;clear K;have HS:=dn RI.o;go_wp2_with fail
     go_loopw [6] (fun q wr=>∃(t:Nat) (d:eu) (b c:Nat) (p:List Lit),q=dw t/\2<=t/\t<=N/\b=p.length/\qG w r wr (.int .u8 (a.toNat:Int)) (dw (n:Nat)) (dw (0:Int)) (.slice d b c) p/\(∀Z∈p,Z.small)/\b<=t/\b<=c/\c<=2 ^ 63-1) (fun q _=>N-(intOf q).toNat)
     ·exact⟨2,none,0,0,[],rfl,aR,aR,rfl,HS.o,aW,aR,aR,aR⟩
     case round=>
      obtain⟨t,d,b,c,p,rfl,hit,Ky,wL,P,hsm,hlt,Gt,Gs⟩:=hrel;have s:=dn P;have oO:=dn hsm;have E:=dn wL;have bx:=P.bx;obtain⟨zO,zN,zM,zL,Bi,Bh,Bn,xA,yN,xz,Bl,Bj,_,_⟩:=id bx;have Dr:Hid (wr.heap[G]?=r.heap[G]?):=P.keep G wS.o.2 (aP wS.o.1);have f:=dn bx;clear P hsm wL bx
      by_cases htl:t<N
      ·obtain⟨y,M⟩:∃y,U[t]?=some y:=⟨_,aF amR⟩;have d1:=wm.o wr Dr.o t y M;have hyl:=uQ.o y (List.mem_of_getElem? M);clear M
       by_cases Q:y=[124]
       ·have tb:(y==[124])=true:=aoR;clear Q;have tN:((t:Int)==(N:Int))=false:=ak aR
        by_cases hn0:b=0
        ·have QZ:¬(0<b):=aR;clear hn0;exact apq
        ·have QZ:0<b:=aR;clear hn0;exact apq
       ·exact apj
      ·have DX:t=N:=aR;have tN:((t:Int)==(N:Int))=true:=bM;have htn:¬((t:Int)<(N:Int)):=aR;clear DX
       by_cases hn0:b=0
       ·have QZ:¬(0<b):=aR;clear hn0;exact apz
       ·have QZ:0<b:=aR;clear hn0;exact apq
  have ahB:=Y;clear Y
  by_cases Y:a.toNat=68
  ·have t70:((a.toNat:Int)==70)=false:=ak aR;have t68:((a.toNat:Int)==68)=true:=bM;have t81:((a.toNat:Int)==81)=false:=ak aR;have t85:((a.toNat:Int)==85)=false:=ak aR;have t65:((a.toNat:Int)==65)=false:=ak aR;have t82:((a.toNat:Int)==82)=false:=ak aR;have CX:Hid (a.toNat≠65):=aov;have Vx:((a.toNat:Int) !=65)=true:=bJ;clear Y
   by_cases hN2:N<2
   ·have VI:(N:Int)<2:=aR;exact apl
   ·have VI:¬((N:Int)<2):=aR;obtain⟨y1,hy1⟩:∃y,U[1]?=some y:=⟨_,aF ame⟩;have d1:=HD1.o 1 y1 hy1;have Pf:=dn (qd y1 w2 (aP (uQ.o y1 (List.mem_of_getElem? hy1))));have aaG:(1:Int)<(N:Int):=aR;clear hy1;go_wp2_with fail;refine Pf.o.mono ?_;rintro D J ⟨⟨n,ab,ha,rfl⟩,hw3⟩;have Gj:=hw3.symm;subst Gj;have HA:=dn ha;clear ha hw3 d1;cases ab
    ·exact apl
    ·obtain⟨o,hw4⟩:=aK (w2.setCell (dA (w.heap.size+1) 1) (dw (n:Nat)));have K:=v.o.set 1 (dw (n:Nat));rw[hw4]at K;simp only[if_pos,Nat.reduceEqDiff,ite_false]at K;have O:=dn K;have Ev:Hid (∀q,q≠w.heap.size+1->o.heap[q]?=r.heap[q]?):=λq H=>aot;have RD:Hid (o.heap.size=r.heap.size):=amX;have RI:Hid (qG w r o (.int .u8 (a.toNat:Int)) (dw (n:Nat)) (dw 0) (dE) []):=⟨K,World.ownsRow_nil _ _ _ _,λq x V=>Ev.o q V,by rw[RD.o];exact ae,GA.o⟩;obtain⟨fr0,fr1,fr2,fr3,fr4,frf,fc0,fc1,fc2,fc3,fc4,fcf,_,_⟩:=id K;clear K;have HS:=dn RI.o;go_wp2_with fail
     go_loopw [6] (fun q wr=>∃(t:Nat) (d:eu) (b c:Nat) (p:List Lit),q=dw t/\2<=t/\t<=N/\b=p.length/\qG w r wr (.int .u8 (a.toNat:Int)) (dw (n:Nat)) (dw (0:Int)) (.slice d b c) p/\(∀Z∈p,Z.small)/\b<=t/\b<=c/\c<=2 ^ 63-1) (fun q _=>N-(intOf q).toNat)
     ·exact⟨2,none,0,0,[],rfl,aR,aR,rfl,HS.o,aW,aR,aR,aR⟩
     case round=>
      obtain⟨t,d,b,c,p,rfl,hit,Ky,wL,P,hsm,hlt,Gt,Gs⟩:=hrel;have s:=dn P;have oO:=dn hsm;have E:=dn wL;have bx:=P.bx;obtain⟨zO,zN,zM,zL,Bi,Bh,Bn,xA,yN,xz,Bl,Bj,_,_⟩:=id bx;have Dr:Hid (wr.heap[G]?=r.heap[G]?):=P.keep G wS.o.2 (aP wS.o.1);have f:=dn bx;clear P hsm wL bx
      by_cases htl:t<N
      ·obtain⟨y,M⟩:∃y,U[t]?=some y:=⟨_,aF amR⟩;have d1:=wm.o wr Dr.o t y M;have hyl:=uQ.o y (List.mem_of_getElem? M);clear M
       by_cases Q:y=[124]
       ·have tb:(y==[124])=true:=aoR;clear Q;have tN:((t:Int)==(N:Int))=false:=ak aR;exact apq
       ·exact apj
      ·have DX:t=N:=aR;have tN:((t:Int)==(N:Int))=true:=bM;have htn:¬((t:Int)<(N:Int)):=aR;clear DX;exact apz
  have ahC:=Y;clear Y
  by_cases Y:a.toNat=81
  ·have t70:((a.toNat:Int)==70)=false:=ak aR;have t68:((a.toNat:Int)==68)=false:=ak aR;have t81:((a.toNat:Int)==81)=true:=bM;have t85:((a.toNat:Int)==85)=false:=ak aR;have t65:((a.toNat:Int)==65)=false:=ak aR;have t82:((a.toNat:Int)==82)=false:=ak aR;have CX:Hid (a.toNat≠65):=aov;have Vx:((a.toNat:Int) !=65)=true:=bJ;clear Y
   by_cases hN2:N<2
   ·have VI:(N:Int)<2:=aR;exact apl
   ·have VI:¬((N:Int)<2):=aR;obtain⟨y1,hy1⟩:∃y,U[1]?=some y:=⟨_,aF ame⟩;have d1:=HD1.o 1 y1 hy1;have Pf:=dn (qd y1 w2 (aP (uQ.o y1 (List.mem_of_getElem? hy1))));have aaG:(1:Int)<(N:Int):=aR;clear hy1;go_wp2_with fail;refine Pf.o.mono ?_;rintro D J ⟨⟨n,ab,ha,rfl⟩,hw3⟩;have Gj:=hw3.symm;subst Gj;have HA:=dn ha;clear ha hw3 d1;cases ab
    ·exact apl
    ·obtain⟨o,hw4⟩:=aK (w2.setCell (dA (w.heap.size+1) 1) (dw (n:Nat)));have K:=v.o.set 1 (dw (n:Nat));rw[hw4]at K;simp only[if_pos,Nat.reduceEqDiff,ite_false]at K;have O:=dn K;have Ev:Hid (∀q,q≠w.heap.size+1->o.heap[q]?=r.heap[q]?):=λq H=>aot;have RD:Hid (o.heap.size=r.heap.size):=amX;have RI:Hid (qG w r o (.int .u8 (a.toNat:Int)) (dw (n:Nat)) (dw 0) (dE) []):=⟨K,World.ownsRow_nil _ _ _ _,λq x V=>Ev.o q V,by rw[RD.o];exact ae,GA.o⟩;obtain⟨fr0,fr1,fr2,fr3,fr4,frf,fc0,fc1,fc2,fc3,fc4,fcf,_,_⟩:=id K;clear K
     by_cases hN3:N<3
     ·have tN3:(N:Int)<3:=aR;exact apN
     ·have tN3:¬((N:Int)<3):=aR;obtain⟨y2,hy2⟩:∃y,U[2]?=some y:=⟨_,aF ame⟩;have d2:=wm.o o (Ev.o G (aP wS.o.1)) 2 y2 hy2;have abE:=dn (qd y2 o (aP (uQ.o y2 (List.mem_of_getElem? hy2))));have alv:(2:Int)<(N:Int):=aR;clear hy2;go_wp2_with fail;refine abE.o.mono ?_;rintro D W ⟨⟨bn,bb,hb,rfl⟩,lW⟩;have ahL:=lW.symm;subst ahL;have HBN:=dn hb;clear hb lW d2;cases bb
      ·exact apN
      ·obtain⟨w6,zQ⟩:=aK (o.setCell (dA (w.heap.size+1) 2) (dw (bn:Nat)));have XM:=O.o.set 2 (dw (bn:Nat));rw[zQ]at XM;simp only[if_pos,Nat.reduceEqDiff,ite_false]at XM;have Pj:Hid (qG w r w6 (.int .u8 (a.toNat:Int)) (dw (n:Nat)) (dw (bn:Nat)) (dE) []):=⟨XM,World.ownsRow_nil _ _ _ _,λq x V=>by rw[<-zQ,aD V];exact Ev.o q V,by rw[<-zQ];simp[World.setCell];rw[RD.o];exact ae,GA.o⟩;obtain⟨hr0,hr1,hr2,hr3,hr4,hrf,hc0,hc1,hc2,hc3,hc4,hcf,_,_⟩:=id XM;clear XM;have HS:=dn Pj.o;go_wp2_with fail
       go_loopw [6] (fun q wr=>∃(t:Nat) (d:eu) (b c:Nat) (p:List Lit),q=dw t/\3<=t/\t<=N/\b=p.length/\qG w r wr (.int .u8 (a.toNat:Int)) (dw (n:Nat)) (dw (bn:Nat)) (.slice d b c) p/\(∀Z∈p,Z.small)/\b<=t/\b<=c/\c<=2 ^ 63-1) (fun q _=>N-(intOf q).toNat)
       ·exact⟨3,none,0,0,[],rfl,aR,aR,rfl,HS.o,aW,aR,aR,aR⟩
       case round=>
        obtain⟨t,d,b,c,p,rfl,hit,Ky,wL,P,hsm,hlt,Gt,Gs⟩:=hrel;have s:=dn P;have oO:=dn hsm;have E:=dn wL;have bx:=P.bx;obtain⟨zO,zN,zM,zL,Bi,Bh,Bn,xA,yN,xz,Bl,Bj,_,_⟩:=id bx;have Dr:Hid (wr.heap[G]?=r.heap[G]?):=P.keep G wS.o.2 (aP wS.o.1);have f:=dn bx;clear P hsm wL bx
        by_cases htl:t<N
        ·obtain⟨y,M⟩:∃y,U[t]?=some y:=⟨_,aF amR⟩;have d1:=wm.o wr Dr.o t y M;have hyl:=uQ.o y (List.mem_of_getElem? M);clear M
         by_cases Q:y=[124]
         ·have tb:(y==[124])=true:=aoR;clear Q;have tN:((t:Int)==(N:Int))=false:=ak aR;obtain⟨C,I,h,i,j,k,l,e,g⟩:=fe f.o.r0 f.o.r1 f.o.r2 f.o.r3 f.o.r4 (.int .u8 (a.toNat:Int)) (dw (n:Nat)) (dw (bn:Nat)) (.slice d b c) (dE);have m:=dn (e _ _ f.o.ek ae);exact aqc
         ·have tb:(y==[124])=false:=ak Q;have pK:=dn (yw y wr aR);clear Q;go_wp2_with fail;refine pK.o.mono ?_;rintro D J ⟨⟨u,lb,rfl,hu⟩,R⟩;have HU:=dn hu;have F:=dn ((s.o.below R).below (af.alloc ae (.cells #[.bool u.neg,.int .u8 u.kind,dw u.a,dw u.b] 168)));have L:=F.o.bx;obtain⟨M7,M6,M5,M4,M3,M0,Nc,Nb,Na,Be,M9,Bd,_,_⟩:=id L;have z:=dn L;have hs3:=R.size;clear R hu L d1;clear Bn xA yN xz Bl Bj zO zN zM zL Bi Bh;cases lb
          ·obtain⟨C,I,h,i,j,k,l,e,g⟩:=fe z.o.r0 z.o.r1 z.o.r2 z.o.r3 z.o.r4 (.int .u8 (a.toNat:Int)) (dw (n:Nat)) (dw (bn:Nat)) (.slice d b c) (dE);have m:=dn (e _ _ z.o.ek ae);exact aqc
          ·have T:=F.o.own;rw[<-E.o]at T;have HOWN:=dn T;have A:Hid (w.heap.size+1<J.heap.size+1):=cK;have lX:Hid (∀q,(Value.slice d b c).ownBlock=some q->w.heap.size+2<=q):=λq H=>alX;have nZ:=dn Be;have rX:=dn Bd;have nC:=dn (pE u);have nU:=dn (fun(X:World) (bg:Nat) (hn:bg=X.heap.size)=>nW X u 168 bg hn);have uK:Hid (r.heap.size<=J.heap.size):=Nat.le_trans s.o.sz hs3;have uU:=dn s.o.lo;clear T;go_wp2_with (at_builtin;refine dU rfl (.tmp 97) (.tmp 99) 161 rfl r.heap.size 168 i0 (.agg #[dP,.int .u8 0,dw 0,dw 0]) 4 24 underlying161 hi0 hz0 hz1 hz2 rfl aY (.slice d b c) b (p.map Lit.cells).flatten rfl ami (dA (J.heap.size+1) 0) 1 u.cells rfl rfl (by exact nU.o _ _ aW) nC.o bz aR amG ?_;intro ga fD o hown' S hg1 hg2;have y1:o.cell? (dA (w.heap.size+1) 3)=some (.slice d b c):=((eY S (a:=dA (w.heap.size+1) 3) bO (λD=>aP (lX.o (w.heap.size+1) D.symm))).trans (dV _ _ _ bO)).trans nZ.o;have y2:o.frozen? (dA (w.heap.size+1) 3)=false:=((fo S (a:=dA (w.heap.size+1) 3) bO (λD=>aP (lX.o (w.heap.size+1) D.symm))).trans (eF _ _ _ bO)).trans (rX.o 3);obtain⟨W,lW⟩:=aK (o.setCell (dA (w.heap.size+1) 3) (dJ ga (b+1) fD));have hap:=gK (eb:=w.heap.size+1) (f:=3) (aP uU.o) (HOWN.o.alloc _) bO ((dV _ _ _ bO).trans nZ.o) hown' S hg2;rw[lW]at hap;have pV:Hid (qG w r W (.int .u8 (a.toNat:Int)) (dw (n:Nat)) (dw (bn:Nat)) (dJ ga (b+1) fD) (p++[u])):=F.o.app _ amN;have hcp:=oG hown';clear hap hown' S hg1 hg2);go_roundw
           ·exact⟨t+1,some (dA ga 0),b+1,fD,p++[u],bL,aR,aR,amk,pV.o,λZ hl=>bW,aR,hcp.1,hcp.2⟩
           ·exact aph
        ·have DX:t=N:=aR;have tN:((t:Int)==(N:Int))=true:=bM;have htn:¬((t:Int)<(N:Int)):=aR;clear DX;obtain⟨C,I,h,i,j,k,l,e,g⟩:=fe f.o.r0 f.o.r1 f.o.r2 f.o.r3 f.o.r4 (.int .u8 (a.toNat:Int)) (dw (n:Nat)) (dw (bn:Nat)) (.slice d b c) (dE);have m:=dn (e _ _ f.o.ek ae);have mr:Hid (iX C bq.length (dF (dM #[.agg #[.int .u8 (a.toNat:Int),dw (n:Nat),dw (bn:Nat),.slice d b c,dE],fu]))):=⟨a.toNat,n,bn,d,b,c,none,0,0,true,rfl,λ_=>⟨a.toNat_lt,HA.o,HBN.o,⟨p,E.o.symm,qp s.o.own (λq H=>g q (aP s.o.lo)),oO.o,amo⟩,λB=>absurd B CX.o⟩⟩;clear e g;go_wp2;exact dR (dM #[.agg #[.int .u8 (a.toNat:Int),dw (n:Nat),dw (bn:Nat),.slice d b c,dE],fu]) bK rfl ⟨mr.o,m.o⟩
  have ahA:=Y;clear Y
  by_cases Y:a.toNat=85
  ·have t70:((a.toNat:Int)==70)=false:=ak aR;have t68:((a.toNat:Int)==68)=false:=ak aR;have t81:((a.toNat:Int)==81)=false:=ak aR;have t85:((a.toNat:Int)==85)=true:=bM;have t65:((a.toNat:Int)==65)=false:=ak aR;have t82:((a.toNat:Int)==82)=false:=ak aR;exact arf
  have ahy:=Y;clear Y
  by_cases Y:a.toNat=65
  ·have t70:((a.toNat:Int)==70)=false:=ak aR;have t68:((a.toNat:Int)==68)=false:=ak aR;have t81:((a.toNat:Int)==81)=false:=ak aR;have t85:((a.toNat:Int)==85)=false:=ak aR;have t65:((a.toNat:Int)==65)=true:=bM;have t82:((a.toNat:Int)==82)=false:=ak aR;have Vx:((a.toNat:Int) !=65)=false:=amt;clear Y;have HS:=dn HS2.o;go_wp2_with fail
   go_loopw [6] (fun q wr=>∃(t:Nat) (d:eu) (b c:Nat) (p:List Lit),q=dw t/\1<=t/\t<=N/\b=p.length/\qG w r wr (.int .u8 (a.toNat:Int)) (dw (0:Int)) (dw (0:Int)) (.slice d b c) p/\(∀Z∈p,Z.small)/\b<=t/\b<=c/\c<=2 ^ 63-1) (fun q _=>N-(intOf q).toNat)
   ·exact aqI
   case round=>
    obtain⟨t,d,b,c,p,rfl,hit,Ky,wL,P,hsm,hlt,Gt,Gs⟩:=hrel;have s:=dn P;have oO:=dn hsm;have E:=dn wL;have bx:=P.bx;obtain⟨zO,zN,zM,zL,Bi,Bh,Bn,xA,yN,xz,Bl,Bj,_,_⟩:=id bx;have Dr:Hid (wr.heap[G]?=r.heap[G]?):=P.keep G wS.o.2 (aP wS.o.1);have f:=dn bx;clear P hsm wL bx
    by_cases htl:t<N
    ·obtain⟨y,M⟩:∃y,U[t]?=some y:=⟨_,aF amR⟩;have d1:=wm.o wr Dr.o t y M;have hyl:=uQ.o y (List.mem_of_getElem? M);clear M
     by_cases Q:y=[124]
     ·have tb:(y==[124])=true:=aoR;clear Q;have tN:((t:Int)==(N:Int))=false:=ak aR;have IW:Hid (wc (U.drop (t+1))<=wc U):=acW U (t+1);have hcc:t+1<cv\/t+1=cv:=aR;rcases hcc with hcc|hcc
      ·have ain:(t:Int)+1<(cv:Int):=aR;have RU:Hid ((U.drop (t+1)).length=N-(t+1)):=by show _=_;rw[List.length_drop,HN.o]
       have HND:Hid ((U.drop (t+1)).length<=N):=by show _<=_;rw[RU.o];omega
       have HT:=dn (J5 (some (dA G (t+1))) (cv-(t+1)) (N-(t+1)) (U.drop (t+1)) wr (λbB bC hz=>⟨G,t+1,rfl,wm.o wr Dr.o (t+1+bB) bC (by rw[List.getElem?_drop]at hz;exact hz)⟩) RU.o ⟨aR,aR⟩ aR (λy M=>aP (uQ.o y (List.mem_of_mem_drop M))));exact apm
      ·have ain:(t:Int)+1=(cv:Int):=aR;have HND:Hid (([]:List (dN)).length<=N):=by show 0<=_;omega
       have IW:Hid (wc ([]:List (dN))<=wc U):=by show 0<=_;omega
       have HT:=dn (J5 (some (dA G 0)) 0 0 [] wr (λbB bC hz=>by simp at hz) rfl ⟨aR,aR⟩ aR aW);exact apm
     ·exact api
    ·have DX:t=N:=aR;have tN:((t:Int)==(N:Int))=true:=bM;have htn:¬((t:Int)<(N:Int)):=aR;clear DX;obtain⟨C,I,h,i,j,k,l,e,g⟩:=fe f.o.r0 f.o.r1 f.o.r2 f.o.r3 f.o.r4 (.int .u8 (a.toNat:Int)) (dw (0:Int)) (dw (0:Int)) (.slice d b c) (dE);have m:=dn (e _ _ f.o.ek ae);exact apt
  have ahD:=Y;clear Y
  by_cases Y:a.toNat=82
  ·have t70:((a.toNat:Int)==70)=false:=ak aR;have t68:((a.toNat:Int)==68)=false:=ak aR;have t81:((a.toNat:Int)==81)=false:=ak aR;have t85:((a.toNat:Int)==85)=false:=ak aR;have t65:((a.toNat:Int)==65)=false:=ak aR;have t82:((a.toNat:Int)==82)=true:=bM;exact arf
  have ahz:=Y;clear Y;have t70:((a.toNat:Int)==70)=false:=ak aR;have t68:((a.toNat:Int)==68)=false:=ak aR;have t81:((a.toNat:Int)==81)=false:=ak aR;have t85:((a.toNat:Int)==85)=false:=ak aR;have t65:((a.toNat:Int)==65)=false:=ak aR;have t82:((a.toNat:Int)==82)=false:=ak aR;clear ahB ahC ahA ahy ahD ahz;exact apl
 ·have tl:((y0.length:Int) !=1)=true:=bJ;clear hy1;obtain⟨C,I,h,i,j,k,l,e,g⟩:=fe vP.o.r0 vP.o.r1 vP.o.r2 vP.o.r3 vP.o.r4 (.int .u8 (0:Int)) (dw (0:Int)) (dw (0:Int)) (dE) (dE);have m:=dn (e _ _ vP.o.ek ae);clear e g;go_wp2;exact dR (dM #[.agg #[.int .u8 (0:Int),dw (0:Int),dw (0:Int),dE,dE],dP]) bK rfl ⟨iX.no 0 0 0 none 0 0 none 0 0,m.o⟩
theorem X4:(prog.info? 164).map (λi=>(i.zero,i.size,i.bytes))=some (some (.agg #[.int .u8 0,dw 0,dw 0,dE,dE]),5,72):=bR
structure Sp where
 k:Nat
 a:Nat
 b:Nat
 aL:eu
 nL:Nat
 cL:Nat
 aT:eu
 nT:Nat
 cT:Nat
 ls:List Lit
 m:Nat
def Sp.cells (s:Sp):List Value:=[.int .u8 s.k,dw s.a,dw s.b,.slice s.aL s.nL s.cL,.slice s.aT s.nT s.cT]
structure xk (w:World)(s:Sp):Prop where
 a:s.a<1000
 len:s.ls.length=s.nL
 lits:fK w (.slice s.aL s.nL s.cL) s.ls
 few:s.ls.length<=s.m+1
 tree:s.k=65->∃ds:List Nd,nQ w (.slice s.aT s.nT s.cT) ds/\(∀d∈ds,Ep d)/\gM ds<=34*(s.m+1)/\ds.length<=s.m+1
theorem xk.below {s:Sp}(h:xk w s)(a:dB w W):xk W s:=
 ⟨h.a,h.len,h.lits.below a,h.few,λb=>by obtain⟨c,d,e⟩:=h.tree b;exact⟨c,d.below a,e⟩⟩
def sO (w:World)(v:Value):Prop:=∀g,v.ownBlock=some g->∃(k a:Int),w.cell? (dA g 0)=some (.int .u8 k)/\w.cell? (dA g 1)=some (dw a)
theorem sO.of {a:List Sp}(h:w.ownsRow n 164 5 v a.length (a.map Sp.cells).flatten)(d:a=[]->v=dE):sO w v:=by
 intro g b;cases a with
 | nil=>rw[d rfl]at b;simp[Value.ownBlock]at b
 | cons s a=>
  obtain⟨m,o,e,_,_,_,f⟩:=Row.fq (xs:=(s::a).map Sp.cells) h aW (by simp[Sp.cells]);obtain⟨i,j,c⟩:=f 0 aW;rw[e,j]at b;have:i=g:=by simpa[Value.ownBlock] using b
  subst this;have k:=c 0 aR (.int .u8 s.k) rfl;have l:=c 1 aR (dw s.a) rfl;exact⟨s.k,s.a,by simpa using k,by simpa using l⟩
theorem fK.D7 (j:fK w V J)(k:sO w v)(l:w.grownBy W v.ownBlock):fK W V J:=by
 obtain⟨m,n,p,q,r,d⟩:=j;refine⟨m,n,p,q,r,λi hi=>?_⟩;obtain⟨g,f,s⟩:=d i hi;refine⟨g,f,λu=>?_⟩;have b:=s u;obtain⟨a,h,x⟩:=d 0 aR;have y:a=g:=by rw[f]at h;injection h with e;injection e with e;exact e.symm
 subst y
 have z:some a≠v.ownBlock:=λe=>by
  obtain⟨B,C,A,_⟩:=k a e.symm;have c:=(x aR).neg;simp only[Nat.zero_mul]at c;rw[A]at c;cases c
 have t:∀o,W.cell? (dA a o)=w.cell? (dA a o):=λo=>eY l (a:=dA a o) (World.block_lt_of_cell? w (dA a (i*4)) b.neg) z;exact ard
theorem fA.D7 (k:fA w V f)(l:sO w v)(m:w.grownBy W v.ownBlock):fA W V f:=by
 obtain⟨n,o,p,q,r,b⟩:=k;refine⟨n,o,p,q,r,λi hi=>?_⟩;obtain⟨g,c,s⟩:=b i hi;refine⟨g,c,λt=>?_⟩;have d:=s t;obtain⟨a,h,u⟩:=b 0 aR;have x:a=g:=by rw[c]at h;injection h with e;injection e with e;exact e.symm
 subst x
 rw[eY m (a:=dA a i) (aj d) (λe=>by
  obtain⟨z,A,y,_⟩:=l a e.symm;have j:=u aR;rw[y]at j;cases j)]
 exact d
theorem nQ.D7 {d:List Nd}(m:nQ w V d)(f:sO w v)(g:w.grownBy W v.ownBlock):nQ W V d:=by
 obtain⟨n,p,q,r,s,h⟩:=m;refine⟨n,p,q,r,s,λi hi=>?_⟩;obtain⟨j,k,u⟩:=h i hi;refine⟨j,k,λx=>?_⟩;have b:=u x;obtain⟨a,l,y⟩:=h 0 aR;have z:a=j:=by rw[k]at l;injection l with e;injection e with e;exact e.symm
 subst z
 have A:some a≠v.ownBlock:=λe=>by
  obtain⟨I,J,_,B⟩:=f a e.symm;obtain⟨K,L,c,_⟩:=(y aR).mult;simp only[Nat.zero_mul,Nat.zero_add]at c;rw[B]at c;cases c
 have t:∀o,W.cell? (dA a o)=w.cell? (dA a o):=λo=>eY g (a:=dA a o) (World.block_lt_of_cell? w (dA a (i*4)) b.kind) A;obtain⟨C,D,E,F,G,H⟩:=b.mult;exact⟨(t _).trans b.kind,⟨C,D,(t _).trans E,F,G,H.D7 f g⟩,(t _).trans b.var,(t _).trans b.num⟩
theorem xk.grown {s:Sp}(h:xk w s)(a:sO w v)(b:w.grownBy W v.ownBlock):xk W s:=
 ⟨h.a,h.len,h.lits.D7 a b,h.few,λc=>by obtain⟨d,e,f⟩:=h.tree c;exact⟨d,e.D7 a b,f⟩⟩
structure F4 (w wr:World)(v:Value)(ss:List Sp):Prop where
 own:wr.ownsRow w.heap.size 164 5 v ss.length (ss.map Sp.cells).flatten
 nil:ss=[]->v=dE
 ok:∀s∈ss,xk wr s
 ek:dB w wr
theorem F4.below {wr:World}{b:List Sp}(h:F4 w wr v b)(a:dB wr W):F4 w W v b:=
 ⟨ownsRow_below h.own a,h.nil,λs c=>(h.ok s c).below a,h.ek.dW a⟩
theorem F4.app {wr:World}{a:List Sp}{s:Sp}{X:Obj}{g cap:Nat}(h:F4 w wr v a)(i:xk wr s)(j:W.ownsRow w.heap.size 164 5 (dJ g (a.length+1) cap) (a.length+1) ((a.map Sp.cells).flatten++s.cells))(d:(wr.alloc X).grownBy W v.ownBlock):F4 w W (dJ g (a.length+1) cap) (a++[s]):=by
 have e:dB wr (wr.alloc X):=af.alloc ae X;have b:=h.below e;have f:=sO.of b.own b.nil;refine⟨?_,λk=>by simp at k,λx c=>?_,b.ek.grown d b.ek.size (λl m=>(h.own.lt l m).1)⟩
 ·rw[List.length_append];simpa using j
 ·rcases List.mem_append.1 c with c|c
  ·exact(b.ok x c).grown f d
  ·rw[List.mem_singleton.1 c];exact(i.below e).grown f d
def qg (ss:List Sp):Nat:=(ss.map (λs=>s.m+1)).sum
def Vl (w':World)(n:Nat)(e:Ending):Prop:=∃(a:eu) (m c:Nat) (b:Bool),e=dF (dM #[.slice a m c,.bool b])/\(b=true->∃ss:List Sp,ss.length=m/\Row w' 5 (.slice a m c) (ss.map Sp.cells)/\(∀s∈ss,xk w' s)/\qg ss<=n+1)
theorem Vl.no (a:eu)(m c:Nat):Vl w n (dF (dM #[.slice a m c,dP])):=⟨a,m,c,false,rfl,aW⟩
theorem Vk (x:dN)(T:World)(hx:x.length<=90000) :
 dH 104 #[dD x] T λE U=>Vl U x.length E/\dB T U:=by
 have hR:=gU;obtain⟨i0,hi0,hz0,hz1,hz2⟩:=info_parts X4;have AR:=dn (λW=>JL x 10 W aR);have yc:=dn (λy W (bg:y.length<=200000)=>VP y W bg);go_enter func104,ntmps104;go_wp2_with fail;refine(AR.o _).mono ?_;rintro E n ⟨⟨V,a,rfl,q,F,hsum⟩,X⟩;obtain⟨av,cv,hv,q1,q2,G⟩:=eZ q;subst hv;have Y:=dn X
 have uQ:Hid (∀y∈a,y.length<=90001):=λy l=>by
  have j:y.length<=(a.map List.length).sum:=xM (List.mem_map_of_mem l);exact aR
 obtain⟨N,H⟩:=aK a.length
 obtain⟨r,rfl⟩:∃r,av=some (dA r 0):=by
  obtain⟨r,j,_⟩:=G 0 F;exact⟨r,j⟩
 have PG:Hid (r<n.heap.size):=(q.lt r rfl).2
 have Z:Hid (∀(W:World),dB n W->∀s y,a[s]?=some y->W.dQ r s=some (dD y)):=λW hW s y l=>by
  obtain⟨hj,hy'⟩:=aG l;obtain⟨g',j,B,_⟩:=G s hj;injection j with j
  injection j with j;subst j;exact(hW.dL (B.trans (by simp[l,eO])) PG.o)
 have abD:Hid (∀k,((a.take k).map (λy=>y.length+1)).sum<=x.length+1):=λk=>by
  have e1:∀z:List (dN),(z.map (λy=>y.length+1)).sum=(z.map List.length).sum+z.length:=λz=>by
   induction z with
   | nil=>rfl
   | cons u z ih=>simp only[List.map_cons,List.sum_cons,List.length_cons,ih];omega
  have I:a=a.take k++a.drop k:=(List.take_append_drop k a).symm
  have e3:(a.map (λy=>y.length+1)).sum=((a.take k).map (λy=>y.length+1)).sum+((a.drop k).map (λy=>y.length+1)).sum:=by
   conv=>lhs;rw[I]
   rw[List.map_append,List.sum_append]
  have e4:=e1 a;exact aR
 have HN:=dn H;have hN9:N<=90001:=aR;rw[H]at q1 F ⊢;obtain⟨yl,J⟩:∃y,a[N-1]?=some y:=⟨_,aF ame⟩;have C:=Z.o n af (N-1) yl J;have uG:Hid (F4 n n (dE) []):=⟨World.ownsRow_nil _ _ _ _,λ_=>rfl,aW,af⟩;obtain⟨M,hM⟩:∃M,N=M+1:=⟨N-1,aR⟩;subst hM;rw[show M+1-1=M by omega]at C;clear q hsum G X H J F;cases el:(yl==[])
 ·go_wp2;go_ret2;exact⟨.no _ _ _,Y.o⟩
 ·go_wp2_with fail;clear C
  go_loopw [6,7] (fun V K wr=>∃(t:Nat) (u:eu) (m o:Nat) (p:List Sp),V=.slice u m o/\m=p.length/\K=dw t/\t<=M/\F4 n wr (.slice u m o) p/\qg p=((a.take t).map (fun y=>y.length+1)).sum/\m=t/\m<=o/\o<=2 ^ 63-1) (fun _ K _=>M-(intOf K).toNat)
  ·exact⟨0,none,0,0,[],rfl,rfl,rfl,aR,uG.o,rfl,rfl,aR,aR⟩
  case round=>
   obtain⟨t,u,m,o,p,rfl,hm,rfl,ht,L,hsl,hmt,hc1,hc2⟩:=hrel;have D:=dn L;have FP:=dn hsl;have v:=dn hm;have HMT:=dn hmt;have hm9:m<=90001:=aR;have jG:=dn (Y.o.dW L.ek);clear L hsl hm hmt
   by_cases htl:t<M
   ·obtain⟨y,l⟩:∃y,a[t]?=some y:=⟨_,aF ame⟩;have C:=Z.o wr D.o.ek t y l;have J:=uQ.o y (List.mem_of_getElem? l);have HC:=dn (yc.o y wr aR)
    have uF:Hid (((a.take (t+1)).map (λy=>y.length+1)).sum=((a.take t).map (λy=>y.length+1)).sum+(y.length+1)):=by
     show _=_;rw[List.take_add_one,l];exact aW
    clear l;have Ky:(t:Int)<((M:Int)+1):=aR;go_wp2_with fail;refine HC.o.mono ?_;rintro E w2 ⟨⟨k,b,c,d,e,f,g,h,i,ok,rfl,hok⟩,O⟩;have oP:=dn hok;have lq:=dn (D.o.below O);have JX:=dn (jG.o.dW O);have akV:=lq.o.ek.size;clear hok O C;cases ok
    ·have HB3:=dn (JX.o.alloc JX.o.size (.cells #[.int .u8 k,dw b,dw c,.slice d e f,.slice g h i] 164));go_wp2;go_ret2;exact⟨.no _ _ _,HB3.o⟩
    ·obtain⟨j,B,h3,⟨P,l1,l2,l3,l4⟩,htr⟩:=oP.o rfl;have I1:Hid (xk (w2.alloc (.cells #[.int .u8 k,dw b,dw c,.slice d e f,.slice g h i] 164)) ⟨k,b,c,d,e,f,g,h,i,P,y.length⟩):=xk.below ⟨B,l1,l2,l4,λhk=>by obtain⟨ds,e1,I,e3,e4,e5⟩:=htr hk;exact⟨ds,I,e3,e4,e5⟩⟩ ai;have Pb:=dn (lq.o.below (af.alloc ae (.cells #[.int .u8 k,dw b,dw c,.slice d e f,.slice g h i] 164)));have q:=Pb.o.own;rw[<-v.o]at q;have HOWN:=dn q
     have nC:Hid (∀A∈[Value.int .u8 (k:Int),dw (b:Int),dw (c:Int),.slice d e f,.slice g h i],A.oneCell'=true):=by
      intro A hu;simp only[List.mem_cons,List.not_mem_nil,or_false]at hu;rcases hu with rfl|rfl|rfl|rfl|rfl<;>rfl
     have nU:Hid (∀(W:World) (w:Nat),w=W.heap.size->∀s A,[Value.int .u8 (k:Int),dw (b:Int),dw (c:Int),.slice d e f,.slice g h i][s]?=some A->(W.alloc (.cells #[.int .u8 (k:Int),dw (b:Int),dw (c:Int),.slice d e f,.slice g h i] 164)).cell? (((dA w 0):Addr).add s)=some A):=λW w hn=>FH W [.int .u8 (k:Int),dw (b:Int),dw (c:Int),.slice d e f,.slice g h i] _ w hn;clear j B h3 l1 l2 l3 l4 htr q;go_wp2_with (at_builtin;refine dU rfl (.tmp 35) (.tmp 37) 154 rfl n.heap.size 164 i0 (.agg #[.int .u8 0,dw 0,dw 0,dE,dE]) 5 72 underlying154 hi0 hz0 hz1 hz2 rfl aY (.slice u m o) m (p.map Sp.cells).flatten rfl (by exact HOWN.o.alloc _) (dA (w2.heap.size+1) 0) 1 [.int .u8 (k:Int),dw (b:Int),dw (c:Int),.slice d e f,.slice g h i] rfl rfl (by exact nU.o _ _ aW) nC.o bz aR aX ?_;intro Q R w3 S hgrow hbg tu;have Ew:Hid (F4 n w3 (dJ Q (m+1) R) (p++[⟨k,b,c,d,e,f,g,h,i,P,y.length⟩])):=(by have h9:=F4.app (g:=Q) (cap:=R) Pb.o I1.o (by rw[<-v.o];exact S) hgrow;rw[<-v.o]at h9;exact h9);have hcp:=oG S;clear S hgrow hbg tu);go_roundw
     ·exact⟨t+1,some (dA Q 0),m+1,R,p++[⟨k,b,c,d,e,f,g,h,i,P,y.length⟩],rfl,by rw[List.length_append,<-v.o];rfl,bL,aR,Ew.o,by rw[uF.o,<-FP.o];unfold qg;rw[List.map_append,List.sum_append];simp,aP HMT.o,hcp.1,hcp.2⟩
     ·exact aph
   ·have iP:Hid (Vl wr x.length (dF (dM #[.slice u m o,fu]))):=⟨u,m,o,true,rfl,λ_=>⟨p,v.o.symm,Row.fq (by have:=D.o.own;rw[<-v.o]at this;exact this) (by rw[List.length_map];exact v.o) (by simp[Sp.cells]),D.o.ok,by rw[FP.o];exact abD.o t⟩⟩;go_wp2;go_ret2;exact⟨iP.o,jG.o⟩
