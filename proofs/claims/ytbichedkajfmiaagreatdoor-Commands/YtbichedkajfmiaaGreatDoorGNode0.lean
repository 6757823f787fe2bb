import Derived.Test.YtbichedkajfmiaaGreatDoorGLW0
import Derived.Test.YtbichedkajfmiaaGreatDoorGSum5
import Derived.Test.YtbichedkajfmiaaGreatDoorC
set_option maxRecDepth 100000
set_option maxHeartbeats 16000000
namespace Go.Proofs.YtbichedkajfmiaaGreatDoor
open Go.RowKit
variable {J:List Lit}{V v y:Value}{W u w:World}{a:Option Addr}{b:List Value}{f:List Int}{m n:Nat}{x:List UInt8}
def wc (ws:List (List UInt8)):Nat:=(ws.map (fun x=>x.length+33)).sum
theorem yx {a:List (List UInt8)}(h:a[n]?=some x):wc (a.take (n+1))=wc (a.take n)+(x.length+33):=by
 unfold wc;rw[List.take_add_one,h];exact aP
theorem XY (a:List (List UInt8))(i:Nat):wc (a.take i)<=wc a:=by
 exact alH
theorem agw (a:List (List UInt8)){i j:Nat}(h:i<=j):wc (a.take i)<=wc (a.take j):=by
 have:=XY (a.take j) i;rw[List.take_take,Nat.min_eq_left h]at this;exact this
def EW (w:World)(a:Option Addr)(xs:List (List UInt8)):Prop:=∀i z,xs[i]?=some z->∃g o,a=some ⟨g,o,none⟩/\w.cell? ⟨g,o+i,none⟩=some (.string ⟨z.toArray⟩)
theorem EW.below {b:List (List UInt8)}(h:EW w a b)(d:Below w.heap.size w W):EW W a b:=fun i z e=>by
 obtain⟨g,o,f,c⟩:=h i z e;exact⟨g,o,f,(d.cell (p:=⟨g,o+i,none⟩) (ai c)).trans c⟩
def ko (w':World)(base:Nat)(ws:List (List UInt8))(i:Nat)(e:Ending):Prop:=
 ∃(d:Nd) (j:Nat) (b:Bool) (a:Option Addr) (c:Nat),e=.returned (.tuple #[.agg #[.int .u8 d.kind,.slice a d.mult.length c,.int .i64 d.var,.string ⟨d.num.toArray⟩],.int .i64 j,.bool b])/\
  (b=true->BM d/\dV w' (.slice a d.mult.length c) d.mult/\i<j/\j<=ws.length/\El d+wc (ws.take i)<=wc (ws.take j)/\∀q,(Value.slice a d.mult.length c).ownBlock=some q->base<=q)
theorem ko.no {d:List (List UInt8)}(k:Nat)(a:List Int)(j:Nat)(b:Option Addr)(c:Nat):ko w n d m (.returned (.tuple #[.agg #[.int .u8 k,.slice b a.length c,.int .i64 (0:Nat),.string ⟨#[]⟩],.int .i64 j,.bool false])):=⟨⟨k,a,0,[]⟩,j,false,b,c,rfl,aP⟩
structure wG (w wx:World)(kd:Nat)(vs:Value)(ms:List Int):Prop where
 bx:nY w wx (.int .u8 0) (.slice none 0 0) (.int .i64 0) (.string ⟨#[]⟩) (.int .u8 kd) vs (.int .i64 0) (.string ⟨#[]⟩)
 own:wx.ownsRow (w.heap.size+2) 9 1 vs ms.length (ms.map str)
theorem wG.app {z:Int}(h:wG w W n v f)(X:Obj)(b:lH (W.alloc X) u (w.heap.size+1) 1 (w.heap.size+2) 9 1 v V (f.length+1) (f.map str++[str z])):wG w u n V (f++[z]):=by
 have d:Below W.heap.size W (W.alloc X):=af.alloc ae X;have a:=h.bx.below d;have e:=a.lt;have t:∀{q:Nat} {c:Value},(W.alloc X).cell? ⟨w.heap.size,q,none⟩=some c->u.cell? ⟨w.heap.size,q,none⟩=some c:=fun g=>(b.below.cell (p:=⟨w.heap.size,_,none⟩) aW).trans g;refine⟨⟨t a.r0,t a.r1,t a.r2,t a.r3,fun o=>(b.below.frozen (p:=⟨w.heap.size,o,none⟩) aW).trans (a.rf o),(b.cells 0 aO).trans a.c0,b.cell,(b.cells 2 aO).trans a.c2,(b.cells 3 aO).trans a.c3,fun o=>(b.frozen o).trans (a.cf o),a.dG.trans (b.below.mono aO),Nat.lt_of_lt_of_le e b.size⟩,?_⟩;rw[List.length_append,List.map_append];exact b.own
theorem wG.nums (h:wG w W n v f){b c d e:Value}(g:(((W.setCell ⟨w.heap.size,0,none⟩ b).setCell ⟨w.heap.size,1,none⟩ c).setCell ⟨w.heap.size,2,none⟩ d).setCell ⟨w.heap.size,3,none⟩ e=u):dV u v f:=by
 have i:=dV.dW h.own;have a:v.ownBlock≠some w.heap.size:=fun j=>by have:=(h.own.lt _ j).1;omega
 rw[<-g];exact(((i.set a _).set a _).set a _).set a _
theorem Vx (a0:Option Addr)(cap0 N i:Nat)(b:List (List UInt8))(w:World)(hws:EW w a0 b)(hN:b.length=N)(hc:N<=cap0/\cap0<=2 ^ 63-1)(hi:i<=1000000000)(hn:N<=1000000000)(hl:∀x∈b,x.length<=1000000000) :
 Calls Tryz.prog 235 #[.slice a0 N cap0,.int .i64 i] w fun s w'=>ko w' w.heap.size b i s/\Below w.heap.size w w':=by
 have hR:=fJ;obtain⟨i0,hi0,hz0,hz1,hz2⟩:=info_parts Tryz.oC;obtain⟨hc1,hc2⟩:=hc;have HG:Hid (∀W,Below w.heap.size w W->∀i z,b[i]?=some z->∃bg o,a0=some ⟨bg,o,none⟩/\W.cell? ⟨bg,o+i,none⟩=some (.string ⟨z.toArray⟩)):=fun W j=>hws.below j;have HL:=di hl;have K:=di hN;have HB0:=di (nY.start w (.int .u8 0) (.slice none 0 0) (.int .i64 0) (.string ⟨#[]⟩) (.int .u8 0) (.slice none 0 0) (.int .i64 0) (.string ⟨#[]⟩) 267 267);have HIS:=di (fun bn W j=>Lp bn W j);have oK:=di (fun bn W j=>nk bn W j);clear hws hl hN
 by_cases hlt:i<N
 ·obtain⟨x,l⟩:∃x,b[i]?=some x:=⟨_,aD (by rw[K.o];exact hlt)⟩;have hxl:=HL.o x (List.mem_of_getElem? l);have HX:=di l;have HW1:=di (yx l);obtain⟨bg,o,rfl,d0⟩:=HG.o _ HB0.o.dG i x l;have hge:¬((N:Int)<=(i:Int)):=aO;clear l
  by_cases hs:x=[115]
  ·subst hs
   by_cases h2:i+2<N
   ·obtain⟨y1,hy1⟩:∃E,b[i+1]?=some E:=⟨_,aD aj8⟩;obtain⟨k,hy2⟩:∃E,b[i+2]?=some E:=⟨_,aD aj8⟩;obtain⟨g1,o1,f,d1⟩:=HG.o _ HB0.o.dG (i+1) y1 hy1;injection f with f
    injection f with f ho1;subst f ho1;obtain⟨g2,o2,n,d2⟩:=HG.o _ HB0.o.dG (i+2) k hy2;injection n with n;injection n with n ho2;subst n ho2;have kG:=di (fun W=>oK.o y1 W (by have:=HL.o y1 (List.mem_of_getElem? hy1);omega));have HI2:=di (fun W=>HIS.o k W (by have:=HL.o k (List.mem_of_getElem? hy2);omega));have HW2:=di (yx hy1);have HW3:=di (yx hy2);have hlt1:(i:Int)+1<(N:Int):=aO;have hlt2:(i:Int)+2<(N:Int):=aO;have abh:¬((N:Int)<=(i:Int)+2):=aO
    have L:Hid (∀(v:Nat) (W:World),v<1000->dn.Is k=true->ko W w.heap.size b i (.returned (.tuple #[.agg #[.int .u8 (115:Nat),.slice none 0 0,.int .i64 (v:Nat),.string ⟨k.toArray⟩],.int .i64 (i+3:Nat),.bool true]))):=fun v W hv hI=>by
     refine⟨⟨115,[],v,k⟩,i+3,true,none,0,rfl,fun _=>⟨⟨by show 115<256;omega,hv,fun _=>dn.qi hI⟩,⟨none,0,rfl,ae,aX,fun bB hj=>by simp at hj⟩,aO,aj8,?_,fun q p=>aku⟩⟩;have e1:=HW1.o;have e2:wc (b.take (i+2))=_:=HW2.o;have e3:=HW3.o;show(fI []+k.length+30)+_<=wc (b.take (i+2+1));have:fI []=0:=rfl;exact aO
    have M:Hid (∀(v:Nat) (W:World),ko W w.heap.size b i (.returned (.tuple #[.agg #[.int .u8 (115:Nat),.slice none 0 0,.int .i64 (v:Nat),.string ⟨k.toArray⟩],.int .i64 (i+3:Nat),.bool false]))):=fun v W=>⟨⟨115,[],v,k⟩,i+3,false,none,0,rfl,aP⟩;have oL:=di (fun v:Nat=>(nY.start w (.int .u8 115) (.slice none 0 0) (.int .i64 (v:Nat)) (.string ⟨k.toArray⟩) (.int .u8 115) (.slice none 0 0) (.int .i64 (v:Nat)) (.string ⟨k.toArray⟩) 267 267).dG);clear hy1 hy2;generalize dn.Is k=yb at *;go_enter Tryz.func235,Tryz.ntmps235;go_wp2_with fail;refine(kG.o _).mono ?_;rintro s O ⟨⟨v,xb,hv,rfl⟩,hw1⟩;have HVV:=di hv;subst hw1;clear hv;go_wp2_with fail;refine(HI2.o _).mono ?_;rintro s O ⟨rfl,hw1⟩;subst hw1;cases xb
    ·exact alC
    ·cases yb
     ·exact alC
     ·go_wp2_with fail;exact bodyPost_ret (v:=.tuple #[.agg #[.int .u8 115,.slice none 0 0,.int .i64 (v:Nat),.string ⟨k.toArray⟩],.int .i64 ((i:Int)+3),.bool true]) cZ rfl ⟨by first|exact L.o v _ HVV.o rfl|exact L.o v _ HVV.o trivial,oL.o v⟩
   ·have abh:(N:Int)<=(i:Int)+2:=aO;exact ala
  ·by_cases hf:x=[102]
   ·subst hf;have HW0:Hid (wc (b.take (i+1))=wc (b.take i)+34):=by show _=_;rw[HW1.o];rfl
    have HST:Hid (wG w ((w.alloc (.cells #[.int .u8 0,.slice none 0 0,.int .i64 0,.string ⟨#[]⟩] 267)).alloc (.cells #[.int .u8 (102:Nat),.slice none 0 0,.int .i64 0,.string ⟨#[]⟩] 267)) 102 (.slice none 0 0) []):=⟨nY.start w (.int .u8 0) (.slice none 0 0) (.int .i64 0) (.string ⟨#[]⟩) (.int .u8 (102:Nat)) (.slice none 0 0) (.int .i64 0) (.string ⟨#[]⟩) _ _,World.ownsRow_nil _ _ _ _⟩
    have L:Hid (∀(a:List Int) (t:Nat) (F:Option Addr) (G:Nat) (W:World),dV W (.slice F a.length G) a->(∀q,(Value.slice F a.length G).ownBlock=some q->w.heap.size<=q)->i<t->t<=N->fI a+wc (b.take (i+1))<=wc (b.take t)->ko W w.heap.size b i (.returned (.tuple #[.agg #[.int .u8 (102:Nat),.slice F a.length G,.int .i64 (0:Nat),.string ⟨#[]⟩],.int .i64 (t:Nat),.bool true]))):=fun a t F G W hnu hbq h1 h2 h3=>by
     refine⟨⟨102,a,0,[]⟩,t,true,F,G,rfl,fun _=>⟨⟨by show 102<256;omega,bV,fun j=>by simp at j⟩,hnu,h1,by rw[K.o];exact h2,?_,hbq⟩⟩;have:=HW0.o;show(fI a+0+30)+_<=_;exact aO
    clear HW1;go_enter Tryz.func235,Tryz.ntmps235;go_wp2_with fail;clear d0
    go_loopw [1] (fun q wr=>∃(t:Nat) (vs:Value) (a:List Int),q=.int .i64 t/\i+1<=t/\t<=N/\wG w wr 102 vs a/\fI a+wc (b.take (i+1))<=wc (b.take t)/\a.length<=t) (fun q _=>N-(intOf q).toNat)
    case atStart=>exact⟨i+1,.slice none 0 0,[],bJ,aO,aO,by first|exact HST.o|exact HST.o.1,by show 0+_<=_;omega,aP⟩
    case round=>
     obtain⟨t,vs,a,rfl,hit,G6,P,hco,KA⟩:=hrel;have Q:=di P;have Oo:=di hco;have d:=P.bx;obtain⟨g,h,rfl,hcap,hmax,_⟩:=dQ P.own;have k0:=d.c0;have k1:=d.c1;have k2:=d.c2;have k3:=d.c3;have kf:=d.cf;have q0:=d.r0;have q1:=d.r1;have q2:=d.r2;have q3:=d.r3;have qf:=d.rf;have hsz:=d.lt;have Fu:=di KA;obtain⟨c,hNM⟩:=aJ a.length;have R:=di hNM;rw[hNM]at hcap k1 KA;obtain⟨S,hwz,u,y,A,B,H⟩:=nC q0 q1 q2 q3 (.int .u8 (102:Int)) (.slice g c h) (.int .i64 (0:Int)) (.string ⟨#[]⟩);have ZB:=di (H _ _ d.dG ae);have M:Hid (ko S w.heap.size b i (.returned (.tuple #[.agg #[.int .u8 (102:Nat),.slice g c h,.int .i64 (0:Nat),.string ⟨#[]⟩],.int .i64 (t:Nat),.bool false]))):=by show ko _ _ _ _ _;rw[<-R.o];exact ko.no 102 a t g h
     clear H d P hco hNM
     by_cases hlt2:t<N
     ·obtain⟨x,l⟩:∃x,b[t]?=some x:=⟨_,aD (by rw[K.o];exact hlt2)⟩;have hxl:=HL.o x (List.mem_of_getElem? l);have HWT:=di (yx l);obtain⟨g1,o1,f,d1⟩:=HG.o wr Q.o.bx.dG t x l;injection f with f
      injection f with f ho1;subst f ho1;clear l;go_upto_region 22 with fail;go_cut [13] (fun E wx=>(∃I:Bool,E=.bool I/\(I=true->0<x.length))/\wx=wr)
      case first=>
       exact alm
      case rest=>
       obtain⟨⟨I,rfl,hlb⟩,J⟩:=hcut;have hwc':=J.symm;subst hwc';have Dm:=di hlb;clear hlb J
       go_upto_if 109 with fail
       go_cut [12] (fun E wx=>(∃m:List UInt8,E=.string ⟨m.toArray⟩/\m.length<=x.length)/\wx=wr)
       case first=>
        cases I
        ·go_wp2_with fail;go_meet
         case rel=>exact⟨⟨x,rfl,ae⟩,rfl⟩
        ·exact alX
       case rest=>
        obtain⟨⟨m,rfl,We⟩,J⟩:=hcut;have hwc':=J.symm;subst hwc';clear J d1;have HI2:=di (fun W=>HIS.o m W aO);have T:=di (yn (l:=m));have U:Hid (dn.Is m=true->∃z:Int,m=dn.dec z):=fun j=>dn.qi j;obtain⟨mb,hmb⟩:=aJ (dn.Is m);rw[hmb]at HI2 T U;clear hmb;go_wp2_with fail;refine(HI2.o _).mono ?_;rintro s w2 ⟨rfl,hw2⟩;have zI:=hw2.symm;subst zI;clear hw2;cases mb
        ·exact ali
        ·have hm0:0<m.length:=akG;obtain⟨z,hz⟩:∃z:Int,m=dn.dec z:=akF;have Um:=di hz;have aec:(0:Int)<(m.length:Int):=aO;clear hz
         by_cases h45:(m[0]'hm0).toNat=45
         ·have t45:(((m[0]'hm0).toNat:Int)==45)=true:=bz;clear h45;exact ali
         ·have t45:(((m[0]'hm0).toNat:Int)==45)=false:=aj aO;clear h45;have V:=Q.o.own;rw[R.o]at V;have HOWN:=di V;have r:Hid (w.heap.size+1<wr.heap.size):=Q.o.bx.lt;have hnb:∀q,(Value.slice g c h).ownBlock=some q->w.heap.size+2<=q:=fun q p=>(V.lt q p).1;have ku:=di hnb;have nW:=di k1;have rD:=di kf;have wI:Hid ((.string ⟨m.toArray⟩:Value)=str z):=by show _=_;rw[Um.o];rfl
          have HLEN:Hid (fI (a++[z])+wc (b.take (i+1))<=wc (b.take (t+1))):=by
           exact alS
          have X:Hid ((a++[z]).length=c+1):=by show _=_;rw[List.length_append,R.o];rfl
          clear V hnb u y A B hwz;cases I
          all_goals
           go_wp2_with (at_builtin;refine dD rfl (.tmp 127) (.tmp 129) 45 rfl (w.heap.size+2) 9 i0 (.string ⟨#[]⟩) 1 16 Tryz.underlying45 hi0 hz0 hz1 hz2 rfl aR (.slice g c h) c (a.map str) rfl aid ⟨wr.heap.size,0,none⟩ 1 [.string ⟨m.toArray⟩] rfl rfl bM bX aX aO aii ?_;intro C D O hown' Y f n;have y1:O.cell? ⟨w.heap.size+1,1,none⟩=some (.slice g c h):=((dP Y (a:=⟨w.heap.size+1,1,none⟩) aii (fun s=>aiB)).trans (dC wr _ _ r.o)).trans nW.o;have k:O.frozen? ⟨w.heap.size+1,1,none⟩=false:=((dS Y (a:=⟨w.heap.size+1,1,none⟩) aii (fun s=>aiB)).trans (dI wr _ _ r.o)).trans (rD.o 1);obtain⟨w5,jR⟩:∃w5,O.setCell ⟨w.heap.size+1,1,none⟩ (.slice (some ⟨C,0,none⟩) (c+1) D)=w5:=⟨_,rfl⟩;have hap:=fE (eb:=w.heap.size+1) (f:=1) aO (HOWN.o.alloc _) aii ((dC wr _ _ r.o).trans nW.o) hown' Y n;rw[wI.o,jR]at hap;have Z:Hid (wG w w5 102 (.slice (some ⟨C,0,none⟩) (c+1) D) (a++[z])):=Q.o.app (z:=z) _ (by rw[R.o];exact hap);have e:=Z.o.bx;have p0:=e.c0;have p1:=e.c1;have p2:=e.c2;have p3:=e.c3;have pf:=e.cf;have s0:=e.r0;have s1:=e.r1;have s2:=e.r2;have s3:=e.r3;have sf:=e.rf;obtain⟨S,hwz,u,y,A,B,H⟩:=nC s0 s1 s2 s3 (.int .u8 (102:Int)) (.slice (some ⟨C,0,none⟩) (c+1) D) (.int .i64 (0:Int)) (.string ⟨#[]⟩);have ZB2:=di (H _ _ e.dG ae);have Gh:Hid (dV S (.slice (some ⟨C,0,none⟩) (c+1) D) (a++[z])):=Z.o.nums hwz;clear H e hap hown' Y f n)
          ·exact amn
          ·refine bodyPost_ret (v:=.tuple #[.agg #[.int .u8 102,.slice (some ⟨C,0,none⟩) (c+1) D,.int .i64 0,.string ⟨#[]⟩],.int .i64 ((t:Int)+1),.bool true]) bY rfl ⟨?_,ZB2.o⟩;exact alJ
     ·exact ali
   ·by_cases hf2:x=[99]
    ·subst hf2;have HW0:Hid (wc (b.take (i+1))=wc (b.take i)+34):=by show _=_;rw[HW1.o];rfl
     have HST:Hid (wG w ((w.alloc (.cells #[.int .u8 0,.slice none 0 0,.int .i64 0,.string ⟨#[]⟩] 267)).alloc (.cells #[.int .u8 (99:Nat),.slice none 0 0,.int .i64 0,.string ⟨#[]⟩] 267)) 99 (.slice none 0 0) []):=⟨nY.start w (.int .u8 0) (.slice none 0 0) (.int .i64 0) (.string ⟨#[]⟩) (.int .u8 (99:Nat)) (.slice none 0 0) (.int .i64 0) (.string ⟨#[]⟩) _ _,World.ownsRow_nil _ _ _ _⟩
     have L:Hid (∀(a:List Int) (t:Nat) (F:Option Addr) (G:Nat) (W:World),dV W (.slice F a.length G) a->(∀q,(Value.slice F a.length G).ownBlock=some q->w.heap.size<=q)->i<t->t<=N->fI a+wc (b.take (i+1))<=wc (b.take t)->ko W w.heap.size b i (.returned (.tuple #[.agg #[.int .u8 (99:Nat),.slice F a.length G,.int .i64 (0:Nat),.string ⟨#[]⟩],.int .i64 (t:Nat),.bool true]))):=fun a t F G W hnu hbq h1 h2 h3=>by
      refine⟨⟨99,a,0,[]⟩,t,true,F,G,rfl,fun _=>⟨⟨by show 99<256;omega,bV,fun j=>by simp at j⟩,hnu,h1,by rw[K.o];exact h2,?_,hbq⟩⟩;have:=HW0.o;show(fI a+0+30)+_<=_;exact aO
     clear HW1;go_enter Tryz.func235,Tryz.ntmps235;go_wp2_with fail;clear d0
     go_loopw [1] (fun q wr=>∃(t:Nat) (vs:Value) (a:List Int),q=.int .i64 t/\i+1<=t/\t<=N/\wG w wr 99 vs a/\fI a+wc (b.take (i+1))<=wc (b.take t)/\a.length<=t) (fun q _=>N-(intOf q).toNat)
     case atStart=>exact⟨i+1,.slice none 0 0,[],bJ,aO,aO,by first|exact HST.o|exact HST.o.1,by show 0+_<=_;omega,aP⟩
     case round=>
      obtain⟨t,vs,a,rfl,hit,G6,P,hco,KA⟩:=hrel;have Q:=di P;have Oo:=di hco;have d:=P.bx;obtain⟨g,h,rfl,hcap,hmax,_⟩:=dQ P.own;have k0:=d.c0;have k1:=d.c1;have k2:=d.c2;have k3:=d.c3;have kf:=d.cf;have q0:=d.r0;have q1:=d.r1;have q2:=d.r2;have q3:=d.r3;have qf:=d.rf;have hsz:=d.lt;have Fu:=di KA;obtain⟨c,hNM⟩:=aJ a.length;have R:=di hNM;rw[hNM]at hcap k1 KA;obtain⟨S,hwz,u,y,A,B,H⟩:=nC q0 q1 q2 q3 (.int .u8 (99:Int)) (.slice g c h) (.int .i64 (0:Int)) (.string ⟨#[]⟩);have ZB:=di (H _ _ d.dG ae);have M:Hid (ko S w.heap.size b i (.returned (.tuple #[.agg #[.int .u8 (99:Nat),.slice g c h,.int .i64 (0:Nat),.string ⟨#[]⟩],.int .i64 (t:Nat),.bool false]))):=by show ko _ _ _ _ _;rw[<-R.o];exact ko.no 99 a t g h
      clear H d P hco hNM
      by_cases hlt2:t<N
      ·obtain⟨x,l⟩:∃x,b[t]?=some x:=⟨_,aD (by rw[K.o];exact hlt2)⟩;have hxl:=HL.o x (List.mem_of_getElem? l);have HWT:=di (yx l);obtain⟨g1,o1,f,d1⟩:=HG.o wr Q.o.bx.dG t x l;injection f with f
       injection f with f ho1;subst f ho1;clear l;go_upto_region 22 with fail;go_cut [13] (fun E wx=>(∃I:Bool,E=.bool I/\(I=true->0<x.length))/\wx=wr)
       case first=>
        exact alm
       case rest=>
        obtain⟨⟨I,rfl,hlb⟩,J⟩:=hcut;have hwc':=J.symm;subst hwc';have Dm:=di hlb;clear hlb J
        go_upto_if 109 with fail
        go_cut [12] (fun E wx=>(∃m:List UInt8,E=.string ⟨m.toArray⟩/\m.length<=x.length)/\wx=wr)
        case first=>
         cases I
         ·go_wp2_with fail;go_meet
          case rel=>exact⟨⟨x,rfl,ae⟩,rfl⟩
         ·exact alX
        case rest=>
         obtain⟨⟨m,rfl,We⟩,J⟩:=hcut;have hwc':=J.symm;subst hwc';clear J d1;have HI2:=di (fun W=>HIS.o m W aO);have T:=di (yn (l:=m));have U:Hid (dn.Is m=true->∃z:Int,m=dn.dec z):=fun j=>dn.qi j;obtain⟨mb,hmb⟩:=aJ (dn.Is m);rw[hmb]at HI2 T U;clear hmb;go_wp2_with fail;refine(HI2.o _).mono ?_;rintro s w2 ⟨rfl,hw2⟩;have zI:=hw2.symm;subst zI;clear hw2;cases mb
         ·exact alj
         ·have hm0:0<m.length:=akG;obtain⟨z,hz⟩:∃z:Int,m=dn.dec z:=akF;have Um:=di hz;have aec:(0:Int)<(m.length:Int):=aO;clear hz
          by_cases h45:(m[0]'hm0).toNat=45
          ·have t45:(((m[0]'hm0).toNat:Int)==45)=true:=bz;clear h45;exact alj
          ·have t45:(((m[0]'hm0).toNat:Int)==45)=false:=aj aO;clear h45;have V:=Q.o.own;rw[R.o]at V;have HOWN:=di V;have r:Hid (w.heap.size+1<wr.heap.size):=Q.o.bx.lt;have hnb:∀q,(Value.slice g c h).ownBlock=some q->w.heap.size+2<=q:=fun q p=>(V.lt q p).1;have ku:=di hnb;have nW:=di k1;have rD:=di kf;have wI:Hid ((.string ⟨m.toArray⟩:Value)=str z):=by show _=_;rw[Um.o];rfl
           have HLEN:Hid (fI (a++[z])+wc (b.take (i+1))<=wc (b.take (t+1))):=by
            exact alS
           have X:Hid ((a++[z]).length=c+1):=by show _=_;rw[List.length_append,R.o];rfl
           clear V hnb u y A B hwz;cases I
           all_goals
            go_wp2_with (at_builtin;refine dD rfl (.tmp 127) (.tmp 129) 45 rfl (w.heap.size+2) 9 i0 (.string ⟨#[]⟩) 1 16 Tryz.underlying45 hi0 hz0 hz1 hz2 rfl aR (.slice g c h) c (a.map str) rfl aid ⟨wr.heap.size,0,none⟩ 1 [.string ⟨m.toArray⟩] rfl rfl bM bX aX aO aii ?_;intro C D O hown' Y f n;have y1:O.cell? ⟨w.heap.size+1,1,none⟩=some (.slice g c h):=((dP Y (a:=⟨w.heap.size+1,1,none⟩) aii (fun s=>aiB)).trans (dC wr _ _ r.o)).trans nW.o;have k:O.frozen? ⟨w.heap.size+1,1,none⟩=false:=((dS Y (a:=⟨w.heap.size+1,1,none⟩) aii (fun s=>aiB)).trans (dI wr _ _ r.o)).trans (rD.o 1);obtain⟨w5,jR⟩:∃w5,O.setCell ⟨w.heap.size+1,1,none⟩ (.slice (some ⟨C,0,none⟩) (c+1) D)=w5:=⟨_,rfl⟩;have hap:=fE (eb:=w.heap.size+1) (f:=1) aO (HOWN.o.alloc _) aii ((dC wr _ _ r.o).trans nW.o) hown' Y n;rw[wI.o,jR]at hap;have Z:Hid (wG w w5 99 (.slice (some ⟨C,0,none⟩) (c+1) D) (a++[z])):=Q.o.app (z:=z) _ (by rw[R.o];exact hap);have e:=Z.o.bx;have p0:=e.c0;have p1:=e.c1;have p2:=e.c2;have p3:=e.c3;have pf:=e.cf;have s0:=e.r0;have s1:=e.r1;have s2:=e.r2;have s3:=e.r3;have sf:=e.rf;obtain⟨S,hwz,u,y,A,B,H⟩:=nC s0 s1 s2 s3 (.int .u8 (99:Int)) (.slice (some ⟨C,0,none⟩) (c+1) D) (.int .i64 (0:Int)) (.string ⟨#[]⟩);have ZB2:=di (H _ _ e.dG ae);have Gh:Hid (dV S (.slice (some ⟨C,0,none⟩) (c+1) D) (a++[z])):=Z.o.nums hwz;clear H e hap hown' Y f n)
           ·exact amn
           ·refine bodyPost_ret (v:=.tuple #[.agg #[.int .u8 99,.slice (some ⟨C,0,none⟩) (c+1) D,.int .i64 0,.string ⟨#[]⟩],.int .i64 ((t:Int)+1),.bool true]) bY rfl ⟨?_,ZB2.o⟩;exact alJ
      ·exact alj
    ·by_cases hg:x=[102,59]
     ·subst hg
      have L:Hid (∀W,ko W w.heap.size b i (.returned (.tuple #[.agg #[.int .u8 (102:Nat),.slice none 0 0,.int .i64 (0:Nat),.string ⟨#[]⟩],.int .i64 (i+1:Nat),.bool true]))):=fun W=>by
       refine⟨⟨102,[],0,[]⟩,i+1,true,none,0,rfl,fun _=>⟨⟨by show 102<256;omega,bV,fun j=>by simp at j⟩,⟨none,0,rfl,ae,aX,fun bB hj=>by simp at hj⟩,aO,aj8,?_,fun q p=>aku⟩⟩;have:=HW1.o;show(fI []+0+30)+_<=_;have h0:fI []=0:=rfl;exact aO
      have oL:=di (nY.start w (.int .u8 102) (.slice none 0 0) (.int .i64 0) (.string ⟨#[]⟩) (.int .u8 102) (.slice none 0 0) (.int .i64 0) (.string ⟨#[]⟩) 267 267).dG;go_enter Tryz.func235,Tryz.ntmps235;go_wp2_with fail;exact bodyPost_ret (v:=.tuple #[.agg #[.int .u8 102,.slice none 0 0,.int .i64 0,.string ⟨#[]⟩],.int .i64 ((i:Int)+1),.bool true]) cZ rfl ⟨L.o _,oL.o⟩
     ·by_cases n:x=[99,59]
      ·subst n
       have L:Hid (∀W,ko W w.heap.size b i (.returned (.tuple #[.agg #[.int .u8 (99:Nat),.slice none 0 0,.int .i64 (0:Nat),.string ⟨#[]⟩],.int .i64 (i+1:Nat),.bool true]))):=fun W=>by
        refine⟨⟨99,[],0,[]⟩,i+1,true,none,0,rfl,fun _=>⟨⟨by show 99<256;omega,bV,fun j=>by simp at j⟩,⟨none,0,rfl,ae,aX,fun bB hj=>by simp at hj⟩,aO,aj8,?_,fun q p=>aku⟩⟩;have:=HW1.o;show(fI []+0+30)+_<=_;have h0:fI []=0:=rfl;exact aO
       have oL:=di (nY.start w (.int .u8 99) (.slice none 0 0) (.int .i64 0) (.string ⟨#[]⟩) (.int .u8 99) (.slice none 0 0) (.int .i64 0) (.string ⟨#[]⟩) 267 267).dG;go_enter Tryz.func235,Tryz.ntmps235;go_wp2_with fail;exact bodyPost_ret (v:=.tuple #[.agg #[.int .u8 99,.slice none 0 0,.int .i64 0,.string ⟨#[]⟩],.int .i64 ((i:Int)+1),.bool true]) cZ rfl ⟨L.o _,oL.o⟩
      ·have n1:(x==[115])=false:=aj hs;have n2:(x==[102])=false:=aj hf;have n3:(x==[99])=false:=aj hf2;have n4:(x==[102,59])=false:=aj hg;have n5:(x==[99,59])=false:=aj n;clear hs hf hf2 hg n;exact ala
 ·have hge:(N:Int)<=(i:Int):=aO;exact ala
theorem Tryz.VV:(Tryz.prog.info? 267).map (fun i=>(i.zero,i.size,i.bytes))=some (some (.agg #[.int .u8 0,.slice none 0 0,.int .i64 0,.string ⟨#[]⟩]),4,56):=bL
theorem Db (w:World)(a:List Value)(b:TypeId)(n:Nat)(c:n=w.heap.size):∀j u,a[j]?=some u->(w.alloc (.cells a.toArray b)).cell? ((⟨n,0,none⟩:Addr).add j)=some u:=by
 subst c;intro j u h;have d:=heap_alloc_new w (.cells a.toArray b);have e:(⟨w.heap.size,0,none⟩:Addr).add j=⟨w.heap.size,j,none⟩:=ajT;rw[e,cell_of_row _ w.heap.size j a.toArray b (0,0) d];exact ajq
def yE (w:World)(base:Nat)(c:List Value)(d:Nd):Prop:=∃a cp,c=[.int .u8 d.kind,.slice a d.mult.length cp,.int .i64 d.var,.string ⟨d.num.toArray⟩]/\dV w (.slice a d.mult.length cp) d.mult/\∀q,(Value.slice a d.mult.length cp).ownBlock=some q->base<=q
theorem yE.below {d:Nd}(h:yE w n b d)(a:Below w.heap.size w W):yE W n b d:=by
 obtain⟨c,e,f,g,i⟩:=h;exact⟨c,e,f,g.below a,i⟩
structure sJ (w wr:World)(v:Value)(ds:List Nd):Prop where
 row:∃xs:List (List Value),wr.ownsRow w.heap.size 267 4 v ds.length xs.flatten/\fO (yE wr w.heap.size) xs ds/\∀x∈xs,x.length=4
 nil:ds=[]->v=.slice none 0 0
 dG:Below w.heap.size w wr
theorem sJ.below {wr:World}{b:List Nd}(h:sJ w wr v b)(a:Below wr.heap.size wr W):sJ w W v b:=by
 obtain⟨c,d,e,f⟩:=h.row;exact⟨⟨c,ownsRow_below d a,e.imp (fun i j g=>g.below a),f⟩,h.nil,h.dG.trans (a.mono h.dG.size)⟩
theorem dV.nil (w:World)(a:Option Addr)(c:Nat)(b:c<=maxLen):dV w (.slice a 0 c) []:=⟨a,c,rfl,Nat.zero_le _,b,fun i hi=>by simp at hi⟩
theorem yE.grown {a:List Nd}{f:List (List Value)}(t:w.ownsRow n 267 4 v a.length f.flatten)(k:fO (yE w n) f a)(u:a=[]->v=.slice none 0 0)(x:w.grownBy W v.ownBlock){l:List Value}{m:Nd}(h:yE w n l m):yE W n l m:=by
 obtain⟨y,z,A,i,B⟩:=h;refine⟨y,z,A,?_,B⟩;obtain⟨C,D,E,F,G,o⟩:=i;refine⟨C,D,E,F,G,fun p hi=>?_⟩;obtain⟨g,q,H⟩:=o p hi;refine⟨g,q,fun I=>?_⟩;have r:=H I;rw[dP x (a:=⟨g,p,none⟩) (ai r) (fun J=>?_)]
 ·exact r
 ·have c:some g=v.ownBlock:=J;have X:=k.len;obtain⟨K,s,L⟩:=o 0 aO;have j:=L aO;have M:g=K:=by rw[q]at s;injection s with h;injection h
  subst M;cases a with
  | nil=>
   rw[u rfl]at c;simp[Value.ownBlock]at c
  | cons d a=>
   cases k with
   | @cons Y _ f _ N _=>
    obtain⟨Z,cp2,i,_⟩:=N;subst i;rcases t.2 with ⟨_,O⟩|⟨P,abZ,b,Q,_,R,q1,q2,q3,S⟩
    ·simp at O
    ·rw[Q]at c;have:g=P:=aj4;subst this;have T:w.cell? ⟨g,0,none⟩=b[0]?:=cell_of_row w g 0 b 267 (0,0) R
     have U:b.toList[0]?=some (.int .u8 d.kind):=by
      have e:(b.toList.take ((d::a).length*4))[0]?=some (.int .u8 d.kind):=by rw[S];rfl
      rw[List.getElem?_take]at e;split at e
      ·exact e
      ·cases e
     rw[T]at j;have V:b[0]?=some (.int .u8 d.kind):=by simpa using U
     rw[V]at j;cases j
theorem sJ.app {wr:World}{a:List Nd}{e:Nd}{X:Obj}{g cap:Nat}{d:List (List Value)}(c:wr.ownsRow w.heap.size 267 4 v a.length d.flatten/\fO (yE wr w.heap.size) d a/\∀x∈d,x.length=4)(l:a=[]->v=.slice none 0 0)(h:Below w.heap.size w wr)(o:yE wr w.heap.size b e)(p:b.length=4)
 (q:W.ownsRow w.heap.size 267 4 (.slice (some ⟨g,0,none⟩) (a.length+1) cap) (a.length+1) (d.flatten++b)) (i:(wr.alloc X).grownBy W v.ownBlock):sJ w W (.slice (some ⟨g,0,none⟩) (a.length+1) cap) (a++[e]):=by
 obtain⟨m,r,s⟩:=c;have f:Below wr.heap.size wr (wr.alloc X):=af.alloc ae X;have n:=ownsRow_below m f;have j:fO (yE (wr.alloc X) w.heap.size) d a:=r.imp (fun b e k=>k.below f);have t:w.heap.size<=(wr.alloc X).heap.size:=Nat.le_trans h.size f.size;refine⟨⟨d++[b],?_,?_,?_⟩,fun u=>by simp at u,(h.alloc h.size X).grown i t (fun y z=>(m.lt y z).1)⟩
 ·rw[List.length_append];simpa using q
 ·exact(j.imp (fun b e k=>k.grown n j l i)).app (.cons ((o.below f).grown n j l i) .nil)
 ·intro x c;rcases List.mem_append.1 c with c|c
  ·exact s x c
  ·rw[List.mem_singleton.1 c];exact p
def yV (wr:World)(base:Nat)(v:Value)(ds:List Nd):Prop:=∃xs:List (List Value),wr.ownsRow base 267 4 v ds.length xs.flatten/\fO (yE wr base) xs ds/\∀x∈xs,x.length=4
theorem yV.below {wr:World}{a:List Nd}(h:yV wr n v a)(b:Below wr.heap.size wr w):yV w n v a:=by
 obtain⟨c,d,e,f⟩:=h;exact⟨c,ownsRow_below d b,e.imp (fun i j g=>g.below b),f⟩
theorem yV.set {wr:World}{a:List Nd}(h:yV wr n v a){c:Addr}(e:c.block<n)(u:Value):yV (wr.setCell c u) n v a:=by
 obtain⟨f,g,i,j⟩:=h;refine⟨f,ownsRow_setCell_below g e u,i.imp (fun q r k=>?_),j⟩;obtain⟨b,l,m,o,d⟩:=k;exact⟨b,l,m,o.set (fun p=>by have:=d _ p;omega) u,d⟩
theorem yV.nodes {wr:World}{c:List Nd}(h:yV wr n v c):lM wr v c:=by
 obtain⟨s,i,d,j⟩:=h;have e:=d.len;refine fA.imp' (Row.dW i e.symm j).sl e fun t k hi l m=>?_;have a:=l hi;obtain⟨o,p,q,f,_⟩:=d.get k hi m;rw[q]at a;obtain⟨u,w,b,r,g,x⟩:=id f;injection b with _ _ b
 subst b;unfold maxLen at g;exact⟨a 0 aO _ rfl,⟨o,p,a 1 aO _ rfl,r,g,f⟩,a 2 aO _ rfl,a 3 aO _ rfl⟩
def I4 (w':World)(base:Nat)(ws:List (List UInt8))(e:Ending):Prop:=∃(a:Option Addr) (n c:Nat) (b:Bool),e=.returned (.tuple #[.slice a n c,.bool b])/\(b=true->∃ds:List Nd,ds.length=n/\yV w' base (.slice a n c) ds/\(∀d∈ds,BM d)/\fC ds<=wc ws/\ds.length<=ws.length)
theorem I4.no {d:List (List UInt8)}(a:Option Addr)(b c:Nat):I4 w n d (.returned (.tuple #[.slice a b c,.bool false])):=⟨a,b,c,false,rfl,aP⟩
theorem Gs (R:Option Addr)(D N:Nat)(t:List (List UInt8))(w:World)(hws:EW w R t)(T:t.length=N)(hc:N<=D/\D<=2 ^ 63-1)(hn:N<=500000)(hl:∀bC∈t,bC.length<=1000000000) :
 Calls Tryz.prog 194 #[.slice R N D] w fun s E=>I4 E w.heap.size t s/\Below w.heap.size w E:=by
 obtain⟨U,V,X,Y,Z⟩:=info_parts Tryz.VV;have ado:Hid (∀o,o<=500000->∀W,Below w.heap.size w W->Calls Tryz.prog 235 #[.slice R N D,.int .i64 (o:Nat)] W fun s E=>ko E W.heap.size t o s/\Below W.heap.size W E):=fun o hi W hW=>Vx R D N o t W (hws.below hW) T hc aO aO hl;have HN:=di T;have ry:Hid (sJ w w (.slice none 0 0) []):=⟨⟨[],World.ownsRow_nil _ _ _ _,.nil,aP⟩,fun _=>rfl,af⟩;clear hws T hl;go_enter Tryz.func194,Tryz.ntmps194;go_wp2_with fail
 go_loopw [4,5,6] (fun bB bg bn wr=>∃(p:Option Addr) (n m u o:Nat) (b:List Nd),bB=.slice p n m/\n=b.length/\bg=.int .i64 u/\bn=.int .i64 o/\o<=N/\u<=o+1/\sJ w wr bB b/\(∀d∈b,BM d)/\fC b<=wc (t.take o)/\b.length<=o/\n<=m/\m<=2 ^ 63-1) (fun _ _ bn _=>N+1-(intOf bn).toNat)
 case atStart=>exact⟨none,0,0,1,0,[],rfl,rfl,rfl,rfl,aO,aO,ry.o,aP,by show 0<=_;omega,aP,aO,aO⟩
 case round=>
  obtain⟨p,n,m,u,o,b,rfl,hnd,rfl,rfl,hi,hwn,F,hok,hco,hdl,hc1',hc2'⟩:=hrel;have HST:=di F;have rz:=di hok;have Oo:=di hco;have v:=di hnd;have Uz:=di hdl;have hn5:n<=500000:=aO;clear hok hco
  by_cases hw0:u=0
  ·have t0:¬((0:Int)<(u:Int)):=aO;have G:Hid (∀j:Bool,I4 wr w.heap.size t (.returned (.tuple #[.slice p n m,.bool j]))):=fun j=>⟨p,n,m,j,rfl,fun _=>⟨b,v.o.symm,HST.o.row,rz.o,Nat.le_trans Oo.o (XY _ _),aiC⟩⟩;have HB:=di F.dG;clear F hnd hdl;go_wp2_with fail;go_ret2;exact⟨G.o _,HB.o⟩
  ·have t0:(0:Int)<(u:Int):=aO;have HC:=di (ado.o o aO wr F.dG);clear F hnd hdl;go_wp2_with fail;refine HC.o.mono ?_;rintro s c ⟨⟨d,z,j,k,l,rfl,hd⟩,hb2⟩;have HD:=di hd;have B:=di (HST.o.below hb2);clear hd hb2;cases j
   ·have HB:=di (B.o.dG.alloc B.o.dG.size (.cells #[.int .u8 d.kind,.slice k d.mult.length l,.int .i64 d.var,.string ⟨d.num.toArray⟩] 267));go_wp2_with fail;go_ret2;exact⟨.no _ _ _,HB.o⟩
   ·obtain⟨hdo,hdn,hj1,hj2,yR,hdq⟩:=HD.o rfl;have HDO:=di hdo;have Zc:=di yR;have hjN:z<=N:=by rw[<-HN.o];exact hj2
    have H:Hid (sJ w (c.alloc (.cells #[.int .u8 d.kind,.slice k d.mult.length l,.int .i64 d.var,.string ⟨d.num.toArray⟩] 267)) (.slice p n m) b):=B.o.below ag;have XE:Hid (yE (c.alloc (.cells #[.int .u8 d.kind,.slice k d.mult.length l,.int .i64 d.var,.string ⟨d.num.toArray⟩] 267)) w.heap.size [.int .u8 d.kind,.slice k d.mult.length l,.int .i64 d.var,.string ⟨d.num.toArray⟩] d):=⟨k,l,rfl,hdn.below ag,fun bg hq=>Nat.le_trans HST.o.dG.size (hdq bg hq)⟩;obtain⟨I,S,hx2,hx3⟩:=H.o.row;rw[<-v.o]at S;have J:=di S;have HX:=di (show _/\_/\_ from⟨(by rw[<-v.o];exact S:(c.alloc (.cells #[.int .u8 d.kind,.slice k d.mult.length l,.int .i64 d.var,.string ⟨d.num.toArray⟩] 267)).ownsRow w.heap.size 267 4 (.slice p n m) b.length I.flatten),hx2,hx3⟩);have hs2:=B.o.dG.size
    have ae0:Hid (∀j,(Value.slice p n m).ownBlock=some j->j<c.heap.size):=fun j hb=>by
     obtain⟨ys,hy1,_⟩:=B.o.row;exact(hy1.lt j hb).2
    have XP:Hid (fC (b++[d])<=wc (t.take z)):=by
     show _<=_;have e1:fC (b++[d])=fC b+El d:=by unfold fC;rw[List.map_append,List.sum_append];simp
     have e2:=Oo.o;have e3:=Zc.o;exact aO
    have XC:Hid (∀bq∈b++[d],BM bq):=fun bq K=>by
     rcases List.mem_append.1 K with K|K
     ·exact rz.o bq K
     ·rw[List.mem_singleton.1 K];exact HDO.o
    have HKK:=di hdo.1;obtain⟨a,x,f,g⟩:=d;simp only at H XE J HX HKK;clear hdo hdn yR hdq S hx2 hx3 hj2 B;obtain⟨y,hNM⟩:=aJ x.length;rw[hNM]at H XE J HX ⊢;clear hNM
    have lF:Hid (∀L∈[Value.int .u8 (a:Int),.slice k y l,.int .i64 (f:Int),.string ⟨g.toArray⟩],L.oneCell'=true):=by
     intro L hu;simp only[List.mem_cons,List.not_mem_nil,or_false]at hu;rcases hu with rfl|rfl|rfl|rfl<;>rfl
    have lQ:Hid (∀(W:World) (n:Nat),n=W.heap.size->∀z L,[Value.int .u8 (a:Int),.slice k y l,.int .i64 (f:Int),.string ⟨g.toArray⟩][z]?=some L->(W.alloc (.cells #[.int .u8 (a:Int),.slice k y l,.int .i64 (f:Int),.string ⟨g.toArray⟩] 267)).cell? ((⟨n,0,none⟩:Addr).add z)=some L):=fun W n hn=>Db W [.int .u8 (a:Int),.slice k y l,.int .i64 (f:Int),.string ⟨g.toArray⟩] _ n hn;have HVB:Hid (∀j,(Value.slice p n m).ownBlock=some j->j<c.heap.size):=fun j hb=>ae0.o j hb
    have G:Hid (∀h e (i:World) (bA:Obj),i.ownsRow w.heap.size 267 4 (.slice (some ⟨h,0,none⟩) (n+1) e) (n+1) (I.flatten++[.int .u8 (a:Int),.slice k y l,.int .i64 (f:Int),.string ⟨g.toArray⟩])->((c.alloc (.cells #[.int .u8 (a:Int),.slice k y l,.int .i64 (f:Int),.string ⟨g.toArray⟩] 267)).alloc bA).grownBy i (Value.slice p n m).ownBlock->sJ w i (.slice (some ⟨h,0,none⟩) (n+1) e) (b++[⟨a,x,f,g⟩])):=fun h e i bA h1 h2=>by
     have h3:=sJ.app (X:=bA) (g:=h) (cap:=e) HX.o H.o.nil H.o.dG XE.o rfl (by rw[<-v.o];exact h1) h2;rw[<-v.o]at h3;exact h3
    have HCAP:Hid (∀h e (i:World) (ys:List Value),i.ownsRow w.heap.size 267 4 (.slice (some ⟨h,0,none⟩) (n+1) e) (n+1) ys->n+1<=e/\e<=2 ^ 63-1):=fun h e i ys bF=>by
     rcases bF.2 with ⟨M,_⟩|⟨bG,cap,cur,M,_,_,q1,q2,_⟩
     ·cases M
     ·injection M with _ _ M;subst M;unfold maxLen at q2;exact⟨q1,q2⟩
    have C:Hid ((b++[(⟨a,x,f,g⟩:Nd)]).length=n+1):=by show _=_;rw[List.length_append,<-v.o];rfl
    by_cases hf:a=102
    ·have tf:((a:Int)==102)=true:=bz;have ts:((a:Int)==115)=false:=aj aO;clear hf;go_wp2_with (at_builtin;refine dD rfl (.tmp 21) (.tmp 23) 162 rfl w.heap.size 267 U (.agg #[.int .u8 0,.slice none 0 0,.int .i64 0,.string ⟨#[]⟩]) 4 56 Tryz.underlying162 V X Y Z rfl aR (.slice p n m) n I.flatten rfl (by exact J.o.alloc _) ⟨c.heap.size+1,0,none⟩ 1 [.int .u8 (a:Int),.slice k y l,.int .i64 (f:Int),.string ⟨g.toArray⟩] rfl rfl (by exact lQ.o _ _ aP) lF.o aX aO aQ ?_;intro h e i q r O P;have b0:i.cell? ⟨c.heap.size,0,none⟩=some (.int .u8 (a:Int)):=(dP r (a:=⟨c.heap.size,0,none⟩) aQ (fun s=>aiM)).trans aP;have Q:Hid (sJ w i (.slice (some ⟨h,0,none⟩) (n+1) e) (b++[⟨a,x,f,g⟩])):=G.o _ _ _ _ q r;have A:=HCAP.o _ _ _ _ q;clear q r O P);go_roundw
     case rel=>exact⟨some ⟨h,0,none⟩,n+1,e,u-1,z,b++[⟨a,x,f,g⟩],rfl,C.o.symm,bJ,rfl,hjN,aO,Q.o,XC.o,XP.o,ajG,A.1,A.2⟩
     case measure=>exact akL
    ·have tf:((a:Int)==102)=false:=aj aO;clear hf
     by_cases hs:a=115
     ·have ts:((a:Int)==115)=true:=bz;clear hs;go_wp2_with (at_builtin;refine dD rfl (.tmp 21) (.tmp 23) 162 rfl w.heap.size 267 U (.agg #[.int .u8 0,.slice none 0 0,.int .i64 0,.string ⟨#[]⟩]) 4 56 Tryz.underlying162 V X Y Z rfl aR (.slice p n m) n I.flatten rfl (by exact J.o.alloc _) ⟨c.heap.size+1,0,none⟩ 1 [.int .u8 (a:Int),.slice k y l,.int .i64 (f:Int),.string ⟨g.toArray⟩] rfl rfl (by exact lQ.o _ _ aP) lF.o aX aO aQ ?_;intro h e i q r O P;have b0:i.cell? ⟨c.heap.size,0,none⟩=some (.int .u8 (a:Int)):=(dP r (a:=⟨c.heap.size,0,none⟩) aQ (fun s=>aiM)).trans aP;have Q:Hid (sJ w i (.slice (some ⟨h,0,none⟩) (n+1) e) (b++[⟨a,x,f,g⟩])):=G.o _ _ _ _ q r;have A:=HCAP.o _ _ _ _ q;clear q r O P);go_roundw
      case rel=>exact⟨some ⟨h,0,none⟩,n+1,e,u+1,z,b++[⟨a,x,f,g⟩],rfl,C.o.symm,bJ,rfl,hjN,aO,Q.o,XC.o,XP.o,ajG,A.1,A.2⟩
      case measure=>exact akL
     ·have ts:((a:Int)==115)=false:=aj aO;clear hs;go_wp2_with (at_builtin;refine dD rfl (.tmp 21) (.tmp 23) 162 rfl w.heap.size 267 U (.agg #[.int .u8 0,.slice none 0 0,.int .i64 0,.string ⟨#[]⟩]) 4 56 Tryz.underlying162 V X Y Z rfl aR (.slice p n m) n I.flatten rfl (by exact J.o.alloc _) ⟨c.heap.size+1,0,none⟩ 1 [.int .u8 (a:Int),.slice k y l,.int .i64 (f:Int),.string ⟨g.toArray⟩] rfl rfl (by exact lQ.o _ _ aP) lF.o aX aO aQ ?_;intro h e i q r O P;have b0:i.cell? ⟨c.heap.size,0,none⟩=some (.int .u8 (a:Int)):=(dP r (a:=⟨c.heap.size,0,none⟩) aQ (fun s=>aiM)).trans aP;have Q:Hid (sJ w i (.slice (some ⟨h,0,none⟩) (n+1) e) (b++[⟨a,x,f,g⟩])):=G.o _ _ _ _ q r;have A:=HCAP.o _ _ _ _ q;clear q r O P);go_roundw
      case rel=>exact⟨some ⟨h,0,none⟩,n+1,e,u,z,b++[⟨a,x,f,g⟩],rfl,C.o.symm,bJ,rfl,hjN,aO,Q.o,XC.o,XP.o,ajG,A.1,A.2⟩
      case measure=>exact akL
theorem dR {u0 u1 u2 u3 u4:Value}(m:w.cell? ⟨n,0,none⟩=some u0)(o:w.cell? ⟨n,1,none⟩=some u1)(p:w.cell? ⟨n,2,none⟩=some u2)(q:w.cell? ⟨n,3,none⟩=some u3)(r:w.cell? ⟨n,4,none⟩=some u4)(h i j k l:Value) :
 ∃b,((((w.setCell ⟨n,0,none⟩ h).setCell ⟨n,1,none⟩ i).setCell ⟨n,2,none⟩ j).setCell ⟨n,3,none⟩ k).setCell ⟨n,4,none⟩ l=b/\b.cell? ⟨n,0,none⟩=some h/\b.cell? ⟨n,1,none⟩=some i/\b.cell? ⟨n,2,none⟩=some j/\b.cell? ⟨n,3,none⟩=some k/\b.cell? ⟨n,4,none⟩=some l/\(∀f K,Below K f w->K<=n->Below K f b)/\(∀c,c≠n->b.heap[c]?=w.heap[c]?):=by
 have a:∀(g c:Nat),g≠c->(⟨n,g,none⟩:Addr)≠⟨n,c,none⟩:=fun g c s t=>s (by injection t);refine⟨_,rfl,?_,?_,?_,?_,?_,fun f K d e=>((((d.setCell e _).setCell e _).setCell e _).setCell e _).setCell e _,fun c d=>?_⟩
 ·rw[ak (a 4 0 aO),ak (a 3 0 aO),ak (a 2 0 aO),ak (a 1 0 aO)];exact World.cell?_setCell_same _ _ _ m
 ·rw[ak (a 4 1 aO),ak (a 3 1 aO),ak (a 2 1 aO)];exact World.cell?_setCell_same _ _ _ ((ak (a 0 1 aO)).trans o)
 ·rw[ak (a 4 2 aO),ak (a 3 2 aO)];exact World.cell?_setCell_same _ _ _ ((ak (a 1 2 aO)).trans ((ak (a 0 2 aO)).trans p))
 ·rw[ak (a 4 3 aO)];exact World.cell?_setCell_same _ _ _ ((ak (a 2 3 aO)).trans ((ak (a 1 3 aO)).trans ((ak (a 0 3 aO)).trans q)))
 ·exact World.cell?_setCell_same _ _ _ ((ak (a 3 4 aO)).trans ((ak (a 2 4 aO)).trans ((ak (a 1 4 aO)).trans ((ak (a 0 4 aO)).trans r))))
 ·rw[aC d,aC d,aC d,aC d,aC d]
structure yj (w wx:World)(v0 v1 v2 v3 v4:Value):Prop where
 r0:wx.cell? ⟨w.heap.size,0,none⟩=some (.int .u8 0)
 r1:wx.cell? ⟨w.heap.size,1,none⟩=some (.int .i64 0)
 r2:wx.cell? ⟨w.heap.size,2,none⟩=some (.int .i64 0)
 r3:wx.cell? ⟨w.heap.size,3,none⟩=some (.slice none 0 0)
 r4:wx.cell? ⟨w.heap.size,4,none⟩=some (.slice none 0 0)
 rf:∀o,wx.frozen? ⟨w.heap.size,o,none⟩=false
 c0:wx.cell? ⟨w.heap.size+1,0,none⟩=some v0
 c1:wx.cell? ⟨w.heap.size+1,1,none⟩=some v1
 c2:wx.cell? ⟨w.heap.size+1,2,none⟩=some v2
 c3:wx.cell? ⟨w.heap.size+1,3,none⟩=some v3
 c4:wx.cell? ⟨w.heap.size+1,4,none⟩=some v4
 cf:∀o,wx.frozen? ⟨w.heap.size+1,o,none⟩=false
 dG:Below w.heap.size w wx
 lt:w.heap.size+1<wx.heap.size
theorem yj.below {b c:Value}(h:yj w W v V y b c)(a:Below W.heap.size W u):yj w u v V y b c:=by
 have f:=h.lt;have t:∀{p:Addr} {d:Value},W.cell? p=some d->u.cell? p=some d:=fun e=>(a.cell (ai e)).trans e;exact⟨t h.r0,t h.r1,t h.r2,t h.r3,t h.r4,fun o=>(a.frozen (p:=⟨w.heap.size,o,none⟩) aW).trans (h.rf o),t h.c0,t h.c1,t h.c2,t h.c3,t h.c4,fun o=>(a.frozen (p:=⟨w.heap.size+1,o,none⟩) cK).trans (h.cf o),h.dG.trans (a.mono h.dG.size),Nat.lt_of_lt_of_le f a.size⟩
theorem yj.start (w:World)(a b:TypeId):yj w ((w.alloc (.cells #[.int .u8 0,.int .i64 0,.int .i64 0,.slice none 0 0,.slice none 0 0] a)).alloc (.cells #[.int .u8 0,.int .i64 0,.int .i64 0,.slice none 0 0,.slice none 0 0] b)) (.int .u8 0) (.int .i64 0) (.int .i64 0) (.slice none 0 0) (.slice none 0 0):=
 ⟨aP,aP,aP,aP,aP,fun o=>aP,aP,aP,aP,aP,aP,fun o=>aP,ag.alloc aP _,aP⟩
theorem yj.set {d g:Value}(h:yj w W v V y d g)(f:Nat)(u:Value) :
 yj w (W.setCell ⟨w.heap.size+1,f,none⟩ u) (if f=0 then u else v) (if f=1 then u else V) (if f=2 then u else y) (if f=3 then u else d) (if f=4 then u else g):=by
 have o:∀{q:Nat} {a:Value},W.cell? ⟨w.heap.size,q,none⟩=some a->(W.setCell ⟨w.heap.size+1,f,none⟩ u).cell? ⟨w.heap.size,q,none⟩=some a:=fun b=>(ak (fun e=>by injection e with e _;omega)).trans b
 have s:∀{q:Nat} {a:Value},W.cell? ⟨w.heap.size+1,q,none⟩=some a->(W.setCell ⟨w.heap.size+1,f,none⟩ u).cell? ⟨w.heap.size+1,q,none⟩=some (if f=q then u else a):=fun {q a} b=>by
  exact al8
 exact⟨o h.r0,o h.r1,o h.r2,o h.r3,o h.r4,fun q=>by rw[World.frozen?_setCell];exact h.rf q,s h.c0,s h.c1,s h.c2,s h.c3,s h.c4,fun q=>by rw[World.frozen?_setCell];exact h.cf q,h.dG.setCell ajY _,ajg⟩
structure nU (w w1 wr:World)(v0 v1 v2:Value)(vs:Value)(ls:List Lit):Prop where
 bx:yj w wr v0 v1 v2 vs (.slice none 0 0)
 own:wr.ownsRow w1.heap.size 168 4 vs ls.length (ls.map Lit.cells).flatten
 keep:∀b,b<w1.heap.size->b≠w.heap.size+1->wr.heap[b]?=w1.heap[b]?
 sz:w1.heap.size<=wr.heap.size
 lo:w.heap.size+1<w1.heap.size
theorem nU.below {wr:World}{b:Value}(h:nU w W wr v V y b J)(a:Below wr.heap.size wr u):nU w W u v V y b J:=
 ⟨h.bx.below a,ownsRow_below h.own a,fun c d e=>(a.block c (Nat.lt_of_lt_of_le d h.sz)).trans (h.keep c d e),Nat.le_trans h.sz a.size,h.lo⟩
theorem nU.app {wr:World}{e f:Value}{g:Lit}(h:nU w W wr v V y e J)(X:Obj)(a:lH (wr.alloc X) u (w.heap.size+1) 3 W.heap.size 168 4 e f (J.length+1) ((J.map Lit.cells).flatten++g.cells)):nU w W u v V y f (J++[g]):=by
 have l:Below wr.heap.size wr (wr.alloc X):=af.alloc ae X;have c:=h.below l;have b:=c.bx;have m:=b.lt;have n:=h.lo;have t:∀{q:Nat} {i:Value},(wr.alloc X).cell? ⟨w.heap.size,q,none⟩=some i->u.cell? ⟨w.heap.size,q,none⟩=some i:=fun p=>(a.below.cell (p:=⟨w.heap.size,_,none⟩) aW).trans p;refine⟨⟨t b.r0,t b.r1,t b.r2,t b.r3,t b.r4,fun o=>(a.below.frozen (p:=⟨w.heap.size,o,none⟩) aW).trans (b.rf o),(a.cells 0 aO).trans b.c0,(a.cells 1 aO).trans b.c1,(a.cells 2 aO).trans b.c2,a.cell,(a.cells 4 aO).trans b.c4,fun o=>(a.frozen o).trans (b.cf o),b.dG.trans (a.below.mono aO),Nat.lt_of_lt_of_le m a.size⟩,?_,fun d j k=>?_,Nat.le_trans c.sz a.size,n⟩
 ·rw[List.length_append,tH];exact a.own
 ·rw[a.block d (Nat.lt_of_lt_of_le j c.sz) k (fun r=>by have:=(h.own.lt d r.symm).1;omega)];exact c.keep d j k
def gV (w':World)(n:Nat)(e:Ending):Prop:=∃(k a b:Nat) (aL:Option Addr) (nL cL:Nat) (aT:Option Addr) (nT cT:Nat) (ok:Bool),e=.returned (.tuple #[.agg #[.int .u8 k,.int .i64 a,.int .i64 b,.slice aL nL cL,.slice aT nT cT],.bool ok])/\
 (ok=true->k<256/\a<1000/\b<1000/\(∃ls:List Lit,ls.length=nL/\eP w' (.slice aL nL cL) ls/\(∀l∈ls,l.small)/\ls.length<=n+1)/\(k=65->∃ds:List Nd,ds.length=nT/\lM w' (.slice aT nT cT) ds/\(∀d∈ds,BM d)/\fC ds<=34*(n+1)/\ds.length<=n+1))
theorem gV.no (k a b:Nat)(c:Option Addr)(d e:Nat)(f:Option Addr)(g h:Nat):gV w n (.returned (.tuple #[.agg #[.int .u8 k,.int .i64 a,.int .i64 b,.slice c d e,.slice f g h],.bool false])):=⟨k,a,b,c,d,e,f,g,h,false,rfl,aP⟩
theorem aap (a:List (List UInt8)):wc a=(a.map List.length).sum+33*a.length:=by
 unfold wc
 induction a with
 | nil=>rfl
 | cons x a b=>simp only[List.map_cons,List.sum_cons,List.length_cons,b];omega
theorem Zn (a:List (List UInt8))(i:Nat):wc (a.drop i)<=wc a:=by
 exact alH
theorem nK (h:w.ownsRow n 168 4 v J.length (J.map Lit.cells).flatten)(c:∀b,n<=b->W.heap[b]?=w.heap[b]?):eP W v J:=by
 have d:W.ownsRow n 168 4 v J.length (J.map Lit.cells).flatten:=by
  refine⟨h.1,?_⟩;rcases h.2 with e|⟨g,f,i,j,a,k,r⟩
  ·exact .inl e
  ·exact .inr ⟨g,f,i,j,a,by rw[c g a];exact k,r⟩
 exact eP.tF (Row.dW d aP ai5)
end Go.Proofs.YtbichedkajfmiaaGreatDoor
