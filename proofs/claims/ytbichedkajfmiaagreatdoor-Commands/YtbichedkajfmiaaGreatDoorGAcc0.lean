import Derived.Test.YtbichedkajfmiaaGreatDoorGAdd1
import Derived.Test.YtbichedkajfmiaaGreatDoorGStep1
import Derived.Test.YtbichedkajfmiaaGreatDoorC
set_option maxRecDepth 100000
set_option maxHeartbeats 16000000
namespace Go.Proofs.YtbichedkajfmiaaGreatDoor
open Go.RowKit
variable {J:List Lit}{V v y:Value}{W w:World}{b:List Value}{m n:Nat}
theorem Tryz.VW:(Tryz.prog.info? 161).map (fun i=>(i.zero,i.size,i.bytes))=some (some (.slice none 0 0),1,24):=bL
def Mh (w:World)(v:Value):Prop:=∀g,v.ownBlock=some g->∃a n c,w.cell? ⟨g,0,none⟩=some (.slice a n c)
theorem eP.X5 (i:eP w v J)(j:∀g,(∃k:Bool,w.cell? ⟨g,0,none⟩=some (.bool k))->W.heap[g]?=w.heap[g]?):eP W v J:=by
 obtain⟨l,m,n,p,q,c⟩:=i;refine⟨l,m,n,p,q,fun r hi=>?_⟩;obtain⟨g,d,s⟩:=c r hi;refine⟨g,d,fun u=>?_⟩;have b:=s u;obtain⟨a,f,x⟩:=c 0 aO;have y:a=g:=by rw[d]at f;injection f with e;injection e with e;exact e.symm
 subst y;have h:=(x aO).neg;simp only[Nat.zero_mul]at h;have z:=j a ⟨_,h⟩;have t:∀o,W.cell? ⟨a,o,none⟩=w.cell? ⟨a,o,none⟩:=fun o=>World.cell?_of_block (a:=⟨a,o,none⟩) z;exact amT
structure uP (w1 wr:World)(pb:Nat)(bp hv vc:Value)(cs:List (List Lit)):Prop where
 c0:wr.cell? ⟨pb,0,none⟩=some bp
 c1:wr.cell? ⟨pb,1,none⟩=some hv
 c2:wr.cell? ⟨pb,2,none⟩=some vc
 fr:∀o,wr.frozen? ⟨pb,o,none⟩=false
 dG:Below pb w1 wr
 row:∃vals:List Value,wr.ownsRow (pb+1) 161 1 vc cs.length vals/\fO (eP wr) vals cs
 nil:cs=[]->vc=.slice none 0 0
theorem uP.lt {wr:World}{a:List (List Lit)}(h:uP w wr n v V y a):n<wr.heap.size:=World.block_lt_of_cell? wr ⟨n,0,none⟩ h.c0
theorem uP.below {wr:World}{c:List (List Lit)}(h:uP w wr n v V y c)(a:Below wr.heap.size wr W):uP w W n v V y c:=by
 have b:=h.lt;obtain⟨d,e,f⟩:=h.row;exact⟨(a.cell (p:=⟨n,0,none⟩) b).trans h.c0,(a.cell (p:=⟨n,1,none⟩) b).trans h.c1,(a.cell (p:=⟨n,2,none⟩) b).trans h.c2,fun o=>(a.frozen (p:=⟨n,o,none⟩) b).trans (h.fr o),h.dG.trans (a.mono aO),⟨d,ownsRow_below e a,f.imp (fun i j g=>g.below a)⟩,h.nil⟩
theorem TG {a b:Type}{C:a->b->Prop}{c:List a}{d:List b}{e:a}{f:b}(h:fO C c d)(g:C e f):fO C (c++[e]) (d++[f]):=h.app (.cons g .nil)
theorem Mh.of {a:List (List Lit)}(h:w.ownsRow n 161 1 v a.length b)(d:fO (eP w) b a)(e:a=[]->v=.slice none 0 0):Mh w v:=by
 intro g c;cases d with
 | nil=>rw[e rfl]at c;simp[Value.ownBlock]at c
 | @cons x f s a i _=>
  obtain⟨t,u,j,_,_,k⟩:=dQ h;obtain⟨l,m,o,_⟩:=k 0 aP;rw[j,m]at c;have:l=g:=aj4;subst this;obtain⟨p,q,r,_⟩:=i;exact⟨p,f.length,q,by rw[o];simp[r]⟩
theorem uP.app {wr:World}{k:Addr}{i:Value}{c:List (List Lit)}(X:Obj)(l:uP w wr n (.pointer (some k)) v V c)(s:wr.ownsRow (n+1) 161 1 V c.length b)(t:fO (eP wr) b c)(u:eP wr i J)(a:lH (wr.alloc X) W n 2 (n+1) 161 1 V y (c.length+1) (b++[i])):uP w W n (.pointer (some k)) v y (c++[J]):=by
 have h:Below wr.heap.size wr (wr.alloc X):=af.alloc ae X;have d:=l.below h;have x:=ownsRow_below s h;have m:fO (eP (wr.alloc X)) b c:=t.imp (fun p z j=>j.below h);have A:=Mh.of x m l.nil
 have q:∀g,(∃r:Bool,(wr.alloc X).cell? ⟨g,0,none⟩=some (.bool r))->W.heap[g]?=(wr.alloc X).heap[g]?:=fun g ⟨r,e⟩=>by
  refine a.block g (ai e) ?_ ?_
  ·intro f;subst f;rw[d.c0]at e;cases e
  ·intro f;obtain⟨C,D,p,B⟩:=A g f.symm;rw[B]at e;cases e
 refine⟨(a.cells 0 aO).trans d.c0,(a.cells 1 aO).trans d.c1,a.cell,fun o=>(a.frozen o).trans (d.fr o),d.dG.trans a.below,⟨b++[i],?_,?_⟩,fun f=>by simp at f⟩
 ·rw[List.length_append];exact a.own
 ·exact TG (m.imp (fun p z j=>j.X5 q)) ((u.below h).X5 q)
theorem uP.proof {wr:World}{a:List (List Lit)}{b:List dX}{held:List Nat}(h:uP w wr n (.pointer (some ⟨m,0,none⟩)) v V a)(d:mr wr m b)(e:dY wr v held):fT wr n m b held a:=by
 obtain⟨f,g,c⟩:=h.row;have j:=c.len;refine⟨h.c0,d,⟨v,h.c1,e⟩,V,h.c2,?_⟩;obtain⟨k,l,o,p,x,q⟩:=dQ g;refine⟨k,l,o,p,aX,fun i hi=>?_⟩;obtain⟨r,s,t,_⟩:=q i hi;refine⟨r,s,fun u=>⟨f[i]' aO,by rw[t];simp[j,hi],c.get i aO u⟩⟩
theorem U3 {a:List Sp}{s:Sp}(h:s∈a):s.m+1<=ny a:=uS (List.mem_map_of_mem (f:=fun s:Sp=>s.m+1) h)
theorem RB {a:List Sp}{s:Sp}(h:a[n]?=some s):ny (a.take (n+1))=ny (a.take n)+(s.m+1):=by
 unfold ny;rw[List.take_add_one,h];exact aP
theorem Zx (a:List Sp)(i:Nat):ny (a.take i)<=ny a:=by
 have h:a=a.take i++a.drop i:=(List.take_append_drop i a).symm
 have e:ny a=ny (a.take i)+ny (a.drop i):=by
  conv=>lhs;rw[h]
  unfold ny;rw[List.map_append,List.sum_append]
 exact aO
theorem U4 (a:List Sp):a.length<=ny a:=by
 unfold ny
 induction a with
 | nil=>simp
 | cons s a b=>simp only[List.length_cons,List.map_cons,List.sum_cons];omega
theorem Nl (j k A:Nat)(B:Option Addr)(C:List dX)(held:List Nat)(bq:List UInt8)(w:World)(hb:mr w j C)(hh:dY w (.slice B k A) held)(hn:held.length=k)(Yf:k<=1000000)(hts:C.length<=1000)(hwf:iU C)(qJ:wH C)(has:zg C)(S:bq.length<=90000) :
 Calls Tryz.prog 43 #[.pointer (some ⟨j,0,none⟩),.slice B k A,.string ⟨bq.toArray⟩] w fun e w'=>gL e/\Below w.heap.size w w':=by
 obtain⟨i0,hi0,hz0,hz1,hz2⟩:=info_parts Tryz.VW;have af3:=di (Q8 bq w S);have Fy:=di (fun W (h:Below w.heap.size w W)=>hb.below h);have HHD:=di (fun W (h:Below w.heap.size w W)=>hh.below h)
 have xE:Hid (∀(W:World) (pb:Nat) (b:List (List Lit)) (sb:Nat) (s:Sp),fT W pb j C held b->yX W sb s.k s.a s.b s.aL s.nL s.cL s.aT s.nT s.cT s.ls->uy W s->s.m+1<=90001->(∀d∈b,d.length<=1000000)->b.flatten.length<=1000000000->Calls Tryz.prog 104 #[.pointer (some ⟨pb,0,none⟩),.pointer (some ⟨sb,0,none⟩)] W fun e w'=>gL e/\Below W.heap.size W w'):=fun W pb b sb s h1 u T h4 h5 h6=>
  RN pb j C held b sb s.k s.a s.b s.aL s.nL s.cL s.aT s.nT s.cT s.ls W h1 u T.len hts hwf qJ has aO h5 h6 (by have:=T.few;have:=T.len;omega) (fun D=>by obtain⟨ds,e1,e2,e3,e4⟩:=T.tree D;exact⟨ds,e1,e2,aO,aO⟩)
 clear hb hh hn hwf qJ has;go_enter Tryz.func43,Tryz.ntmps43;go_wp2_with fail;refine af3.o.mono ?_;rintro e a ⟨⟨bA,m,d,bB,rfl,hd⟩,hb1⟩;have HD:=di hd;have HB1:=di hb1;clear hd hb1;cases bB
 ·go_wp2_with fail;go_ret;exact⟨⟨_,rfl⟩,HB1.o⟩
 ·obtain⟨L,hm,hrow,hok,hsl⟩:=HD.o rfl;have Di:=di hsl;have HM:=di hm;have rz:=di hok;obtain⟨ao,cap,hv,r1,r2,r3,r4⟩:=hrow;injection hv with e1 e2 e3
  subst e1 e3;unfold maxLen at r2;have hm9:m<=90001:=by have:=U4 L;omega
  have acf:Hid (∀W,Below a.heap.size a W->∀i s,L[i]?=some s->∃g,bA=some ⟨g,0,none⟩/\W.cell? ⟨g,i*5,none⟩=some (.int .u8 s.k)/\W.cell? ⟨g,i*5+1,none⟩=some (.int .i64 s.a)/\W.cell? ⟨g,i*5+2,none⟩=some (.int .i64 s.b)/\W.cell? ⟨g,i*5+3,none⟩=some (.slice s.aL s.nL s.cL)/\W.cell? ⟨g,i*5+4,none⟩=some (.slice s.aT s.nT s.cT)):=fun W hW i s l=>by
   obtain⟨hi,hs'⟩:=List.getElem?_eq_some_iff.1 l;obtain⟨g,hg,M⟩:=r4 i ahT;simp only[List.getElem_map,hs']at M
   have t:∀N (hj:N<5) bg,s.cells[N]?=some bg->W.cell? ⟨g,i*5+N,none⟩=some bg:=fun N hj bg hu=>by
    have:=M N hj bg hu;rw[hW.cell (p:=⟨g,i*5+N,none⟩) (ai this)];exact this
   exact⟨g,hg,t 0 aO _ rfl,t 1 aO _ rfl,t 2 aO _ rfl,t 3 aO _ rfl,t 4 aO _ rfl⟩
  have hcm:m<=d:=by rw[List.length_map]at r1;omega
  have Dp:Hid (uP a (a.alloc (.cells #[.pointer (some ⟨j,0,none⟩),.slice B k A,.slice none 0 0] 160)) a.heap.size (.pointer (some ⟨j,0,none⟩)) (.slice B k A) (.slice none 0 0) []):=
   ⟨aP,aP,aP,fun o=>aP,ag,⟨[],World.ownsRow_nil _ _ _ _,.nil⟩,fun _=>rfl⟩
  clear hm hok hsl r1 r3 r4 e2 HD;go_wp2_with fail
  go_loopw [10] (fun q wr=>∃(t:Nat) (v:Option Addr) (f:Nat) (b:List (List Lit)),q=.int .i64 t/\t<=m/\uP a wr a.heap.size (.pointer (some ⟨j,0,none⟩)) (.slice B k A) (.slice v t f) b/\b.length=t/\b.flatten.length<=ny (L.take t)/\(∀d∈b,d.length<=90001)/\t<=f/\f<=2 ^ 63-1) (fun q _=>m-(intOf q).toNat)
  case atStart=>exact⟨0,none,0,[],rfl,aO,Dp.o,rfl,by simp[ny],aP,aO,aO⟩
  case round=>
   obtain⟨t,v,f,b,rfl,ht,hst,hcl,hfl,hcc,aew,ahs⟩:=hrel;have HST:=di hst;have x:=di hcl;have uK:=di hfl;have AO:=di hcc;have U:=di (HB1.o.trans (hst.dG.mono HB1.o.size));have XT:=di hst.dG;clear hst hcl hfl hcc
   by_cases htl:t<m
   ·obtain⟨s,l⟩:∃s,L[t]?=some s:=⟨_,aD (by rw[HM.o];exact htl)⟩;have hsm:=List.mem_of_getElem? l;have hsl2:=U3 hsm;have AJ:=di (RB l);obtain⟨g,rfl,c0,c1,c2,c3,c4⟩:=acf.o wr XT.o t s l;have BR:=di ((rz.o s hsm).below XT.o);have hm1:s.m+1<=90001:=by have:=Di.o;omega
    obtain⟨y,z⟩:∃y,wr.alloc (.cells #[.int .u8 s.k,.int .i64 s.a,.int .i64 s.b,.slice s.aL s.nL s.cL,.slice s.aT s.nT s.cT] 164)=y:=⟨_,rfl⟩;have O:Below wr.heap.size wr y:=by rw[<-z];exact af.alloc ae _
    have HB2:=di O;have D6:=di (U.o.trans (O.mono U.o.size));have jN:=di (HST.o.below O);have Ua:Hid (yX y wr.heap.size s.k s.a s.b s.aL s.nL s.cL s.aT s.nT s.cT s.ls):=⟨akp,akp,akp,akp,akp,BR.o.lits.below O⟩;have HC:=di (xE.o y a.heap.size b wr.heap.size s (jN.o.proof (Fy.o y D6.o) (HHD.o y D6.o)) Ua.o (BR.o.below O) hm1 (fun d h=>by have:=AO.o d h;omega) (by have h1:=uK.o;have u:=Zx L t;have T:=Di.o;omega));have YM:Hid (wr.heap.size<y.heap.size):=by show _<_;rw[<-z];simp
    clear l hsm hsl2 O;go_wp2_with fail;refine HC.o.mono ?_;rintro e n ⟨⟨rb,rfl⟩,hb3⟩;have P:=di (jN.o.below hb3);have Q:=Ua.o.below hb3;have ahL:=di Q;have agb:=di (D6.o.trans (hb3.mono D6.o.size));have d0:=Q.c0;have d1:=Q.c1;have d3:=Q.c3;have mQ:=di Q.lits;have HNL:=di BR.o.len;have acD:=di BR.o.few;clear hb3 Q c0 c1 c2 c3 c4 z;cases rb
    ·go_wp2_with fail;go_ret;exact⟨⟨_,rfl⟩,agb.o⟩
    ·by_cases D:s.k=70
     ·have tk:((s.k:Int)==70)=true:=bz;obtain⟨R,V⟩:∃R,n.alloc (.cells #[.bool false,.int .u8 84,.int .i64 (s.a:Int),.int .i64 0] 168)=R:=⟨_,rfl⟩;have hb4:Below n.heap.size n R:=by rw[<-V];exact af.alloc ae _
      have X:=di (P.o.below hb4)
      have Us:Hid (eP R (.slice (some ⟨n.heap.size,0,none⟩) 1 1) [⟨false,84,s.a,0⟩]):=by
       refine⟨some ⟨n.heap.size,0,none⟩,1,rfl,ae,aX,fun i hi=>⟨n.heap.size,rfl,fun hl=>?_⟩⟩;have h0:i=0:=by simp at hl;omega
       subst h0;exact⟨by rw[<-V];simp,by rw[<-V];simp,by rw[<-V];simp,by rw[<-V];simp⟩
      clear D hb4;obtain⟨vals,E,Y⟩:=X.o.row;rw[x.o]at E;have p:=di E;have QJ:=di Y;have k2:=X.o.c2;have kf:=X.o.fr;have Z:=di k2;have rD:=di kf;have c:Hid (a.heap.size<R.heap.size):=X.o.lt;have ku:Hid (∀q,(Value.slice v t f).ownBlock=some q->a.heap.size+1<=q):=fun q hq=>(p.o.lt q hq).1;clear E Y;go_wp2_with (at_builtin;refine dD rfl (.tmp 53) (.tmp 55) 158 rfl (a.heap.size+1) 161 i0 (.slice none 0 0) 1 24 Tryz.underlying158 hi0 hz0 hz1 hz2 rfl aR (.slice v t f) t vals rfl (by exact p.o.alloc _) ⟨R.heap.size,0,none⟩ 1 [.slice (some ⟨n.heap.size,0,none⟩) 1 1] rfl rfl bM bX aX aO aij ?_;intro F G H I r hg1 hg2;have y1:H.cell? ⟨a.heap.size,2,none⟩=some (.slice v t f):=((dP r (a:=⟨a.heap.size,2,none⟩) aij (fun e=>aih)).trans (dC _ _ _ c.o)).trans Z.o;have y2:H.frozen? ⟨a.heap.size,2,none⟩=false:=((dS r (a:=⟨a.heap.size,2,none⟩) aij (fun e=>aih)).trans (dI _ _ _ c.o)).trans (rD.o 2);obtain⟨J,Aq⟩:∃J,H.setCell ⟨a.heap.size,2,none⟩ (.slice (some ⟨F,0,none⟩) (t+1) G)=J:=⟨_,rfl⟩;have K:=fE (eb:=a.heap.size) (f:=2) aO (p.o.alloc _) aij ((dC _ _ _ c.o).trans Z.o) I r hg2;rw[Aq]at K;have Uc:Hid (uP a J a.heap.size (.pointer (some ⟨j,0,none⟩)) (.slice B k A) (.slice (some ⟨F,0,none⟩) (t+1) G) (b++[[⟨false,84,s.a,0⟩]])):=uP.app _ X.o (by rw[x.o];exact p.o) QJ.o Us.o (by rw[x.o];exact K);have hcp:=l7 I;clear K I r hg1 hg2);go_roundw
      case rel=>exact⟨t+1,some ⟨F,0,none⟩,G,b++[[⟨false,84,s.a,0⟩]],bJ,aO,Uc.o,by rw[List.length_append,x.o];rfl,by rw[AJ.o,List.flatten_append,List.length_append];have h1:=uK.o;have u:([[⟨false,84,s.a,0⟩]]:List (List Lit)).flatten.length<=s.m+1:=aP;omega,fun d M=>by(rcases List.mem_append.1 M with h|h;exact AO.o d h;rw[List.mem_singleton.1 h];have u:([[⟨false,84,s.a,0⟩]]:List (List Lit)).flatten.length<=s.m+1:=aP;simp only[List.flatten_cons,List.flatten_nil,List.append_nil]at u;omega),hcp.1,hcp.2⟩
      case measure=>exact akL
     ·have tk:((s.k:Int)==70)=false:=aj aO;clear D;obtain⟨vals,E,Y⟩:=P.o.row;rw[x.o]at E;have p:=di E;have QJ:=di Y;have k2:=P.o.c2;have kf:=P.o.fr;have Z:=di k2;have rD:=di kf;have c:Hid (a.heap.size<n.heap.size):=P.o.lt;have ku:Hid (∀q,(Value.slice v t f).ownBlock=some q->a.heap.size+1<=q):=fun q hq=>(p.o.lt q hq).1;clear E Y;go_wp2_with (at_builtin;refine dD rfl (.tmp 53) (.tmp 55) 158 rfl (a.heap.size+1) 161 i0 (.slice none 0 0) 1 24 Tryz.underlying158 hi0 hz0 hz1 hz2 rfl aR (.slice v t f) t vals rfl (by exact p.o.alloc _) ⟨n.heap.size,0,none⟩ 1 [.slice s.aL s.nL s.cL] rfl rfl bM bX aX aO aij ?_;intro F G H I r hg1 hg2;have y1:H.cell? ⟨a.heap.size,2,none⟩=some (.slice v t f):=((dP r (a:=⟨a.heap.size,2,none⟩) aij (fun e=>aih)).trans (dC _ _ _ c.o)).trans Z.o;have y2:H.frozen? ⟨a.heap.size,2,none⟩=false:=((dS r (a:=⟨a.heap.size,2,none⟩) aij (fun e=>aih)).trans (dI _ _ _ c.o)).trans (rD.o 2);obtain⟨J,Aq⟩:∃J,H.setCell ⟨a.heap.size,2,none⟩ (.slice (some ⟨F,0,none⟩) (t+1) G)=J:=⟨_,rfl⟩;have K:=fE (eb:=a.heap.size) (f:=2) aO (p.o.alloc _) aij ((dC _ _ _ c.o).trans Z.o) I r hg2;rw[Aq]at K;have Uc:Hid (uP a J a.heap.size (.pointer (some ⟨j,0,none⟩)) (.slice B k A) (.slice (some ⟨F,0,none⟩) (t+1) G) (b++[s.ls])):=uP.app _ P.o (by rw[x.o];exact p.o) QJ.o mQ.o (by rw[x.o];exact K);have hcp:=l7 I;clear K I r hg1 hg2);go_roundw
      case rel=>exact⟨t+1,some ⟨F,0,none⟩,G,b++[s.ls],bJ,aO,Uc.o,by rw[List.length_append,x.o];rfl,by rw[AJ.o,List.flatten_append,List.length_append];have h1:=uK.o;have u:([s.ls]:List (List Lit)).flatten.length<=s.m+1:=aju;omega,fun d M=>by(rcases List.mem_append.1 M with h|h;exact AO.o d h;rw[List.mem_singleton.1 h];have u:([s.ls]:List (List Lit)).flatten.length<=s.m+1:=aju;simp only[List.flatten_cons,List.flatten_nil,List.append_nil]at u;omega),hcp.1,hcp.2⟩
      case measure=>exact akL
   ·by_cases hm0:m=0
    ·have tm:¬((0:Int)<(m:Int)):=aO;have tm2:¬(0<m):=aO;go_wp2_with fail;go_ret;exact⟨⟨_,rfl⟩,U.o⟩
    ·obtain⟨bn,hM⟩:∃bn,m=bn+1:=⟨m-1,aO⟩;subst hM;obtain⟨s,l⟩:∃s,L[bn]?=some s:=⟨_,aD (by rw[HM.o];omega)⟩;obtain⟨g,rfl,c0,c1,c2,c3,c4⟩:=acf.o wr XT.o bn s l;clear l hm0
     by_cases D:s.k=82
     ·have tk:((s.k:Int)==82)=true:=bz;clear D;go_wp2_with fail;go_ret;exact⟨⟨_,rfl⟩,U.o⟩
     ·have tk:((s.k:Int)==82)=false:=aj aO;clear D;go_wp2_with fail;go_ret;exact⟨⟨_,rfl⟩,U.o⟩
end Go.Proofs.YtbichedkajfmiaaGreatDoor
