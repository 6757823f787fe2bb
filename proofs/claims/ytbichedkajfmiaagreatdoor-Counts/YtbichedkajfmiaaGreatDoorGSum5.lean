import Derived.Test.YtbichedkajfmiaaGreatDoorGSum0
import Derived.Test.YtbichedkajfmiaaGreatDoorC
set_option maxRecDepth 100000
set_option maxHeartbeats 16000000
namespace Go.Proofs.YtbichedkajfmiaaGreatDoor
open Go.RowKit
variable {F f:List Int}{V v y:Value}{W u w:World}{Z z:Int}{a d:Option Addr}{i j k m n:Nat}{l:List Nat}
structure S2 where
 v:Value
 zs:List Int
 c:Int
def S2.cells (s:S2):List Value:=[s.v,.string ⟨(dn.dec s.c).toArray⟩]
def mg (w:World)(v:Value)(ss:List S2):Prop:=Row w 2 v (ss.map S2.cells)/\∀s∈ss,dV w s.v s.zs
theorem mg.below {a:List S2}(h:mg w v a)(b:Below w.heap.size w W):mg W v a:=
 ⟨h.1.below b,fun s c=>(h.2 s c).below b⟩
theorem Tryz.Ny:(Tryz.prog.info? 264).map (fun i=>(i.zero,i.size,i.bytes))=some (some (.agg #[.slice none 0 0,.string ⟨#[]⟩]),2,40):=bL
theorem vv {w:World}{s:S2}(h:dV w s.v s.zs):∀u∈s.cells,u.oneCell'=true:=by
 obtain⟨v,c,d⟩:=s;obtain⟨e,f,a,_⟩:=h;intro u b;simp only[S2.cells,List.mem_cons,List.not_mem_nil,or_false]at b;simp only at a;rcases b with rfl|rfl
 ·rw[a];rfl
 ·rfl
theorem Zu (w:World)(s:S2)(t:TypeId):∀j u,s.cells[j]?=some u->(w.alloc (.cells #[s.v,.string ⟨(dn.dec s.c).toArray⟩] t)).cell? ((⟨w.heap.size,0,none⟩:Addr).add j)=some u:=by
 intro j u h
 match j,h with
 | 0,h=>simp[S2.cells,Addr.add]at h ⊢;exact h
 | 1,h=>simp[S2.cells,Addr.add]at h ⊢;exact h
 | n+2,h=>simp[S2.cells]at h
theorem sZ (w:World)(s:S2)(t:TypeId)(n:Nat)(a:n=w.heap.size):∀j u,s.cells[j]?=some u->(w.alloc (.cells #[s.v,.string ⟨(dn.dec s.c).toArray⟩] t)).cell? ((⟨n,0,none⟩:Addr).add j)=some u:=by
 subst a;exact Zu w s t
theorem U9 {a:List S2}(h:Row w 2 (.slice (some ⟨n,0,none⟩) m k) (a.map S2.cells)):∀j u,((a.map S2.cells).flatten)[j]?=some u->w.cell? ((⟨n,0,none⟩:Addr).add j)=some u:=by
 obtain⟨v,x,o,_,_,e,p⟩:=h;intro j u c;have y:=sO e
 have z:j<(a.map S2.cells).flatten.length:=by
  rcases Nat.lt_or_ge j (a.map S2.cells).flatten.length with h|h
  ·exact h
  ·rw[List.getElem?_eq_none h]at c;cases c
 obtain⟨q,r,s⟩:=p (j / 2) aO
 have t:n=q:=by
  injection o with b A B;rw[r]at b;injection b with b;injection b
 subst t;have f:j % 2<2:=Nat.mod_lt _ aO;have g:j / 2*2+j % 2=j:=Nat.div_add_mod' j 2;have i:=xU e (j / 2) (j % 2) aO f;rw[g]at i;have d:=s (j % 2) f u (by rw[<-i];exact c);rw[g]at d
 by_cases l:j=0
 ·subst l;simpa[Addr.add] using d
 ·simpa[Addr.add,l] using d
theorem Gx (a:List S2)(s:S2):((a++[s]).map S2.cells).flatten=(a.map S2.cells).flatten++s.cells:=aP
theorem Jk {a:List S2}{s:S2}{X:Obj}(f:∀x∈a,dV w x.v x.zs)(g:dV w s.v s.zs)(c:Below w.heap.size w W)(i:W.ownsRow w.heap.size 264 2 v k (a.map S2.cells).flatten)(j:k=a.length)
 (e:u.ownsRow w.heap.size 264 2 (.slice (some ⟨n,0,none⟩) (k+1) m) (k+1) ((a.map S2.cells).flatten++s.cells)) (l:(W.alloc X).grownBy u v.ownBlock) :
 mg u (.slice (some ⟨n,0,none⟩) (k+1) m) (a++[s])/\Below w.heap.size w u:=by
 have d:Below w.heap.size w u:=(c.alloc c.size X).grown l (by simp;exact Nat.le_succ_of_le c.size) (fun o p=>(i.lt o p).1);refine⟨⟨?_,?_⟩,d⟩
 ·rw[<-Gx]at e;exact Row.dW e (by simp[j]) aj2
 ·intro x b;rcases List.mem_append.1 b with h|h
  ·exact(f x h).below d
  ·rw[List.mem_singleton.1 h];exact g.below d
def Xg (w':World)(ss:List S2)(e:Ending):Prop:=∃v,e=.returned v/\mg w' v ss
theorem Dt (H:Value)(c:List S2)(g:Value)(a:List Int)(b:Int)(w:World)(I:mg w H c)(n:dV w g a)(J:c.length<=1000000) :
 Calls Tryz.prog 208 #[H,.agg #[g,.string ⟨(dn.dec b).toArray⟩]] w fun V K=>Xg K (c++[⟨g,a,b⟩]) V/\Below w.heap.size w K:=by
 obtain⟨t,hi,v,x,y⟩:=info_parts Tryz.Ny;have z:=di I;have L:=di n;have M:=di (vv (s:=⟨g,a,b⟩) n);have N:=di (fun(W:World) (O:Nat) (J:O=W.heap.size)=>sZ W ⟨g,a,b⟩ 264 O J);have X:=n;obtain⟨d,e,Y,_,_,_⟩:=X;subst Y;obtain⟨⟨A,Z,P,hcap,hmax,Q,B⟩,_⟩:=I;rw[List.length_map]at P hcap;subst P;unfold maxLen at hmax;have YM:=di Q;clear Q n
 have HNW:Hid (∀p,A=some p->∀j u,((c.map S2.cells).flatten)[j]?=some u->w.cell? (p.add j)=some u):=by
  intro p R j u o;cases c with
  | nil=>simp at o
  | cons C xs=>
   obtain⟨bg,f,_⟩:=B 0 aP;rw[R]at f;injection f with f
   subst f;have S:=z.o.1;rw[R]at S;exact U9 S j u o
 have Ic:Hid (A=none->c=[]):=by
  intro h;cases c with
  | nil=>rfl
  | cons C xs=>obtain⟨bg,f,_⟩:=B 0 aP;rw[h]at f;cases f
 have uK:=di (sO YM.o)
 have wK:Hid (∀u∈(c.map S2.cells).flatten,u.oneCell'=true):=by
  intro u o;obtain⟨bn,hl1,hl2⟩:=List.mem_flatten.1 o;obtain⟨C,hx,rfl⟩:=List.mem_map.1 hl1;exact vv (z.o.2 C hx) u hl2
 clear B;cases A with
 | none=>
  have h0:=Ic.o rfl;subst h0;have D:Below w.heap.size w (w.alloc (.cells #[.slice d a.length e,.string ⟨(dn.dec b).toArray⟩] 264)):=ag;have q:(w.alloc (.cells #[.slice d a.length e,.string ⟨(dn.dec b).toArray⟩] 264)).ownsRow w.heap.size 264 2 (.slice none 0 0) 0 (([]:List S2).map S2.cells).flatten:=World.ownsRow_nil _ _ _ _;go_enter Tryz.func208,Tryz.ntmps208;go_wp2_with (at_builtin;refine dD rfl (.tmp 9) (.tmp 11) 216 rfl w.heap.size 264 t (.agg #[.slice none 0 0,.string ⟨#[]⟩]) 2 40 Tryz.underlying216 hi v x y rfl aR _ 0 (([]:List S2).map S2.cells).flatten rfl (by exact(q).alloc _) ⟨w.heap.size+1,0,none⟩ 1 (S2.cells ⟨.slice d a.length e,a,b⟩) rfl rfl (by exact N.o _ _ aP) M.o aX aO aQ ?_;intro ga eZ w3 i k E F);have l:=Jk (s:=⟨.slice d a.length e,a,b⟩) aP L.o D q rfl i k;exact amC
 | some p=>
  have D:Below w.heap.size w (w.alloc (.cells #[.slice d a.length e,.string ⟨(dn.dec b).toArray⟩] 264)):=ag;have q:(w.alloc (.cells #[.slice d a.length e,.string ⟨(dn.dec b).toArray⟩] 264)).ownsRow w.heap.size 264 2 (.slice none 0 0) 0 []:=World.ownsRow_nil _ _ _ _;have Dk:Hid (∀j u,((c.map S2.cells).flatten)[j]?=some u->(w.alloc (.cells #[.slice d a.length e,.string ⟨(dn.dec b).toArray⟩] 264)).cell? (p.add j)=some u):=fun j u h=>eF (HNW.o p rfl j u h);go_enter Tryz.func208,Tryz.ntmps208;go_wp2_with (at_builtin;first|(refine wpList_append_own _ rfl (.tmp 6) (.tmp 7) 216 rfl w.heap.size 264 t (.agg #[.slice none 0 0,.string ⟨#[]⟩]) 2 40 Tryz.underlying216 hi v x y rfl aR (.slice none 0 0) 0 [] rfl q p c.length Z (c.map S2.cells).flatten rfl (by have h:=uK.o;rw[List.length_map]at h;exact h) Dk.o wK.o aX aO aP ?_;intro v1 r G s _;have c0:r.cell? ⟨w.heap.size,0,none⟩=some (.slice d a.length e):=(dP s (a:=⟨w.heap.size,0,none⟩) aP (by simp[Value.ownBlock])).trans aP;have c1:r.cell? ⟨w.heap.size,1,none⟩=some (.string ⟨(dn.dec b).toArray⟩):=(dP s (a:=⟨w.heap.size,1,none⟩) aP (by simp[Value.ownBlock])).trans aP;have T:Hid (Below w.heap.size w r):=D.grown s aP (fun bq hk=>by simp[Value.ownBlock]at hk);have hs1:=T.o.size;rw[List.nil_append,Nat.zero_add]at G;have U:=di G;clear G s)|(refine dD rfl (.tmp 9) (.tmp 11) 216 rfl w.heap.size 264 t (.agg #[.slice none 0 0,.string ⟨#[]⟩]) 2 40 Tryz.underlying216 hi v x y rfl aR _ c.length (c.map S2.cells).flatten rfl (by exact(U.o).alloc _) ⟨r.heap.size,0,none⟩ 1 (S2.cells ⟨.slice d a.length e,a,b⟩) rfl rfl (by exact N.o _ _ aP) M.o aX aO aQ ?_;intro ga eZ w3 i k E F));have l:=Jk (s:=⟨.slice d a.length e,a,b⟩) z.o.2 L.o T.o U.o rfl i k;exact amC
theorem dV.grown {row:Option Nat}(h:dV w v f)(e:w.grownBy W row)(j:∀b,v.ownBlock=some b->row≠some b):dV W v f:=by
 obtain⟨k,l,a,m,n,o⟩:=h;refine⟨k,l,a,m,n,fun i hi=>?_⟩;obtain⟨g,c,p⟩:=o i hi;refine⟨g,c,fun q=>?_⟩;have d:=p q;rw[dP e (a:=⟨g,i,none⟩) (ai d) (fun r=>j g (by rw[a,c];rfl) r.symm)];exact d
structure AP (w wr:World)(v:Value)(ss:List S2)(n:Nat):Prop where
 own:wr.ownsRow w.heap.size 264 2 v ss.length (ss.map S2.cells).flatten
 nums:∀s∈ss,dV wr s.v s.zs
 len:∀s∈ss,s.zs.length=n/\(∀z∈s.zs,z.natAbs<=big 1000)/\s.c.natAbs<=big 1000
 old:∀s∈ss,∀b,s.v.ownBlock=some b->v.ownBlock≠some b/\b<wr.heap.size
 below:Below w.heap.size w wr
theorem AP.nil (w:World)(n:Nat):AP w w (.slice none 0 0) [] n:=⟨World.ownsRow_nil _ _ _ _,aP,aP,aP,af⟩
theorem AP.after {c:List S2}(h:AP w W v c n)(a:Below W.heap.size W u):AP w u v c n:=
 ⟨ownsRow_below h.own a,fun s b=>(h.nums s b).below a,h.len,fun s b d e=>⟨(h.old s b d e).1,Nat.lt_of_lt_of_le (h.old s b d e).2 a.size⟩,h.below.trans (a.mono h.below.size)⟩
theorem AP.app {d:List S2}{s:S2}{g cap:Nat}(h:AP w W v d n)(X:Obj)(i:W.ownsRow m 9 1 s.v s.zs.length (s.zs.map str))(p:∀b,v.ownBlock=some b->b<m)(q:s.zs.length=n/\(∀z∈s.zs,z.natAbs<=big 1000)/\s.c.natAbs<=big 1000)
 (r:u.ownsRow w.heap.size 264 2 (.slice (some ⟨g,0,none⟩) (d.length+1) cap) (d.length+1) ((d.map S2.cells).flatten++s.cells)) (e:(W.alloc X).grownBy u v.ownBlock) (t:v.ownBlock=some g\/(W.alloc X).heap.size<=g) :
 AP w u (.slice (some ⟨g,0,none⟩) (d.length+1) cap) (d++[s]) n:=by
 have y:=h.below.size;have k:Below W.heap.size W (W.alloc X):=af.alloc ae X;have A:=e.size
 have l:∀b,b<W.heap.size->v.ownBlock≠some b->(Value.slice (some ⟨g,0,none⟩) (d.length+1) cap).ownBlock≠some b/\b<u.heap.size:=by
  intro b c B;refine⟨fun j=>?_,by simp at A;omega⟩;have C:g=b:=by simpa[Value.ownBlock] using j
  subst C;rcases t with f|f
  ·exact B f
  ·simp at f;exact aO
 have o:∀b,s.v.ownBlock=some b->v.ownBlock≠some b:=fun b c j=>by
  have f:=(i.lt b c).1;have F:=p b j;exact aO
 refine⟨?_,?_,?_,?_,?_⟩
 ·rw[Gx,List.length_append];exact r
 ·intro x a;rcases List.mem_append.1 a with a|a
  ·exact((h.nums x a).below k).grown e (fun b c=>(h.old x a b c).1)
  ·rw[List.mem_singleton.1 a];exact((dV.dW i).below k).grown e o
 ·intro x a;rcases List.mem_append.1 a with a|a
  ·exact h.len x a
  ·rw[List.mem_singleton.1 a];exact q
 ·intro x a b c;rcases List.mem_append.1 a with a|a
  ·exact l b (h.old x a b c).2 (h.old x a b c).1
  ·rw[List.mem_singleton.1 a]at c;exact l b (i.lt b c).2 (o b c)
 ·exact(h.below.alloc y X).grown e aQ (fun D E=>(h.own.lt D E).1)
theorem AP.sums {a:List S2}(h:AP w W v a n):mg W v a:=
 ⟨Row.dW h.own aP aj2,h.nums⟩
def Ip (w':World)(n m:Nat)(e:Ending):Prop:=∃v ss,e=.returned v/\mg w' v ss/\ss.length<=m/\∀s∈ss,s.zs.length=n/\(∀z∈s.zs,z.natAbs<=big 1000)/\s.c.natAbs<=big 1000
theorem eG.app {o:Nat}{l:Lit}{X Y:Obj}{row:Option Nat}(h:eG w n o l)(b:Below w.heap.size w W)(c:n<w.heap.size)(d:((W.alloc Y).alloc X).grownBy u row)(e:row≠some n):eG u n o l:=by
 have f:=b.size;have g:Below w.heap.size w ((W.alloc Y).alloc X):=(b.alloc f Y).alloc aQ X;have a:=h.below g c;have i:n<((W.alloc Y).alloc X).heap.size:=aQ;have k:∀p:Nat,u.cell? ⟨n,p,none⟩=((W.alloc Y).alloc X).cell? ⟨n,p,none⟩:=fun p=>dP d (a:=⟨n,p,none⟩) i (fun j=>e j.symm);exact⟨(k _).trans a.neg,(k _).trans a.kind,(k _).trans a.a,(k _).trans a.b⟩
theorem SV (R bb:Nat)(r:List dX)(held:List Nat)(cs:List (List Lit))(hts:r.length<=1000)(hwf:iU r)(qJ:wH r)(vl:Value)(z:List Lit)(w:World)(hp:fT w R bb r held cs)(hls:eP w vl z)(hsm:z.length<=1000000)(zN:∀l∈z,l.kind≠84->l.a<r.length/\l.b<r.length) :
 Calls Tryz.prog 149 #[.pointer (some ⟨R,0,none⟩),vl] w fun i N=>Ip N r.length (2*z.length) i/\Below w.heap.size w N:=by
 have S:Hid (∀(T e:Nat) (U:Int) (W:World),T<r.length->e<r.length->U.natAbs<=1->Below w.heap.size w W->Calls Tryz.prog 204 #[.pointer (some ⟨R,0,none⟩),.int .i64 T,.int .i64 e,.string ⟨(dn.dec U).toArray⟩] W fun i N=>Ll r.length N W.heap.size i/\Below W.heap.size W N):=fun T e U W ha o hm hbw=>Pv R bb r held cs hts hwf qJ T e U W (hp.below hbw) ha o hm;obtain⟨al,yc,rfl,Ct,uV,Bo⟩:=hls;unfold maxLen at uV;have Gj:=di Bo;have BU:=di zN;obtain⟨V,hi,X,Y,Z⟩:=info_parts Tryz.Ny;clear Bo zN hp hwf qJ;go_enter Tryz.func149,Tryz.ntmps149;go_wp2_with fail
 go_loopw [5,6] (fun bq bg wr=>∃(p:Nat) (h:List S2),bg=.int .i64 p/\p<=z.length/\AP w wr bq h r.length/\h.length<=2*p) (fun _ bg _=>z.length-(intOf bg).toNat)
 case atStart=>exact⟨0,[],rfl,aO,AP.nil w _,aP⟩
 case round=>
  obtain⟨p,h,rfl,hk,hgs,hsl⟩:=hrel;have O:=di hgs
  by_cases hlt:p<z.length
  ·obtain⟨bB,hg,hc⟩:=Gj.o p hlt;subst hg;have hgl:=ai (hc hlt).neg;obtain⟨e1,e2,e3,e4⟩:=(hc hlt).below hgs.below hgl;have SC:=BU.o z[p] aP;generalize z[p]=l at *;clear hc hgl;go_upto_region 5 with fail
   go_cut [7] (fun bA wx=>bA=.pointer (some ⟨wr.heap.size,0,none⟩)/\eG wx wr.heap.size 0 l/\Below wr.heap.size wr wx/\wr.heap.size<wx.heap.size)
   case first=>
    go_wp2_with fail;go_meet
    case rel=>exact⟨rfl,⟨aP,aP,aP,aP⟩,ag,aP⟩
   case rest=>
    obtain⟨rfl,hlc,hbx,hsx⟩:=hcut;have Dl:=di hlc;have m:=di (O.o.after hbx);have Zf:Hid (∀e,u5.ownBlock=some e->e<wr.heap.size):=fun e o=>(O.o.own.lt e o).2;obtain⟨x1,x2,x3,x4⟩:=hlc;clear hgs e1 e2 e3 e4;generalize hng:l.neg=ng at *;have Og:=di hng;clear hng;cases ng
    ·by_cases h76:l.kind=76
     ·have t76:((l.kind:Int)==76)=true:=bz;obtain⟨P,Q⟩:=SC aO;have j:=S.o l.b l.a 1 wc Q P aP m.o.below;rw[dn.kS]at j;have G:=di j;clear j;go_wp2_with fail;refine G.o.mono ?_;rintro i f ⟨⟨a,b,t,u,v,x⟩,n⟩;obtain⟨aaq,rfl,g⟩:=t.o;obtain⟨c,d,H,_,_,_⟩:=dQ g;subst H;have B:=di ((m.o.after n).after (af.alloc ae (.cells #[.slice c a.length d,.string ⟨(dn.dec b).toArray⟩] 264)));have aaU:w.heap.size<=f.heap.size:=(m.o.after n).below.size;have X8:wc.heap.size<=f.heap.size:=n.size;have I:=di (sZ (f.alloc (.cells #[.slice c a.length d,.string ⟨(dn.dec b).toArray⟩] 264)) ⟨.slice c a.length d,a,b⟩ 264 (f.heap.size+1) aP);have J:=di (vv (w:=f) (s:=⟨.slice c a.length d,a,b⟩) (dV.dW g));have K:=di (g.alloc (.cells #[.slice c a.length d,.string ⟨(dn.dec b).toArray⟩] 264));have L:=di (And.intro u (And.intro v x));clear t g u v x;go_wp2_with (at_builtin;refine dD rfl (.tmp 69) (.tmp 71) 216 rfl w.heap.size 264 V (.agg #[.slice none 0 0,.string ⟨#[]⟩]) 2 40 Tryz.underlying216 hi X Y Z rfl aR _ h.length ((h).map S2.cells).flatten rfl aky ⟨f.heap.size+1,0,none⟩ 1 (S2.cells ⟨.slice c a.length d,a,b⟩) rfl rfl (by exact I.o) J.o aiy ajk aQ ?_;intro Qc K4 A y k _ s);have C:=di (B.o.app (s:=⟨.slice c a.length d,a,b⟩) _ K.o (fun e o=>(m.o.own.lt e o).2) L.o y k s);clear y k s;clear x1 x2 x3 x4;exact ama
     ·have t76:((l.kind:Int)==76)=false:=aj aO;exact amH
    ·by_cases h84:l.kind=84
     ·have t84:((l.kind:Int)==84)=true:=bz;have t69:((l.kind:Int)==69)=false:=aj aO;have n84:(l.kind:Int)=84:=aO;clear n84;exact amH
     ·have t84:((l.kind:Int)==84)=false:=aj aO;obtain⟨P,Q⟩:=SC h84
      by_cases h69:l.kind=69
      ·have t69:((l.kind:Int)==69)=true:=bz;clear h84 h69;have j:=S.o l.a l.b 0 wc P Q aP m.o.below;rw[dn.gH]at j;have G:=di j;clear j;go_wp2_with fail;refine G.o.mono ?_;rintro i f ⟨⟨a,b,t,u,v,x⟩,n⟩;obtain⟨aaq,rfl,g⟩:=t.o;obtain⟨c,d,H,_,_,_⟩:=dQ g;subst H;have B:=di ((m.o.after n).after (af.alloc ae (.cells #[.slice c a.length d,.string ⟨(dn.dec b).toArray⟩] 264)));have aaU:w.heap.size<=f.heap.size:=(m.o.after n).below.size;have X8:wc.heap.size<=f.heap.size:=n.size;have I:=di (sZ (f.alloc (.cells #[.slice c a.length d,.string ⟨(dn.dec b).toArray⟩] 264)) ⟨.slice c a.length d,a,b⟩ 264 (f.heap.size+1) aP);have J:=di (vv (w:=f) (s:=⟨.slice c a.length d,a,b⟩) (dV.dW g));have K:=di (g.alloc (.cells #[.slice c a.length d,.string ⟨(dn.dec b).toArray⟩] 264));have L:=di (And.intro u (And.intro v x));clear t g u v x;go_wp2_with (at_builtin;refine dD rfl (.tmp 34) (.tmp 36) 216 rfl w.heap.size 264 V (.agg #[.slice none 0 0,.string ⟨#[]⟩]) 2 40 Tryz.underlying216 hi X Y Z rfl aR _ h.length ((h).map S2.cells).flatten rfl aky ⟨f.heap.size+1,0,none⟩ 1 (S2.cells ⟨.slice c a.length d,a,b⟩) rfl rfl (by exact I.o) J.o aiy ajk aQ ?_;intro Qc K4 A y k _ s;have hx5:eG A wr.heap.size 0 l:=Dl.o.app n hsx k (fun i=>by have:=Zf.o _ i;omega);obtain⟨UH,adH,adG,adF⟩:=hx5;rw[Og.o]at UH);have C:=di (B.o.app (s:=⟨.slice c a.length d,a,b⟩) _ K.o (fun e o=>(m.o.own.lt e o).2) L.o y k s);have HX5:Hid (eG A wr.heap.size 0 l):=Dl.o.app n hsx k (fun i=>by have:=Zf.o _ i;omega);have ad4:wr.heap.size<A.heap.size:=ai HX5.o.neg
       have agc:Hid (∀e,(Value.slice (some ⟨Qc,0,none⟩) (h.length+1) K4).ownBlock=some e->e≠wr.heap.size):=fun e o i=>by
        have hgb:Qc=e:=by simpa[Value.ownBlock] using o
        rcases s with bn|bn
        ·have:=Zf.o _ bn;exact aO
        ·simp at bn;exact aO
       clear y k s;have j:=S.o l.b l.a 0 A Q P aP C.o.below;rw[dn.gH]at j;have G:=di j;clear j;go_wp2_with fail;refine G.o.mono ?_;rintro i M ⟨⟨q,D,t,u,v,x⟩,oM⟩;obtain⟨agU,rfl,g⟩:=t.o;obtain⟨E,F,H,_,_,_⟩:=dQ g;subst H;have acQ:=di ((C.o.after oM).after (af.alloc ae (.cells #[.slice E q.length F,.string ⟨(dn.dec D).toArray⟩] 264)));have ag2:w.heap.size<=M.heap.size:=(C.o.after oM).below.size;have agD:A.heap.size<=M.heap.size:=oM.size;have I:=di (sZ (M.alloc (.cells #[.slice E q.length F,.string ⟨(dn.dec D).toArray⟩] 264)) ⟨.slice E q.length F,q,D⟩ 264 (M.heap.size+1) aP);have J:=di (vv (w:=M) (s:=⟨.slice E q.length F,q,D⟩) (dV.dW g));have K:=di (g.alloc (.cells #[.slice E q.length F,.string ⟨(dn.dec D).toArray⟩] 264));have L:=di (And.intro u (And.intro v x));clear t g u v x;go_wp2_with (at_builtin;refine dD rfl (.tmp 51) (.tmp 53) 216 rfl w.heap.size 264 V (.agg #[.slice none 0 0,.string ⟨#[]⟩]) 2 40 Tryz.underlying216 hi X Y Z rfl aR _ (h++[S2.mk (.slice c a.length d) a b]).length (((h++[S2.mk (.slice c a.length d) a b])).map S2.cells).flatten rfl (by exact acQ.o.own.alloc _) ⟨M.heap.size+1,0,none⟩ 1 (S2.cells ⟨.slice E q.length F,q,D⟩) rfl rfl (by exact I.o) J.o aiy ajk aQ ?_;intro ahC agC w7 y k _ s;have hx7:eG w7 wr.heap.size 0 l:=HX5.o.app oM ad4 k (fun i=>by have:=agc.o _ i;exact this rfl);obtain⟨adI,agS,agR,agQ⟩:=hx7;rw[Og.o]at adI);have H7:=di (acQ.o.app (s:=⟨.slice E q.length F,q,D⟩) _ K.o (fun e o=>(C.o.own.lt e o).2) L.o y k s);clear y k s;go_wp2_with fail;go_roundw
       case rel=>exact⟨p+1,(h++[S2.mk (.slice c a.length d) a b])++[S2.mk (.slice E q.length F) q D],bJ,aO,by simpa using H7.o,aQ⟩
       case measure=>exact akL
      ·have t69:((l.kind:Int)==69)=false:=aj aO;clear h84 h69;have j:=S.o l.a l.b 0 wc P Q aP m.o.below;rw[dn.gH]at j;have G:=di j;clear j;go_wp2_with fail;refine G.o.mono ?_;rintro i f ⟨⟨a,b,t,u,v,x⟩,n⟩;obtain⟨aaq,rfl,g⟩:=t.o;obtain⟨c,d,H,_,_,_⟩:=dQ g;subst H;have B:=di ((m.o.after n).after (af.alloc ae (.cells #[.slice c a.length d,.string ⟨(dn.dec b).toArray⟩] 264)));have aaU:w.heap.size<=f.heap.size:=(m.o.after n).below.size;have X8:wc.heap.size<=f.heap.size:=n.size;have I:=di (sZ (f.alloc (.cells #[.slice c a.length d,.string ⟨(dn.dec b).toArray⟩] 264)) ⟨.slice c a.length d,a,b⟩ 264 (f.heap.size+1) aP);have J:=di (vv (w:=f) (s:=⟨.slice c a.length d,a,b⟩) (dV.dW g));have K:=di (g.alloc (.cells #[.slice c a.length d,.string ⟨(dn.dec b).toArray⟩] 264));have L:=di (And.intro u (And.intro v x));clear t g u v x;go_wp2_with (at_builtin;refine dD rfl (.tmp 34) (.tmp 36) 216 rfl w.heap.size 264 V (.agg #[.slice none 0 0,.string ⟨#[]⟩]) 2 40 Tryz.underlying216 hi X Y Z rfl aR _ h.length ((h).map S2.cells).flatten rfl aky ⟨f.heap.size+1,0,none⟩ 1 (S2.cells ⟨.slice c a.length d,a,b⟩) rfl rfl (by exact I.o) J.o aiy ajk aQ ?_;intro Qc K4 A y k _ s;have hx5:eG A wr.heap.size 0 l:=Dl.o.app n hsx k (fun i=>by have:=Zf.o _ i;omega);obtain⟨UH,adH,adG,adF⟩:=hx5;rw[Og.o]at UH);have C:=di (B.o.app (s:=⟨.slice c a.length d,a,b⟩) _ K.o (fun e o=>(m.o.own.lt e o).2) L.o y k s);clear y k s;exact ama
  ·go_wp2_with fail;go_ret;exact⟨⟨_,h,rfl,O.o.sums,aO,O.o.len⟩,O.o.below⟩
theorem yn {l:List UInt8}(h:dn.Is l=true):0<l.length:=by
 cases l with
 | nil=>simp[dn.Is]at h
 | cons c u=>simp
theorem TU {l:List UInt8}(h:dn.Is l=true)(d:¬l.head?=some 45):∀c∈l,48<=c.toNat/\c.toNat<=57:=by
 by_cases a:(l==[48])=true
 ·have:=eq_of_beq a;subst this;intro c b;rw[List.mem_singleton.1 b];exact⟨aR,aR⟩
 ·have a:(l==[48])=false:=aiW;rw[Lm a d]at h;unfold nN at h;simp only[Bool.and_eq_true]at h;intro c b;have:=List.all_eq_true.1 h.1.1 c b;unfold oN at this;exact amM
def TN (e:Ending):Prop:=∃(n:Nat) (b:Bool),n<1000/\e=.returned (.tuple #[.int .i64 n,.bool b])
theorem nk (l:List UInt8)(w:World)(d:l.length<=1000000000000) :
 Calls Tryz.prog 192 #[.string ⟨l.toArray⟩] w fun e f=>TN e/\f=w:=by
 have v:=fJ;have g:=di (Lp l w d);have h:=di (yn (l:=l));have j:=di (TU (l:=l));generalize dn.Is l=n at *;go_enter Tryz.func192,Tryz.ntmps192;go_wp2_with fail;refine g.o.mono ?_;rintro e x ⟨rfl,rfl⟩;cases n
 ·exact ami
 ·have o:0<l.length:=h.o rfl
  by_cases y:l.length<=3
  ·by_cases a:l.head?=some 45
   ·have p:((l[0].toNat:Int)==45)=true:=by
     cases l with
     | nil=>simp at o
     | cons z A=>simp at a;subst a;rfl
    clear a;exact ami
   ·have b:=j.o rfl a
    have p:((l[0].toNat:Int)==45)=false:=by
     have:=b l[0] aP;rw[beq_eq_false_iff_ne];exact aO
    have q:=di b;clear b a;go_wp2_with fail
    go_loop [5,6] (fun r i=>∃k m:Nat,i=.int .i64 k/\r=.int .i64 m/\k<=l.length/\m<10 ^ k) (fun _ i=>l.length-(intOf i).toNat)
    case atStart=>exact⟨0,0,rfl,rfl,aO,aP⟩
    case round=>
     obtain⟨k,m,rfl,rfl,B,c⟩:=hrel;have s:m<10 ^ 3:=Nat.lt_of_lt_of_le c (Nat.pow_le_pow_right aO aO);have t:m<1000:=aO;have u:=di c;clear c s
     by_cases C:k<l.length
     ·have b:=q.o l[k] aP;obtain⟨D,E⟩:=b;go_wp2_with fail
      go_round
      case rel=>
       refine⟨k+1,10*m+(l[k].toNat-48),bJ,?_,aO,?_⟩
       ·congr 1;omega
       ·have:=u.o;rw[Nat.pow_succ];exact aO
      case measure=>exact akL
     ·go_wp2_with fail;go_ret2;exact⟨⟨m,true,t,rfl⟩,rfl⟩
  ·exact ami
def Xl (w':World)(base n:Nat)(e:Ending):Prop:=
 ∃(v:Value) (ws:List (List UInt8)),e=.returned v/\w'.ownsRow base 9 1 v ws.length (ws.map dO)/\0<ws.length/\(ws.map List.length).sum+ws.length=n+1
theorem F7 (l:List UInt8)(f:UInt8)(w:World)(H:l.length<=1000000000000) :
 Calls Tryz.prog 142 #[.string ⟨l.toArray⟩,.int .u8 f.toNat] w fun t u=>Xl u w.heap.size l.length t/\Below w.heap.size w u:=by
 have I:=fJ;obtain⟨v,hi,y,z,A⟩:=info_parts Tryz.oC;go_enter Tryz.func142,Tryz.ntmps142;go_wp2_with fail
 go_loopw [5,6,7] (fun E F i wr=>∃(k q:Nat) (a:List (List UInt8)),i=.int .i64 k/\F=.int .i64 q/\q<=k/\k<=l.length/\wr.ownsRow w.heap.size 9 1 E a.length (a.map dO)/\(a.map List.length).sum+a.length=q/\Below w.heap.size w wr) (fun _ _ i _=>l.length-(intOf i).toNat)
 case atStart=>exact⟨0,0,[],rfl,rfl,aO,aO,World.ownsRow_nil _ _ _ _,rfl,af⟩
 case round=>
  obtain⟨k,q,a,rfl,rfl,J,K,B,C,g⟩:=hrel;have b:=di B;have h:=di C;have L:a.length<=l.length:=aO;have D:=g.size;clear B C
  by_cases M:k<l.length
  ·by_cases j:l[k]=f
   ·have G:((l[k].toNat:Int)==(f.toNat:Int))=true:=by rw[j,beq_iff_eq]
    clear j;go_wp2_with (at_builtin;refine dD rfl (.tmp 19) (.tmp 24) 45 rfl w.heap.size 9 v (.string ⟨#[]⟩) 1 16 Tryz.underlying45 hi y z A rfl aR _ a.length (a.map dO) rfl aiV ⟨wr.heap.size,0,none⟩ 1 [dO (List.drop q (List.take k l))] rfl rfl bM bX aX aO aQ ?_;intro m n c d e _ o);have p:Hid (c.ownsRow w.heap.size 9 1 (.slice (some ⟨m,0,none⟩) (a.length+1) n) (a++[List.drop q (List.take k l)]).length ((a++[List.drop q (List.take k l)]).map dO)):=ahW;have r:Hid (Below w.heap.size w c):=(g.alloc D _).grown e aQ (fun x s=>(b.o.lt x s).1);clear d e o;go_wp2_with fail;go_roundw
    case rel=>exact⟨k+1,k+1,a++[List.drop q (List.take k l)],bJ,bJ,aO,aO,p.o,by have:=h.o;simp;omega,r.o⟩
    case measure=>exact akL
   ·have G:((l[k].toNat:Int)==(f.toNat:Int))=false:=by rw[beq_eq_false_iff_ne];intro t;exact j (dn.jM aO)
    go_wp2_with fail;go_roundw
    case rel=>exact⟨k+1,q,a,bJ,rfl,aO,aO,b.o,h.o,g⟩
    case measure=>exact akL
  ·go_wp2_with (at_builtin;refine dD rfl (.tmp 28) (.tmp 32) 45 rfl w.heap.size 9 v (.string ⟨#[]⟩) 1 16 Tryz.underlying45 hi y z A rfl aR _ a.length (a.map dO) rfl aiV ⟨wr.heap.size,0,none⟩ 1 [dO (List.drop q l)] rfl rfl bM bX aX aO aQ ?_;intro m n c d e _ o);have p:Hid (c.ownsRow w.heap.size 9 1 (.slice (some ⟨m,0,none⟩) (a.length+1) n) (a++[List.drop q l]).length ((a++[List.drop q l]).map dO)):=ahW;have r:Hid (Below w.heap.size w c):=(g.alloc D _).grown e aQ (fun x s=>(b.o.lt x s).1);clear d e o;go_wp2_with fail;go_ret;exact⟨⟨_,a++[List.drop q l],rfl,p.o,aP,by have:=h.o;simp;omega⟩,r.o⟩
structure Nd where
 kind:Nat
 mult:List Int
 var:Nat
 num:List UInt8
structure Fb (w:World)(g o:Nat)(d:Nd):Prop where
 kind:w.cell? ⟨g,o,none⟩=some (.int .u8 d.kind)
 mult:∃a c,w.cell? ⟨g,o+1,none⟩=some (.slice a d.mult.length c)/\d.mult.length<=c/\c<=2 ^ 63-1/\dV w (.slice a d.mult.length c) d.mult
 var:w.cell? ⟨g,o+2,none⟩=some (.int .i64 d.var)
 num:w.cell? ⟨g,o+3,none⟩=some (.string ⟨d.num.toArray⟩)
theorem Fb.below {o:Nat}{d:Nd}(h:Fb w n o d)(a:Below w.heap.size w W):Fb W n o d:=by
 have b:=ai h.kind;obtain⟨c,e,f,g,i,j⟩:=h.mult;exact⟨(a.cell (p:=⟨n,o,none⟩) b).trans h.kind,⟨c,e,(a.cell (p:=⟨n,o+1,none⟩) b).trans f,g,i,j.below a⟩,(a.cell (p:=⟨n,o+2,none⟩) b).trans h.var,(a.cell (p:=⟨n,o+3,none⟩) b).trans h.num⟩
def lM (w:World)(v:Value)(ds:List Nd):Prop:=fA v ds.length (fun g i=>∀h:i<ds.length,Fb w g (i*4) ds[i])
theorem lM.below {a:List Nd}(h:lM w v a)(b:Below w.heap.size w W):lM W v a:=
 fA.imp h fun _ _ _ c hi=>(c hi).below b
def BM (d:Nd):Prop:=d.kind<256/\d.var<1000/\(d.kind=115->∃z:Int,d.num=dn.dec z)
def fI (ms:List Int):Nat:=(ms.map (fun z=>(dn.dec z).length+3)).sum
def El (d:Nd):Nat:=fI d.mult+d.num.length+30
def fC (ds:List Nd):Nat:=(ds.map El).sum
theorem JR {a:List Nd}{d:Nd}(h:a[n]?=some d):fC (a.take (n+1))=fC (a.take n)+El d:=by
 unfold fC;rw[List.take_add_one,h];exact aP
theorem Ej (a:List Nd):∀i,fC (a.take i)<=fC a:=by
 intro i;have h:a=a.take i++a.drop i:=(List.take_append_drop i a).symm
 have e:fC a=fC (a.take i)+fC (a.drop i):=by
  conv=>lhs;rw[h]
  unfold fC;rw[List.map_append,List.sum_append]
 exact aO
theorem vX (a:List Nd){i j:Nat}(h:i<=j):fC (a.take i)<=fC (a.take j):=by
 have:=Ej (a.take j) i;rw[List.take_take,Nat.min_eq_left h]at this;exact this
theorem Ps (h:f[n]?=some z):fI (f.take (n+1))=fI (f.take n)+((dn.dec z).length+3):=by
 unfold fI;rw[List.take_add_one,h];exact aP
theorem VC (a:List Int)(i:Nat):fI (a.take i)<=fI a:=by
 have h:a=a.take i++a.drop i:=(List.take_append_drop i a).symm
 have e:fI a=fI (a.take i)+fI (a.drop i):=by
  conv=>lhs;rw[h]
  unfold fI;rw[List.map_append,List.sum_append]
 exact aO
structure LB (M:Nat)(zs:List Int)(c:Int):Prop where
 zs:∀z∈zs,(dn.dec z).length<=M
 c:(dn.dec c).length<=M
theorem LB.mono (h:LB n f z)(a:n<=m):LB m f z:=⟨fun b c=>Nat.le_trans (h.zs b c) a,Nat.le_trans h.c a⟩
theorem LB.zero (n M:Nat)(h:1<=M):LB M (List.replicate n 0) 0:=⟨fun z a=>by rw[(List.mem_replicate.1 a).2,dn.gH];exact h,by rw[dn.gH];exact h⟩
theorem JA {y:Int}(c:(dn.dec z).length<=n)(a:(dn.dec Z).length<=m)(b:(dn.dec y).length<=k):(dn.dec (z+Z*y)).length<=max n (m+k+1)+2:=by
 have d:=sP z (Z*y);have e:=Da a b;exact aO
theorem Zm (c:∀a∈f,(dn.dec a).length<=n)(e:(dn.dec z).length<=m)(d:∀a∈F,(dn.dec a).length<=k):∀a∈List.zipWith (fun g i=>g+z*i) f F,(dn.dec a).length<=max n (m+k+1)+2:=by
 intro a b
 induction f generalizing F with
 | nil=>simp at b
 | cons x l j=>
  cases F with
  | nil=>simp at b
  | cons y o=>
   simp only[List.zipWith_cons_cons,List.mem_cons]at b;rcases b with rfl|b
   ·exact JA (c x aP) e (d y aP)
   ·exact j (fun a h=>c a (by simp[h])) (fun a h=>d a (by simp[h])) b
def Yz (w':World)(base n M:Nat)(e:Ending):Prop:=∃(zs:List Int) (c:Int) (v:Value),e=.returned (.agg #[v,.string ⟨(dn.dec c).toArray⟩])/\w'.ownsRow base 9 1 v zs.length (zs.map str)/\zs.length=n/\LB M zs c
theorem Nt {k:Int}{K:Nat}(o:dV w v f)(p:dV w V F)(x:f.length=n)(y:F.length=n)(A:n<=1000000)(a:LB m f z)(b:LB i F Z)(c:(dn.dec k).length<=K)(g:m<=300000000000)(j:i<=300000000000)(q:K<=300000000000) :
 Calls Tryz.prog 207 #[.agg #[v,.string ⟨(dn.dec z).toArray⟩],.string ⟨(dn.dec k).toArray⟩,.agg #[V,.string ⟨(dn.dec Z).toArray⟩]] w fun l d=>Yz d w.heap.size n (max m (K+i+1)+2) l/\Below w.heap.size w d:=by
 refine(JB v V f F z k Z w o p aO aO (fun e h=>Nat.le_trans (a.zs e h) g) (fun e h=>Nat.le_trans (b.zs e h) j) (Nat.le_trans a.c g) (Nat.le_trans c q) (Nat.le_trans b.c j)).mono ?_;rintro l d ⟨⟨r,s,t⟩,u⟩;exact⟨⟨_,_,r,s,t,aQ,Zm a.zs c b.zs,JA a.c c b.c⟩,u⟩
theorem NU (h:z.natAbs<=Z.natAbs):(dn.dec z).length<=(dn.dec Z).length+1:=by
 have b:=dn.mK z;have c:=dn.gq Z;have a:=dn.Ch Z.natAbs;have d:=dn.lG (Nat.lt_of_le_of_lt h a);exact aO
theorem WX {x:Int}(b:0<z):(-(-x / z)).natAbs<=x.natAbs:=by
 rw[Int.natAbs_neg];have c:x.natAbs=(-x).natAbs:=(Int.natAbs_neg x).symm;rw[c];generalize -x=y;have e:=Int.mul_ediv_add_emod y z;have f:=Int.emod_nonneg y (by omega:z≠0);have g:=Int.emod_lt_of_pos y b;generalize h:y / z=q at *;rcases Int.lt_trichotomy q 0 with a|a|a
 ·have d:z*q<=z*(-1):=Int.mul_le_mul_of_nonneg_left aO aO
  have i:y<=q:=by
   have j:z*q<=1*q+(z-1)*(-1):=by
    have:(z-1)*q<=(z-1)*(-1):=Int.mul_le_mul_of_nonneg_left aO aO;have k:z*q=1*q+(z-1)*q:=by rw[<-Int.add_mul];congr 1;omega
    exact aO
   have:y=z*q+y % z:=aO;exact aO
  exact aO
 ·subst a;exact aP
 ·have d:1*q<=z*q:=Int.mul_le_mul_of_nonneg_right aO aO;exact aO
theorem ZX (b:z=0\/∃y:Int,z.natAbs<=y.natAbs/\(dn.dec y).length<=n)(c:(dn.dec Z).length<=n) :
 ((Int.gcd z Z:Nat):Int)=0\/∃y:Int,((Int.gcd z Z:Nat):Int).natAbs<=y.natAbs/\(dn.dec y).length<=n:=by
 by_cases e:Int.gcd z Z=0
 ·left;omega
 ·right
  by_cases a:z=0
  ·exact⟨Z,by rw[a,Int.gcd_zero_left];simp,c⟩
  ·rcases b with h|⟨y,f,d⟩
   ·exact absurd h a
   ·refine⟨y,?_,d⟩;have:Int.gcd z Z<=z.natAbs:=Nat.le_of_dvd aO (Int.natAbs_dvd_natAbs.2 (Int.gcd_dvd_left z Z) |> fun h=>ajq);exact aQ
def Cells (w:World)(l:List (Addr × Value)):Prop:=∀q∈l,w.cell? q.1=some q.2
theorem Cells.below {l:List (Addr × Value)}(h:Cells w l)(b:Below w.heap.size w W):Cells W l:=fun q a=>(b.cell (ai (h q a))).trans (h q a)
theorem Cells.set {l:List (Addr × Value)}(h:Cells w l){a:Addr}{u:Value}(c:∀q∈l,a≠q.1):Cells (w.setCell a u) l:=fun q b=>(ak (fun e=>c q b e)).trans (h q b)
structure AS (w wx:World)(sb NT:Nat)(a:Option Addr)(p:Nat)(zs:List Int)(c:Int)(l:List (Addr × Value)):Prop where
 c0:wx.cell? ⟨sb,0,none⟩=some (.slice a NT p)
 c1:wx.cell? ⟨sb,1,none⟩=some (.string ⟨(dn.dec c).toArray⟩)
 fr:∀o,wx.frozen? ⟨sb,o,none⟩=false
 nums:dV wx (.slice a NT p) zs
 len:zs.length=NT
 dG:Below w.heap.size w wx
 cells:Cells wx l
 apart:∀q∈l,sb≠q.1.block
 lt:w.heap.size<=sb
 cap:NT<=p/\p<=2 ^ 63-1
theorem AS.hi {l:List (Addr × Value)}(h:AS w W n m a k f z l):n<W.heap.size:=World.block_lt_of_cell? W ⟨n,0,none⟩ h.c0
theorem AS.below {l:List (Addr × Value)}(h:AS w W n m a k f z l)(b:Below W.heap.size W u):AS w u n m a k f z l:=
 ⟨(b.cell (p:=⟨n,0,none⟩) h.hi).trans h.c0,(b.cell (p:=⟨n,1,none⟩) h.hi).trans h.c1,fun o=>(b.frozen (p:=⟨n,o,none⟩) h.hi).trans (h.fr o),h.nums.below b,h.len,h.dG.trans (b.mono h.dG.size),h.cells.below b,h.apart,h.lt,h.cap⟩
theorem AS.start {w:World}{NT:Nat}{a:Option Addr}{p:Nat}{zs:List Int}{c:Int}{l:List (Addr × Value)}(e:W.ownsRow n 9 1 (.slice a NT p) zs.length (zs.map str))(g:zs.length=NT)(b:Below w.heap.size w W)(f:Cells W l) :
 AS w (W.alloc (.cells #[.slice a NT p,.string ⟨(dn.dec c).toArray⟩] 264)) W.heap.size NT a p zs c l:=by
 have d:Below W.heap.size W (W.alloc (.cells #[.slice a NT p,.string ⟨(dn.dec c).toArray⟩] 264)):=ag;refine⟨aP,aP,fun o=>aP,(dV.dW e).below d,g,b.trans (d.mono b.size),f.below d,fun q h=>?_,b.size,?_⟩
 ·have:=ai (f q h);exact aO
 ·obtain⟨k,m,i,r,s,_⟩:=dQ e;injection i with _ _ j
  subst j;exact aO
theorem dV.set (h:dV w v f){a:Addr}(c:v.ownBlock≠some a.block)(u:Value):dV (w.setCell a u) v f:=by
 obtain⟨d,e,rfl,g,i,j⟩:=h;refine⟨d,e,rfl,g,i,fun k hi=>?_⟩;obtain⟨l,b,m⟩:=j k hi;refine⟨l,b,fun n=>(ak (fun o=>?_)).trans (m n)⟩;apply c;rw[b,o];rfl
theorem AS.store {c':Int}{l:List (Addr × Value)}(h:AS w W n m a i f z l)(r:Below W.heap.size W u)(c:u.ownsRow k 9 1 (.slice d m j) F.length (F.map str))(s:F.length=m)(x:W.heap.size<=k) :
 AS w ((u.setCell ⟨n,0,none⟩ (.slice d m j)).setCell ⟨n,1,none⟩ (.string ⟨(dn.dec c').toArray⟩)) n m d j F c' l:=by
 have b:=h.below r;have p:(Value.slice d m j).ownBlock≠some n:=fun e=>by have:=(c.lt n e).1;have:=h.hi;omega
 refine⟨?_,?_,fun o=>by rw[World.frozen?_setCell,World.frozen?_setCell];exact b.fr o,((dV.dW c).set p _).set p _,s,(b.dG.setCell h.lt _).setCell h.lt _,(b.cells.set (fun q g e=>h.apart q g (by rw[<-e]))).set (fun q g e=>h.apart q g (by rw[<-e])),h.apart,h.lt,?_⟩
 ·rw[ak (fun e=>ajm)];exact World.cell?_setCell_same _ _ _ b.c0
 ·exact World.cell?_setCell_same _ _ _ ((ak (fun e=>ajm)).trans b.c1)
 ·obtain⟨y,A,t,B,b,_⟩:=dQ c;injection t with _ _ v
  subst v;exact aO
def Zk (M:Nat)(z:Int):Prop:=0<=z/\(z=0\/∃y:Int,z.natAbs<=y.natAbs/\(dn.dec y).length<=M)
theorem Zk.len (h:Zk n z):(dn.dec z).length<=n+2:=by
 rcases h.2 with h|⟨y,a,b⟩
 ·rw[h,dn.gH];exact al6
 ·have:=NU a;exact aO
structure TS (wx wy:World)(tb NT:Nat)(a:Option Addr)(p:Nat)(us:List Int)(c:Int):Prop where
 dG:Below wx.heap.size wx wy
 c0:wy.cell? ⟨tb,0,none⟩=some (.slice a NT p)
 c1:wy.cell? ⟨tb,1,none⟩=some (.string ⟨(dn.dec c).toArray⟩)
 fr:∀o,wy.frozen? ⟨tb,o,none⟩=false
 own:wy.ownsRow wx.heap.size 9 1 (.slice a NT p) us.length (us.map str)
 len:us.length=NT
 ne:(Value.slice a NT p).ownBlock≠some tb
 lt:wx.heap.size<=tb
theorem TS.below (h:TS w W n m a k f z)(b:Below W.heap.size W u):TS w u n m a k f z:=by
 have hi:=World.block_lt_of_cell? W ⟨n,0,none⟩ h.c0;exact⟨h.dG.trans (b.mono h.dG.size),(b.cell (p:=⟨n,0,none⟩) hi).trans h.c0,(b.cell (p:=⟨n,1,none⟩) hi).trans h.c1,fun o=>(b.frozen (p:=⟨n,o,none⟩) hi).trans (h.fr o),ownsRow_below h.own b,h.len,h.ne,h.lt⟩
theorem TS.start {wx:World}{NT:Nat}{a:Option Addr}{p:Nat}{us:List Int}{c:Int}(d:w.ownsRow wx.heap.size 9 1 (.slice a NT p) us.length (us.map str))(e:us.length=NT)(b:Below wx.heap.size wx w) :
 TS wx (w.alloc (.cells #[.slice a NT p,.string ⟨(dn.dec c).toArray⟩] 264)) w.heap.size NT a p us c:=
 ⟨b.alloc b.size _,aP,aP,fun o=>aP,d.alloc _,e,fun f=>by have:=(d.lt _ f).2;omega,b.size⟩
theorem TS.Jr (h:TS w W n m a k f z)(b:Int):TS w (W.setCell ⟨n,1,none⟩ (.string ⟨(dn.dec b).toArray⟩)) n m a k f b:=
 ⟨h.dG.setCell h.lt _,(ak (fun e=>ajm)).trans h.c0,World.cell?_setCell_same _ _ _ h.c1,fun o=>by rw[World.frozen?_setCell];exact h.fr o,zz h.own h.ne _,h.len,h.ne,h.lt⟩
theorem TS.U7 (h:TS w W n m (some ⟨k,0,none⟩) i f z)(j:Nat)(a:Int):TS w (W.setCell ⟨k,j,none⟩ (.string ⟨(dn.dec a).toArray⟩)) n m (some ⟨k,0,none⟩) i (f.set j a) z:=by
 obtain⟨d,_⟩:=h.own.lt k rfl;have b:k≠n:=fun e=>h.ne (by rw[<-e];rfl);have c:=h.own;rw[h.len]at c;refine⟨h.dG.setCell d _,(ak (fun e=>b akh)).trans h.c0,(ak (fun e=>b akh)).trans h.c1,fun o=>by rw[World.frozen?_setCell];exact h.fr o,?_,by rw[List.length_set];exact h.len,h.ne,h.lt⟩;rw[List.length_set,h.len,List.map_set];exact(c.stored j _).1
theorem TS.cell {p:Nat}(h:TS w W n m a p f z):m<=p/\p<=2 ^ 63-1/\∀j,j<m->∃g u,a=some ⟨g,0,none⟩/\W.cell? ⟨g,j,none⟩=some u/\∀o,W.frozen? ⟨g,o,none⟩=false:=by
 have b:=h.own;rw[h.len]at b;obtain⟨t,v,e,i,k,l⟩:=dQ b;injection e with q _ r
 subst q r;refine⟨i,k,fun j c=>?_⟩;obtain⟨g,d,s,_⟩:=l j c;refine⟨g,str (f[j]'(by rw[h.len];exact c)),d,?_,fun o=>?_⟩
 ·rw[s];simp[h.len,c]
 ·rw[d]at b;exact b.frozenAt o
theorem U6 (h:∀y∈f,(dn.dec y).length<=n)(b:(dn.dec z).length<=n):∀y∈f.set m z,(dn.dec y).length<=n:=fun y c=>by
 rcases List.mem_or_eq_of_mem_set c with a|a
 ·exact h y a
 ·rw[a];exact b
theorem nC {u0 u1 u2 u3:Value}(k:w.cell? ⟨n,0,none⟩=some u0)(l:w.cell? ⟨n,1,none⟩=some u1)(m:w.cell? ⟨n,2,none⟩=some u2)(o:w.cell? ⟨n,3,none⟩=some u3)(g h i j:Value) :
 ∃b,(((w.setCell ⟨n,0,none⟩ g).setCell ⟨n,1,none⟩ h).setCell ⟨n,2,none⟩ i).setCell ⟨n,3,none⟩ j=b/\b.cell? ⟨n,0,none⟩=some g/\b.cell? ⟨n,1,none⟩=some h/\b.cell? ⟨n,2,none⟩=some i/\b.cell? ⟨n,3,none⟩=some j/\∀d K,Below K d w->K<=n->Below K d b:=by
 have a:∀(e f:Nat),e≠f->(⟨n,e,none⟩:Addr)≠⟨n,f,none⟩:=fun e f p q=>p (by injection q);refine⟨_,rfl,?_,?_,?_,?_,fun d K r c=>(((r.setCell c _).setCell c _).setCell c _).setCell c _⟩
 ·rw[ak (a 3 0 aO),ak (a 2 0 aO),ak (a 1 0 aO)];exact World.cell?_setCell_same _ _ _ k
 ·rw[ak (a 3 1 aO),ak (a 2 1 aO)];exact World.cell?_setCell_same _ _ _ ((ak (a 0 1 aO)).trans l)
 ·rw[ak (a 3 2 aO)];exact World.cell?_setCell_same _ _ _ ((ak (a 1 2 aO)).trans ((ak (a 0 2 aO)).trans m))
 ·exact World.cell?_setCell_same _ _ _ ((ak (a 2 3 aO)).trans ((ak (a 1 3 aO)).trans ((ak (a 0 3 aO)).trans o)))
theorem uS (h:n∈l):n<=l.sum:=by
 induction l with
 | nil=>cases h
 | cons b l a=>
  rw[List.sum_cons];rcases List.mem_cons.1 h with h|h
  ·exact aO
  ·have:=a h;exact aO
def ab7 (e:Ending):Prop:=∃(u:Lit) (b:Bool),e=.returned (.tuple #[.agg #[.bool u.neg,.int .u8 u.kind,.int .i64 u.a,.int .i64 u.b],.bool b])/\u.small
structure nY (w wx:World)(z0 z1 z2 z3 v0 v1 v2 v3:Value):Prop where
 r0:wx.cell? ⟨w.heap.size,0,none⟩=some z0
 r1:wx.cell? ⟨w.heap.size,1,none⟩=some z1
 r2:wx.cell? ⟨w.heap.size,2,none⟩=some z2
 r3:wx.cell? ⟨w.heap.size,3,none⟩=some z3
 rf:∀o,wx.frozen? ⟨w.heap.size,o,none⟩=false
 c0:wx.cell? ⟨w.heap.size+1,0,none⟩=some v0
 c1:wx.cell? ⟨w.heap.size+1,1,none⟩=some v1
 c2:wx.cell? ⟨w.heap.size+1,2,none⟩=some v2
 c3:wx.cell? ⟨w.heap.size+1,3,none⟩=some v3
 cf:∀o,wx.frozen? ⟨w.heap.size+1,o,none⟩=false
 dG:Below w.heap.size w wx
 lt:w.heap.size+1<wx.heap.size
theorem nY.below {b c d e f:Value}(h:nY w W v V y b c d e f)(a:Below W.heap.size W u):nY w u v V y b c d e f:=by
 have j:=h.lt;have t:∀{p:Addr} {g:Value},W.cell? p=some g->u.cell? p=some g:=fun i=>(a.cell (ai i)).trans i;exact⟨t h.r0,t h.r1,t h.r2,t h.r3,fun o=>(a.frozen (p:=⟨w.heap.size,o,none⟩) aW).trans (h.rf o),t h.c0,t h.c1,t h.c2,t h.c3,fun o=>(a.frozen (p:=⟨w.heap.size+1,o,none⟩) cK).trans (h.cf o),h.dG.trans (a.mono h.dG.size),Nat.lt_of_lt_of_le j a.size⟩
theorem nY.start (w:World)(a b c d e f g h:Value)(i j:TypeId):nY w ((w.alloc (.cells #[a,b,c,d] i)).alloc (.cells #[e,f,g,h] j)) a b c d e f g h:=
 ⟨aP,aP,aP,aP,fun o=>aP,aP,aP,aP,aP,fun o=>aP,ag.alloc aP _,aP⟩
theorem nY.set {d g i j k:Value}(h:nY w W v V y d g i j k)(f:Nat)(u:Value) :
 nY w (W.setCell ⟨w.heap.size+1,f,none⟩ u) v V y d (if f=0 then u else g) (if f=1 then u else i) (if f=2 then u else j) (if f=3 then u else k):=by
 have o:∀{q:Nat} {a:Value},W.cell? ⟨w.heap.size,q,none⟩=some a->(W.setCell ⟨w.heap.size+1,f,none⟩ u).cell? ⟨w.heap.size,q,none⟩=some a:=fun b=>(ak (fun e=>by injection e with e _;omega)).trans b
 have s:∀{q:Nat} {a:Value},W.cell? ⟨w.heap.size+1,q,none⟩=some a->(W.setCell ⟨w.heap.size+1,f,none⟩ u).cell? ⟨w.heap.size+1,q,none⟩=some (if f=q then u else a):=fun {q a} b=>by
  exact al8
 exact⟨o h.r0,o h.r1,o h.r2,o h.r3,fun q=>by rw[World.frozen?_setCell];exact h.rf q,s h.c0,s h.c1,s h.c2,s h.c3,fun q=>by rw[World.frozen?_setCell];exact h.cf q,h.dG.setCell ajY _,ajg⟩
theorem vE (x:List UInt8)(w:World)(hx:x.length<=1000000000) :
 Calls Tryz.prog 193 #[.string ⟨x.toArray⟩] w fun s w'=>ab7 s/\Below w.heap.size w w':=by
 have hR:=fJ;have G:=di (nY.start w (.bool false) (.int .u8 0) (.int .i64 0) (.int .i64 0) (.bool false) (.int .u8 0) (.int .i64 0) (.int .i64 0) 168 168);have H:Hid (ab7 (.returned (.tuple #[.agg #[.bool false,.int .u8 0,.int .i64 0,.int .i64 0],.bool false]))):=⟨⟨false,0,0,0⟩,false,rfl,by simp[Lit.small]⟩
 by_cases E:x.length<3
 ·have P:(x.length:Int)<3:=aO;clear E;go_enter Tryz.func193,Tryz.ntmps193;go_wp2_with fail;exact bodyPost_ret (v:=.tuple #[.agg #[.bool false,.int .u8 0,.int .i64 0,.int .i64 0],.bool false]) (by simp[results,Tryz.results193,go_sem]) rfl ⟨H.o,G.o.dG⟩
 ·obtain⟨h,a,z,t,rfl⟩:∃h a z t,x=h::a::z::t:=by
   match x,E with
   | [],A=>simp at A
   | [_],A=>simp at A
   | [_,_],A=>simp at A
   | b::d::bg::t,_=>exact⟨b,d,bg,t,rfl⟩
  have P:¬(((h::a::z::t).length:Int)<3):=by simp only[List.length_cons];omega
  have hrl:(z::t).length<=1000000000:=by simp only[List.length_cons]at hx ⊢;omega
  have yt:=di (fun bn=>F7 (z::t) 44 bn aO);have o:=a.toNat_lt;simp only[List.length_cons]at P
  by_cases Q:h.toNat≠43/\h.toNat≠45
  ·have R:((h.toNat:Int) !=43)=true:=aZ;have tb:((h.toNat:Int) !=45)=true:=aZ;clear Q;go_enter Tryz.func193,Tryz.ntmps193;go_wp2_with fail;exact bodyPost_ret (v:=.tuple #[.agg #[.bool false,.int .u8 0,.int .i64 0,.int .i64 0],.bool false]) (by simp[results,Tryz.results193,go_sem]) rfl ⟨H.o,G.o.dG⟩
  ·obtain⟨c,te⟩:=aJ (((h.toNat:Int)==45));have HB1:=di (nY.start w (.bool false) (.int .u8 0) (.int .i64 0) (.int .i64 0) (.bool c) (.int .u8 (a.toNat:Int)) (.int .i64 0) (.int .i64 0) 168 168)
   have hcase:(((h.toNat:Int) !=43)=false)\/(((h.toNat:Int) !=43)=true/\((h.toNat:Int) !=45)=false):=by
    by_cases h43:h.toNat=43
    ·left;rw[bne_eq_false_iff_eq];omega
    ·right
     have h45:h.toNat=45:=aO;exact⟨aZ,aim⟩
   clear Q G H;rcases hcase with R|⟨R,tb⟩
   all_goals
    go_enter Tryz.func193,Tryz.ntmps193;go_wp2_with fail;refine(yt.o _).mono ?_;rintro s I ⟨⟨bA,u,rfl,J,S,hsum⟩,T⟩;obtain⟨av,cv,hv,q1,q2,U⟩:=dQ J;subst hv;have V:=di (HB1.o.below T)
    have W:Hid (∀y∈u,y.length<=1000000000):=fun y hy=>by
     have h1:y.length<=(u.map List.length).sum:=uS (List.mem_map_of_mem hy);exact aO
    have K:Hid (∀p,p<u.length->∃r y,av=some ⟨r,0,none⟩/\y∈u/\I.cell? ⟨r,p,none⟩=some (.string ⟨y.toArray⟩)):=fun p B=>by
     obtain⟨r,h1,h2,_⟩:=U p B;exact⟨r,u[p],h1,List.getElem_mem B,by rw[h2];simp[B,dO]⟩
    obtain⟨N,X⟩:=aJ u.length;rw[X]at q1 S K ⊢;obtain⟨r,Y,rfl,Z,d0⟩:=K.o 0 S;have LG:=di (nk Y I (by have:=W.o Y Z;omega));have v:=V.o;have b2:=v.c2;have b1:=v.c1;have b0:=v.c0;have b3:=v.c3;have bf:=v.cf;have HG:Hid (w.heap.size+1+1<=r):=by show _<=_;have:=(J.lt r rfl).1;simpa using this
    clear J hsum U T X Z v;go_wp2_with fail;refine LG.o.mono ?_;rintro s w2 ⟨⟨b,xb,ha,rfl⟩,hw2⟩;have zI:=hw2.symm;subst zI;have q:=di ha;obtain⟨C,hw3⟩:∃C,I.setCell ⟨w.heap.size+1,2,none⟩ (.int .i64 (b:Nat))=C:=⟨_,rfl⟩;have g:=V.o.set 2 (.int .i64 (b:Nat));rw[hw3]at g;simp only[if_pos,Nat.reduceEqDiff,ite_false]at g;have f:=di g;have e0:=g.c0;have e1:=g.c1;have e2:=g.c2;have e3:=g.c3;have ef:=g.cf;have er:=g.rf;have er0:=g.r0;have er1:=g.r1;have er2:=g.r2;have er3:=g.r3
    have afk:Hid (∀p,p<N->∃y,y∈u/\C.cell? ⟨r,p,none⟩=some (.string ⟨y.toArray⟩)):=fun p B=>by
     obtain⟨g',y,h1,h2,E⟩:=K.o p B;injection h1 with h1
     injection h1 with h1;subst h1;exact⟨y,h2,by rw[<-hw3];exact(ak (fun s=>by injection s with s _;have:=HG.o;omega)).trans E⟩
    clear g ha hw2 d0
    by_cases hT:a.toNat=84
    ·have tT:((a.toNat:Int)==84)=true:=bz;obtain⟨L,M,i,j,k,l,n⟩:=nC f.o.r0 f.o.r1 f.o.r2 f.o.r3 (.bool c) (.int .u8 (a.toNat:Int)) (.int .i64 (b:Nat)) (.int .i64 0);have m:=di (n _ _ f.o.dG ae);clear n hT;cases xb
     case' true=>
      obtain⟨bN,tN⟩:=aJ (((N:Int)==1));cases bN
     all_goals
      go_wp2_with fail
      first
      | (refine bodyPost_ret (v:=.tuple #[.agg #[.bool c,.int .u8 a.toNat,.int .i64 (b:Nat),.int .i64 0],.bool false]) ?h1 rfl ?h2;(case h1=>(simp[results,Tryz.results193,go_sem,i,j,k,l];done));(case h2=>exact⟨⟨⟨c,a.toNat,b,0⟩,false,rfl,o,q.o,bV⟩,m.o⟩))
      | (refine bodyPost_ret (v:=.tuple #[.agg #[.bool c,.int .u8 a.toNat,.int .i64 (b:Nat),.int .i64 0],.bool true]) ?h1 rfl ?h2;(case h1=>(simp[results,Tryz.results193,go_sem,i,j,k,l];done));(case h2=>exact⟨⟨⟨c,a.toNat,b,0⟩,true,rfl,o,q.o,bV⟩,m.o⟩))
    ·have tT:((a.toNat:Int)==84)=false:=aj aO;clear hT
     by_cases O:N=2
     ·have tN:((N:Int) !=2)=false:=aim
      by_cases D:a.toNat=69\/a.toNat=76
      ·obtain⟨y1,hy1,d1⟩:=afk.o 1 aO;have kG:=di (nk y1 C (by have:=W.o y1 hy1;omega));have Wz:(1:Int)<(N:Int):=aO
       have hK2:(((a.toNat:Int) !=69)=false/\((a.toNat:Int)==76)=false)\/(((a.toNat:Int) !=69)=true/\((a.toNat:Int) !=76)=false/\((a.toNat:Int)==76)=true):=by
        rcases D with D|D
        ·left;exact⟨aim,aj aO⟩
        ·right;exact⟨aZ,aim,bz⟩
       clear D O hy1;rcases hK2 with ⟨tk1,tk3⟩|⟨tk1,tk2,tk3⟩
       all_goals
        go_wp2_with fail;refine kG.o.mono ?_;rintro s w4 ⟨⟨d,yb,hb,rfl⟩,hw4⟩;have V4:=hw4.symm;subst V4;have F:=di hb;obtain⟨w5,jR⟩:∃w5,C.setCell ⟨w.heap.size+1,3,none⟩ (.int .i64 (d:Nat))=w5:=⟨_,rfl⟩;have e:=f.o.set 3 (.int .i64 (d:Nat));rw[jR]at e;simp only[if_pos,Nat.reduceEqDiff,ite_false]at e;have k0:=e.c0;have k1:=e.c1;have k2:=e.c2;have k3:=e.c3;have kr:=e.rf;have xu:=e.r0;have xq:=e.r1;have xn:=e.r2;have xm:=e.r3;obtain⟨L,M,i,j,k,l,n⟩:=nC e.r0 e.r1 e.r2 e.r3 (.bool c) (.int .u8 (a.toNat:Int)) (.int .i64 (b:Nat)) (.int .i64 (d:Nat));have m:=di (n _ _ e.dG ae);clear n e hb hw4;cases xb
        case' true=>cases yb
        all_goals
         go_wp2_with fail
         first
         | (refine bodyPost_ret (v:=.tuple #[.agg #[.bool c,.int .u8 a.toNat,.int .i64 (b:Nat),.int .i64 (d:Nat)],.bool false]) ?h1 rfl ?h2;(case h1=>(simp[results,Tryz.results193,go_sem,i,j,k,l];done));(case h2=>exact⟨⟨⟨c,a.toNat,b,d⟩,false,rfl,o,q.o,F.o⟩,m.o⟩))
         | (refine bodyPost_ret (v:=.tuple #[.agg #[.bool c,.int .u8 a.toNat,.int .i64 (b:Nat),.int .i64 (d:Nat)],.bool true]) ?h1 rfl ?h2;(case h1=>(simp[results,Tryz.results193,go_sem,i,j,k,l];done));(case h2=>exact⟨⟨⟨c,a.toNat,b,d⟩,true,rfl,o,q.o,F.o⟩,m.o⟩))
         | (refine bodyPost_ret (v:=.tuple #[.agg #[.bool c,.int .u8 a.toNat,.int .i64 (b:Nat),.int .i64 (d:Nat)],.bool (decide (b<d))]) ?h1 rfl ?h2;(case h1=>(simp[results,Tryz.results193,go_sem,i,j,k,l];done));(case h2=>exact⟨⟨⟨c,a.toNat,b,d⟩,(decide (b<d)),rfl,o,q.o,F.o⟩,m.o⟩))
         | (refine bodyPost_ret (v:=.tuple #[.agg #[.bool c,.int .u8 a.toNat,.int .i64 (b:Nat),.int .i64 (d:Nat)],.bool (decide ((b:Int)<(d:Int)))]) ?h1 rfl ?h2;(case h1=>(simp[results,Tryz.results193,go_sem,i,j,k,l];done));(case h2=>exact⟨⟨⟨c,a.toNat,b,d⟩,(decide ((b:Int)<(d:Int))),rfl,o,q.o,F.o⟩,m.o⟩))
      ·have tk1:((a.toNat:Int) !=69)=true:=aZ;have tk2:((a.toNat:Int) !=76)=true:=aZ;obtain⟨L,M,i,j,k,l,n⟩:=nC f.o.r0 f.o.r1 f.o.r2 f.o.r3 (.bool c) (.int .u8 (a.toNat:Int)) (.int .i64 (b:Nat)) (.int .i64 0);have m:=di (n _ _ f.o.dG ae);clear n D O;go_wp2_with fail
       first
       | (refine bodyPost_ret (v:=.tuple #[.agg #[.bool c,.int .u8 a.toNat,.int .i64 (b:Nat),.int .i64 0],.bool false]) ?h1 rfl ?h2;(case h1=>(simp[results,Tryz.results193,go_sem,i,j,k,l];done));(case h2=>exact⟨⟨⟨c,a.toNat,b,0⟩,false,rfl,o,q.o,bV⟩,m.o⟩))
       | (refine bodyPost_ret (v:=.tuple #[.agg #[.bool c,.int .u8 a.toNat,.int .i64 (b:Nat),.int .i64 0],.bool true]) ?h1 rfl ?h2;(case h1=>(simp[results,Tryz.results193,go_sem,i,j,k,l];done));(case h2=>exact⟨⟨⟨c,a.toNat,b,0⟩,true,rfl,o,q.o,bV⟩,m.o⟩))
     ·have tN:((N:Int) !=2)=true:=aZ;obtain⟨L,M,i,j,k,l,n⟩:=nC f.o.r0 f.o.r1 f.o.r2 f.o.r3 (.bool c) (.int .u8 (a.toNat:Int)) (.int .i64 (b:Nat)) (.int .i64 0);have m:=di (n _ _ f.o.dG ae);clear n O;go_wp2_with fail
      first
      | (refine bodyPost_ret (v:=.tuple #[.agg #[.bool c,.int .u8 a.toNat,.int .i64 (b:Nat),.int .i64 0],.bool false]) ?h1 rfl ?h2;(case h1=>(simp[results,Tryz.results193,go_sem,i,j,k,l];done));(case h2=>exact⟨⟨⟨c,a.toNat,b,0⟩,false,rfl,o,q.o,bV⟩,m.o⟩))
      | (refine bodyPost_ret (v:=.tuple #[.agg #[.bool c,.int .u8 a.toNat,.int .i64 (b:Nat),.int .i64 0],.bool true]) ?h1 rfl ?h2;(case h1=>(simp[results,Tryz.results193,go_sem,i,j,k,l];done));(case h2=>exact⟨⟨⟨c,a.toNat,b,0⟩,true,rfl,o,q.o,bV⟩,m.o⟩))
end Go.Proofs.YtbichedkajfmiaaGreatDoor
