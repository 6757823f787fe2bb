import Derived.Test.YtbichedkajfmiaaGreatDoorGUni2
import Derived.Test.YtbichedkajfmiaaGreatDoorC
set_option maxRecDepth 100000
set_option maxHeartbeats 16000000
namespace Go.Proofs.YtbichedkajfmiaaGreatDoor
open Go.RowKit
variable {B b:List Value}{F f:List Int}{V v y:Value}{W u w:World}{X:dX}{Z z:Int}{e:TypeId}{h:Ending}{i k m n:Nat}
def str (z:Int):Value:=.string ⟨(dn.dec z).toArray⟩
theorem U0:str 0=.string ⟨#[48]⟩:=rfl
theorem oq {size:Nat}(h:w.ownsRow n e size v k b)(a:m<=n):w.ownsRow m e size v k b:=by
 refine⟨h.1,?_⟩;rcases h.2 with c|⟨g,d,f,i,j,l⟩
 ·exact .inl c
 ·exact .inr ⟨g,d,f,i,Nat.le_trans a j,l⟩
theorem dQ (h:w.ownsRow n e 1 v m b):∃c a,v=.slice c m a/\m<=a/\a<=2 ^ 63-1/\∀i,i<m->∃g,c=some ⟨g,0,none⟩/\w.cell? ⟨g,i,none⟩=b[i]?/\w.frozen? ⟨g,i,none⟩=false:=by
 have d:=h;rcases h.2 with ⟨rfl,j⟩|⟨g,a,l,rfl,_,_,k,f,_⟩
 ·exact⟨none,0,by rw[j],aO,aO,fun i hi=>aO⟩
 ·unfold maxLen at f;refine⟨some ⟨g,0,none⟩,a,rfl,k,f,fun i hi=>⟨g,rfl,?_,d.frozenAt i⟩⟩;rw[d.cellAt i aO]
def vM (w':World)(base:Nat)(zs:List Int)(c:Int)(e:Ending):Prop:=
 ∃vs,e=.returned (.agg #[vs,str c])/\w'.ownsRow base 9 1 vs zs.length (zs.map str)
structure lL (B:Nat)(wx:World)(vs:Value)(k:Nat)(xs:List Value):Prop where
 c0:wx.cell? ⟨B+1,0,none⟩=some vs
 c1:wx.cell? ⟨B+1,1,none⟩=some (.string ⟨#[]⟩)
 fr:∀o,wx.frozen? ⟨B+1,o,none⟩=false
 r0:wx.cell? ⟨B,0,none⟩=some (.slice none 0 0)
 r1:wx.cell? ⟨B,1,none⟩=some (.string ⟨#[]⟩)
 rf:∀o,wx.frozen? ⟨B,o,none⟩=false
 own:wx.ownsRow (B+2) 9 1 vs k xs
 size:B+1<wx.heap.size
theorem lL.after (h:lL n w v m b)(a:Below w.heap.size w W):lL n W v m b:=by
 have c:=h.size
 exact⟨(a.cell (p:=⟨n+1,0,none⟩) c).trans h.c0,(a.cell (p:=⟨n+1,1,none⟩) c).trans h.c1,fun o=>(a.frozen (p:=⟨n+1,o,none⟩) c).trans (h.fr o),
  (a.cell (p:=⟨n,0,none⟩) dh).trans h.r0,(a.cell (p:=⟨n,1,none⟩) dh).trans h.r1,fun o=>(a.frozen (p:=⟨n,o,none⟩) dh).trans (h.rf o),
  ownsRow_below h.own a,Nat.lt_of_lt_of_le c a.size⟩
theorem lL.app (h:lL n w v m b)(X:Obj)(a:lH (w.alloc X) W (n+1) 0 (n+2) 9 1 v V (m+1) B):lL n W V (m+1) B/\Below (n+1) w W:=by
 have f:=h.size;have d:Below w.heap.size w (w.alloc X):=af.alloc ae X;have c:=h.after d;have e:=a.size
 refine⟨⟨a.cell,(a.cells 1 aO).trans c.c1,fun o=>(a.frozen o).trans (c.fr o),
  (a.below.cell (p:=⟨n,0,none⟩) dh).trans c.r0,(a.below.cell (p:=⟨n,1,none⟩) dh).trans c.r1,fun o=>(a.below.frozen (p:=⟨n,o,none⟩) dh).trans (c.rf o),
  a.own,Nat.lt_of_lt_of_le c.size e⟩,(d.mono aO).trans a.below⟩
theorem lL.done (h:lL n W v m b)(a:Below w.heap.size w W)(e:w.heap.size<=n)(u:Value) :
 ((W.setCell ⟨n+1,1,none⟩ u).setCell ⟨n,0,none⟩ v).cell? ⟨n,0,none⟩=some v/\(((W.setCell ⟨n+1,1,none⟩ u).setCell ⟨n,0,none⟩ v).setCell ⟨n,1,none⟩ u).cell? ⟨n,1,none⟩=some u/\
 (((W.setCell ⟨n+1,1,none⟩ u).setCell ⟨n,0,none⟩ v).setCell ⟨n,1,none⟩ u).ownsRow w.heap.size 9 1 v m b/\Below w.heap.size w (((W.setCell ⟨n+1,1,none⟩ u).setCell ⟨n,0,none⟩ v).setCell ⟨n,1,none⟩ u):=by
 have c:(W.setCell ⟨n+1,1,none⟩ u).cell? ⟨n,0,none⟩=some (.slice none 0 0):=(ak (fun h=>ajA)).trans h.r0;have d:((W.setCell ⟨n+1,1,none⟩ u).setCell ⟨n,0,none⟩ v).cell? ⟨n,1,none⟩=some (.string ⟨#[]⟩):=(ak (fun h=>cu)).trans ((ak (fun h=>ajA)).trans h.r1)
 exact⟨World.cell?_setCell_same _ _ v c,World.cell?_setCell_same _ _ u d,oq (ownsRow_setCell_below (a:=⟨n,1,none⟩) (ownsRow_setCell_below (a:=⟨n,0,none⟩) (ownsRow_setCell_below (a:=⟨n+1,1,none⟩) h.own (by show n+1<_;omega) _) dh _) dh _) aO,
  ((a.setCell (by show _<=n+1;omega) _).setCell (by show _<=n;omega) _).setCell (by show _<=n;omega) _⟩
theorem lL.start (w:World):lL w.heap.size ((w.alloc (.cells #[.slice none 0 0,.string ⟨#[]⟩] 264)).alloc (.cells #[.slice none 0 0,.string ⟨#[]⟩] 264)) (.slice none 0 0) 0 []:=
 ⟨aP,aP,ah6,aP,aP,ah6,World.ownsRow_nil _ _ _ _,aP⟩
theorem zi (n:Nat)(w:World)(N:n<=1000000) :
 Calls Tryz.prog 206 #[.int .i64 n] w fun e j=>vM j w.heap.size (List.replicate n 0) 0 e/\Below w.heap.size w j:=by
 obtain⟨y,hi,z,A,B⟩:=info_parts Tryz.oC;go_enter Tryz.func206,Tryz.ntmps206;go_wp2_with fail
 go_loopw [4] (fun i wr=>∃(k:Nat) (l:Value),i=.int .i64 k/\k<=n/\lL w.heap.size wr l k (List.replicate k (str 0))/\Below w.heap.size w wr) (fun i _=>n-(intOf i).toNat)
 case atStart=>
  exact⟨0,.slice none 0 0,rfl,aO,⟨aP,aP,ah6,aP,aP,ah6,World.ownsRow_nil _ _ _ _,aP⟩,ag.alloc aP _⟩
 case round=>
  obtain⟨k,l,rfl,O,a,m⟩:=hrel;have C:=di a;obtain⟨b,c,rfl,P,Q,_⟩:=dQ a.own;have p:=a.c0;have R:=a.c1;have D:=a.fr;have E:=a.r0;have F:=a.r1;have S:=a.rf;have d:=a.own;have g:=a.size;have r:∀q,(Value.slice b k c).ownBlock=some q->w.heap.size+2<=q:=fun q G=>(d.lt q G).1
  by_cases T:k<n
  ·clear a;go_wp2_with (at_builtin;refine dD rfl (.tmp 11) (.tmp 12) 45 rfl (w.heap.size+2) 9 y (.string ⟨#[]⟩) 1 16 Tryz.underlying45 hi z A B rfl aR (.slice b k c) k (List.replicate k (str 0)) rfl (by exact(d.alloc _)) ⟨wr.heap.size,0,none⟩ 1 [.string ⟨#[48]⟩] rfl rfl bM bX aX aO aQ ?_;intro U V s t f H u;have W:s.cell? ⟨w.heap.size+1,0,none⟩=some (.slice b k c):=((dP f (a:=⟨w.heap.size+1,0,none⟩) aQ (fun e=>by have:=r (w.heap.size+1) e.symm;omega)).trans (dC wr _ _ g)).trans p;have X:s.frozen? ⟨w.heap.size+1,0,none⟩=false:=((dS f (a:=⟨w.heap.size+1,0,none⟩) aQ (fun e=>by have:=r (w.heap.size+1) e.symm;omega)).trans (dI wr _ _ g)).trans (D 0));have v:=fE (eb:=w.heap.size+1) (f:=0) aO (d.alloc _) aQ ((dC wr _ _ g).trans p) t f u;have x:=di (C.o.app _ v);clear v t f H u;go_wp2_with fail;go_roundw
   case rel=>exact⟨k+1,_,bJ,aO,by rw[List.replicate_succ'];exact x.o.1,m.trans (x.o.2.mono aO)⟩
   case measure=>exact akL
  ·clear a;go_wp2_with fail;have I:k=n:=aO;subst I;have J:(wr.setCell ⟨w.heap.size+1,1,none⟩ (.string ⟨#[48]⟩)).cell? ⟨w.heap.size,0,none⟩=some (.slice none 0 0):=(ak (fun h=>ajA)).trans E;have K:((wr.setCell ⟨w.heap.size+1,1,none⟩ (.string ⟨#[48]⟩)).setCell ⟨w.heap.size,0,none⟩ (.slice b k c)).cell? ⟨w.heap.size,1,none⟩=some (.string ⟨#[]⟩):=(ak (fun h=>cu)).trans ((ak (fun h=>ajA)).trans F);have L:=World.cell?_setCell_same _ _ (.slice b k c) J;have M:=World.cell?_setCell_same _ _ (.string ⟨#[48]⟩) K
   exact bodyPost_ret (v:=.agg #[.slice b k c,str 0]) (by simp[results,Tryz.results206,go_sem,L,M,U0]) rfl ⟨⟨_,rfl,by
    rw[List.length_replicate,List.map_replicate];exact oq (ownsRow_setCell_below (a:=⟨w.heap.size,1,none⟩) (ownsRow_setCell_below (a:=⟨w.heap.size,0,none⟩) (ownsRow_setCell_below (a:=⟨w.heap.size+1,1,none⟩) d cK _) aW _) aW _) aO⟩,((m.setCell ajY _).setCell ae _).setCell ae _⟩
def dV (w:World)(v:Value)(zs:List Int):Prop:=fA v zs.length (fun g i=>∀h:i<zs.length,w.cell? ⟨g,i,none⟩=some (.string ⟨(dn.dec zs[i]).toArray⟩))
theorem dV.below (h:dV w v f)(c:Below w.heap.size w W):dV W v f:=
 fA.imp h fun g i _ a b=>(c.cell (p:=⟨g,i,none⟩) (ai (a b))).trans (a b)
theorem dV.dW {base:Nat}{zs:List Int}(h:w.ownsRow base 9 1 v zs.length (zs.map str)):dV w v zs:=by
 obtain⟨a,b,rfl,c,k,d⟩:=dQ h;refine⟨a,b,rfl,c,aX,fun i hi=>?_⟩;obtain⟨g,e,f,_⟩:=d i hi;exact⟨g,e,fun j=>by rw[f];simp[j,str]⟩
theorem Da (b:(dn.dec z).length<=n)(c:(dn.dec Z).length<=m):(dn.dec (z*Z)).length<=n+m+1:=by
 have a:=dn.mK (z*Z);have d:=dn.xH z.natAbs Z.natAbs;have e:=dn.gq z;have f:=dn.gq Z;rw[Int.natAbs_mul]at a;exact aO
theorem eF {o:Obj}{p:Addr}(h:w.cell? p=some v):(w.alloc o).cell? p=some v:=
 (((Below.refl w.heap.size w).alloc ae o).cell (ai h)).trans h
theorem Rz (a:List Int)(k:Nat)(h:k<a.length):(a.take (k+1)).map str=(a.take k).map str++[str a[k]]:=by
 rw[List.take_succ_eq_append_getElem h,List.map_append];rfl
theorem JB (R S:Value)(a b:List Int)(j k h:Int)(w:World)(hs:dV w R a)(ht:dV w S b)(T:b.length=a.length)(hn:a.length<=1000000)
 (u:∀F∈a,(dn.dec F).length<=300000000000) (p:∀F∈b,(dn.dec F).length<=300000000000) (U:(dn.dec j).length<=300000000000) (V:(dn.dec k).length<=300000000000) (W:(dn.dec h).length<=300000000000) :
 Calls Tryz.prog 207 #[.agg #[R,.string ⟨(dn.dec j).toArray⟩],.string ⟨(dn.dec k).toArray⟩,.agg #[S,.string ⟨(dn.dec h).toArray⟩]] w fun e m=>vM m w.heap.size (List.zipWith (fun d f=>d+k*f) a b) (j+k*h) e/\Below w.heap.size w m:=by
 obtain⟨i0,hi,hz0,hz1,hz2⟩:=info_parts Tryz.oC;obtain⟨X,Y,rfl,agI,acW,Z⟩:=hs;obtain⟨aT,abW,rfl,agH,acV,abr⟩:=ht;unfold maxLen at acW acV;have af0:=di Z;have afZ:=di abr;have HLEN:=di T;have HBZ:=di u;have HBU:=di p;have acx:Hid (∀(x:Int) (g:World),(dn.dec x).length<=300000000000->Calls Tryz.prog 156 #[.string ⟨(dn.dec k).toArray⟩,.string ⟨(dn.dec x).toArray⟩] g fun e m=>e=.returned (.string ⟨(dn.dec (k*x)).toArray⟩)/\Below g.heap.size g m):=fun x g hx=>N7 k x g aO aO;have wQ:Hid (∀(x y:Int) (g:World),(dn.dec x).length<=300000000000->(dn.dec y).length<=300000000000->Calls Tryz.prog 157 #[.string ⟨(dn.dec x).toArray⟩,.string ⟨(dn.dec (k*y)).toArray⟩] g fun e m=>e=.returned (.string ⟨(dn.dec (x+k*y)).toArray⟩)/\Below g.heap.size g m):=fun x y g hx hy=>sM x (k*y) g aO (by have:=Da V hy;omega);have Im:=di U;have y8:=di W;have hl1:a.length<=b.length:=aO;have hl2:b.length<=1000000:=aO;clear Z abr u p V U W T;go_enter Tryz.func207,Tryz.ntmps207;go_wp2_with fail
 go_loopw [8] (fun G wr=>∃(q:Nat) (vo:Value),G=.int .i64 q/\q<=a.length/\lL (w.heap.size+1+1) wr vo q (((List.zipWith (fun d f=>d+k*f) a b).take q).map str)/\Below w.heap.size w wr/\
  wr.cell? ⟨w.heap.size,0,none⟩=some (.slice X a.length Y)/\wr.cell? ⟨w.heap.size,1,none⟩=some (.string ⟨(dn.dec j).toArray⟩)/\wr.cell? ⟨w.heap.size+1,0,none⟩=some (.slice aT b.length abW)/\wr.cell? ⟨w.heap.size+1,1,none⟩=some (.string ⟨(dn.dec h).toArray⟩)) (fun G _=>a.length-(intOf G).toNat)
 case atStart=>
  have e:∀d f:Obj,((w.alloc d).alloc f).heap.size=w.heap.size+1+1:=by intro d f;simp
  have hst:=lL.start ((w.alloc (.cells #[.slice X a.length Y,.string ⟨(dn.dec j).toArray⟩] 264)).alloc (.cells #[.slice aT b.length abW,.string ⟨(dn.dec h).toArray⟩] 264));rw[e]at hst;exact⟨0,.slice none 0 0,rfl,aO,hst,((ag.alloc aP _).alloc aQ _).alloc aQ _,eF (eF (eF aP)),eF (eF (eF aP)),eF (eF aP),eF (eF aP)⟩
 case round=>
  obtain⟨q,vo,rfl,hq,v,n,z,A,H,I⟩:=hrel;have ug:=di v;have hsz:=v.size
  by_cases J:q<a.length
  ·obtain⟨gs,hgs,K⟩:=af0.o q J;obtain⟨gt,hgt,L⟩:=afZ.o q aO;subst hgs hgt;have ct1:=(n.cell (p:=⟨gt,q,none⟩) (ai (L aO))).trans (L aO);have M:=(n.cell (p:=⟨gs,q,none⟩) (ai (K J))).trans (K J);have u:=HBZ.o a[q] aP;have p:=HBU.o (b[q]' aO) aP
   have jO:Hid (((List.zipWith (fun d f=>d+k*f) a b).take (q+1)).map str=((List.zipWith (fun d f=>d+k*f) a b).take q).map str++[.string ⟨(dn.dec (a[q]+k*b[q]' aO)).toArray⟩]):=by
    show _=_;rw[Rz _ _ aQ];simp[str]
   generalize b[q]' aO=y at *;generalize a[q]=x at *;generalize ((List.zipWith (fun d f=>d+k*f) a b).take q).map str=xs0 at *;clear v K L;go_wp2_with fail;refine(acx.o y _ p).mono ?_;rintro e w2 ⟨rfl,l⟩;have s0':=(l.cell (p:=⟨w.heap.size,0,none⟩) aW).trans z;have cs2:=(l.cell (p:=⟨gs,q,none⟩) (ai M)).trans M;clear M ct1;go_wp2_with fail;refine(wQ.o x y _ u p).mono ?_;rintro e r ⟨rfl,N⟩;have i:=l.trans (N.mono l.size);have B:=di (ug.o.after i);have c:=B.o;have s03:=(i.cell (p:=⟨w.heap.size,0,none⟩) aW).trans z;have s13:=(i.cell (p:=⟨w.heap.size,1,none⟩) aW).trans A;have t03:=(i.cell (p:=⟨w.heap.size+1,0,none⟩) cK).trans H;have t13:=(i.cell (p:=⟨w.heap.size+1,1,none⟩) cK).trans I;have O:=n.trans (i.mono n.size);have C:=c.own;obtain⟨s,t,P,hcap,hmax,_⟩:=dQ C;subst P;have hb0:=c.c0;have hf0:=c.fr;have Q:=c.size;have hnb:∀D,(Value.slice s q t).ownBlock=some D->w.heap.size+1+1+2<=D:=fun D hr=>(C.lt D hr).1;clear c cs2 s0' z A H I;go_wp2_with (at_builtin;refine dD rfl (.tmp 34) (.tmp 36) 45 rfl (w.heap.size+1+1+2) 9 i0 (.string ⟨#[]⟩) 1 16 Tryz.underlying45 hi hz0 hz1 hz2 rfl aR (.slice s q t) q xs0 rfl (by exact(C.alloc _)) ⟨r.heap.size,0,none⟩ 1 [.string ⟨(dn.dec (x+k*y)).toArray⟩] rfl rfl bM bX aX aO aQ ?_;intro ga eZ w4 hown' E hg1 hg2;have q1:w4.cell? ⟨w.heap.size+1+1+1,0,none⟩=some (.slice s q t):=((dP E (a:=⟨w.heap.size+1+1+1,0,none⟩) aQ (fun e=>by have:=hnb (w.heap.size+1+1+1) e.symm;omega)).trans (dC r _ _ Q)).trans hb0;have q2:w4.frozen? ⟨w.heap.size+1+1+1,0,none⟩=false:=((dS E (a:=⟨w.heap.size+1+1+1,0,none⟩) aQ (fun e=>by have:=hnb (w.heap.size+1+1+1) e.symm;omega)).trans (dI r _ _ Q)).trans (hf0 0));have hap:=fE (eb:=w.heap.size+1+1+1) (f:=0) aO (C.alloc _) aQ ((dC r _ _ Q).trans hb0) hown' E hg2;have o:=di (B.o.app _ hap);clear hap hown' E hg1 hg2;go_wp2_with fail;go_roundw
   case rel=>exact⟨q+1,_,bJ,aO,by have bg:=jO.o;rw[bg];exact o.o.1,O.trans (o.o.2.mono aO),(o.o.2.cell (p:=⟨w.heap.size,0,none⟩) aW).trans s03,(o.o.2.cell (p:=⟨w.heap.size,1,none⟩) aW).trans s13,(o.o.2.cell (p:=⟨w.heap.size+1,0,none⟩) cK).trans t03,(o.o.2.cell (p:=⟨w.heap.size+1,1,none⟩) cK).trans t13⟩
   case measure=>exact akL
  ·clear v;have hqn:q=a.length:=aO;subst hqn;go_wp2_with fail;refine(acx.o h _ y8.o).mono ?_;rintro e w2 ⟨rfl,l⟩;have s1':=(l.cell (p:=⟨w.heap.size,1,none⟩) aW).trans A;go_wp2_with fail;refine(wQ.o j h _ Im.o y8.o).mono ?_;rintro e r ⟨rfl,N⟩;have i:=l.trans (N.mono l.size);have B:=di (ug.o.after i);have O:=n.trans (i.mono n.size);have c:=B.o;have c0:=c.c0;have c1:=c.c1;have fr:=c.fr;have r0:=c.r0;have r1:=c.r1;have rf:=c.rf;obtain⟨s,t,P,hcap,hmax,_⟩:=dQ c.own;subst P;have hdn:=c.done O aO (.string ⟨(dn.dec (j+k*h)).toArray⟩);have Ol:=di hdn;clear c hdn s1' z A H I;go_wp2_with fail;obtain⟨d0,d1,d2,d3⟩:=Ol.o;refine bodyPost_ret (v:=.agg #[.slice s a.length t,str (j+k*h)]) (by simp[results,Tryz.results207,go_sem,d0,d1,str]) rfl ⟨⟨_,rfl,?_⟩,d3⟩;have hl:=HLEN.o;rw[List.take_of_length_le aQ]at d2;rw[show(List.zipWith (fun d f=>d+k*f) a b).length=a.length by simp;omega];exact d2
def big (a:Nat):Nat:=10 ^ (10*(a+1))
def low (a:Nat):Nat:=10 ^ (10*a)
theorem sH (a:Nat):big a=low a*10000000000:=by
 unfold big low;rw[show 10*(a+1)=10*a+10 by omega,Nat.pow_add]
theorem sj (a:Nat):1<=low a:=Nat.pos_of_ne_zero (by unfold low;simp)
theorem kX (h:n<m):big n<=low m:=by
 unfold big low;exact Nat.pow_le_pow_right aO aO
theorem pq (h:z.natAbs<=big n)(b:n<1000):(dn.dec z).length<=300000000000:=by
 have c:=dn.mK z;have a:z.natAbs<10 ^ (10*(n+1)+1):=Nat.lt_of_le_of_lt h (Nat.pow_lt_pow_right aO aO);have d:=dn.lG a;exact aO
theorem Tn {z:Int}(h:(dn.dec z).length<=8):z.natAbs<=100000000:=by
 have a:=dn.gq z;have b:=dn.Ch z.natAbs;have c:10 ^ (dn.D z.natAbs).length<=10 ^ 8:=Nat.pow_le_pow_right aO aO;exact aO
theorem Le {y:Int}(c:z.natAbs<=n)(a:Z.natAbs<=m)(b:y.natAbs<=k):(z+Z*y).natAbs<=n+m*k:=by
 have d:(Z*y).natAbs<=m*k:=by rw[Int.natAbs_mul];exact Nat.mul_le_mul a b
 have e:=Int.natAbs_add_le z (Z*y);exact aO
theorem UG (c:∀a∈f,a.natAbs<=n)(e:z.natAbs<=m)(d:∀a∈F,a.natAbs<=k):∀a∈List.zipWith (fun g i=>g+z*i) f F,a.natAbs<=n+m*k:=by
 intro a b
 induction f generalizing F with
 | nil=>simp at b
 | cons x l j=>
  cases F with
  | nil=>simp at b
  | cons y o=>
   simp only[List.zipWith_cons_cons,List.mem_cons]at b;rcases b with rfl|b
   ·exact Le (c x aP) e (d y aP)
   ·exact j (fun a h=>c a (by simp[h])) (fun a h=>d a (by simp[h])) b
def jw (ts:List dX)(a:Nat):Prop:=∃h:a<ts.length,ts[a].op=14\/(ts[a].op=15/\∃j,∃hj:j<ts.length,ts[a].args=[j]/\ts[j].op=14)
def wH (ts:List dX):Prop:=∀i (h:i<ts.length),ts[i].op=18->∃j k,ts[i].args=[j,k]/\jw ts j
def E9 (ts:List dX)(a:Nat)(w':World)(base:Nat)(e:Ending):Prop:=
 ∃zs c,vM w' base zs c e/\zs.length=ts.length/\(∀z∈zs,z.natAbs<=big a)/\c.natAbs<=big a/\(jw ts a->c.natAbs<=100000000)
theorem zz {size:Nat}(h:w.ownsRow n e size v m b){a:Addr}(d:v.ownBlock≠some a.block)(u:Value):(w.setCell a u).ownsRow n e size v m b:=by
 refine⟨h.1,?_⟩;rcases h.2 with f|⟨g,i,j,c,k,l,r⟩
 ·exact .inl f
 ·refine .inr ⟨g,i,j,c,k,?_,r⟩;rw[aC (fun e=>d (by rw[c,<-e];rfl))];exact l
structure l9 (w wx:World)(sb:Nat)(t:dX)(va:Value)(vs:Value)(zs:List Int)(c:Int):Prop where
 c0:wx.cell? ⟨sb,0,none⟩=some vs
 c1:wx.cell? ⟨sb,1,none⟩=some (.string ⟨(dn.dec c).toArray⟩)
 fr:∀o,wx.frozen? ⟨sb,o,none⟩=false
 own:wx.ownsRow (w.heap.size+1+1) 9 1 vs zs.length (zs.map str)
 ne:vs.ownBlock≠some sb
 box:jc wx (w.heap.size+1) t va
 r0:wx.cell? ⟨w.heap.size,0,none⟩=some (.slice none 0 0)
 r1:wx.cell? ⟨w.heap.size,1,none⟩=some (.string ⟨#[]⟩)
 rf:∀o,wx.frozen? ⟨w.heap.size,o,none⟩=false
 below:Below w.heap.size w wx
 lo:w.heap.size+1<sb
 hi:sb<wx.heap.size
theorem l9.after (h:l9 w W n X v V f z)(a:Below W.heap.size W u):l9 w u n X v V f z:=by
 have c:=h.lo;have b:=h.hi
 exact⟨(a.cell (p:=⟨n,0,none⟩) b).trans h.c0,(a.cell (p:=⟨n,1,none⟩) b).trans h.c1,fun o=>(a.frozen (p:=⟨n,o,none⟩) b).trans (h.fr o),ownsRow_below h.own a,h.ne,h.box.below a aO,
  (a.cell (p:=⟨w.heap.size,0,none⟩) aW).trans h.r0,(a.cell (p:=⟨w.heap.size,1,none⟩) aW).trans h.r1,fun o=>(a.frozen (p:=⟨w.heap.size,o,none⟩) aW).trans (h.rf o),h.below.trans (a.mono h.below.size),c,Nat.lt_of_lt_of_le b a.size⟩
theorem l9.store {c':Int}(h:l9 w W n X v V f z)(b:W.ownsRow m 9 1 y F.length (F.map str))(c:n<m) :
 l9 w ((W.setCell ⟨n,0,none⟩ y).setCell ⟨n,1,none⟩ (.string ⟨(dn.dec c').toArray⟩)) n X v y F c':=by
 have d:=h.lo;have e:=h.hi;have a:Below n W ((W.setCell ⟨n,0,none⟩ y).setCell ⟨n,1,none⟩ (.string ⟨(dn.dec c').toArray⟩)):=((Below.refl n W).setCell ae _).setCell ae _
 refine⟨?_,?_,fun o=>by rw[World.frozen?_setCell,World.frozen?_setCell];exact h.fr o,oq (ownsRow_setCell_below (a:=⟨n,1,none⟩) (ownsRow_setCell_below (a:=⟨n,0,none⟩) b c _) c _) aO,?_,h.box.below a d,
  (a.cell (p:=⟨w.heap.size,0,none⟩) aW).trans h.r0,(a.cell (p:=⟨w.heap.size,1,none⟩) aW).trans h.r1,fun o=>(a.frozen (p:=⟨w.heap.size,o,none⟩) aW).trans (h.rf o),h.below.trans (a.mono aO),d,Nat.lt_of_lt_of_le e a.size⟩
 ·rw[ak (fun h=>cu)];exact World.cell?_setCell_same _ _ _ h.c0
 ·exact World.cell?_setCell_same _ _ _ ((ak (fun h=>cu)).trans h.c1)
 ·intro g;have:=(b.lt n g).1;exact aO
theorem l9.done (h:l9 w W n X v V f z)(u:Value) :
 (W.setCell ⟨w.heap.size,0,none⟩ V).cell? ⟨w.heap.size,0,none⟩=some V/\((W.setCell ⟨w.heap.size,0,none⟩ V).setCell ⟨w.heap.size,1,none⟩ u).cell? ⟨w.heap.size,1,none⟩=some u/\
 ((W.setCell ⟨w.heap.size,0,none⟩ V).setCell ⟨w.heap.size,1,none⟩ u).ownsRow w.heap.size 9 1 V f.length (f.map str)/\Below w.heap.size w ((W.setCell ⟨w.heap.size,0,none⟩ V).setCell ⟨w.heap.size,1,none⟩ u):=by
 exact⟨World.cell?_setCell_same _ _ V h.r0,World.cell?_setCell_same _ _ u ((ak (fun h=>cu)).trans h.r1),oq (ownsRow_setCell_below (a:=⟨w.heap.size,1,none⟩) (ownsRow_setCell_below (a:=⟨w.heap.size,0,none⟩) h.own aW _) aW _) aO,
  (h.below.setCell ae _).setCell ae _⟩
theorem vM.o (b:vM w n f z h):∃a,h=.returned (.agg #[a,.string ⟨(dn.dec z).toArray⟩])/\w.ownsRow n 9 1 a f.length (f.map str):=b
theorem l9.Jr (h:l9 w W n X v V f z)(b:Int):l9 w (W.setCell ⟨n,1,none⟩ (.string ⟨(dn.dec b).toArray⟩)) n X v V f b:=by
 have c:=h.lo;have d:=h.hi;have a:Below n W (W.setCell ⟨n,1,none⟩ (.string ⟨(dn.dec b).toArray⟩)):=(Below.refl n W).setCell ae _
 exact⟨(ak (fun h=>cu)).trans h.c0,World.cell?_setCell_same _ _ _ h.c1,fun o=>by rw[World.frozen?_setCell];exact h.fr o,zz h.own h.ne _,h.ne,h.box.below a c,
  (a.cell (p:=⟨w.heap.size,0,none⟩) aW).trans h.r0,(a.cell (p:=⟨w.heap.size,1,none⟩) aW).trans h.r1,fun o=>(a.frozen (p:=⟨w.heap.size,o,none⟩) aW).trans (h.rf o),h.below.trans (a.mono aO),c,Nat.lt_of_lt_of_le d a.size⟩
theorem l9.U7 (h:l9 w W n X v (.slice (some ⟨m,0,none⟩) k i) f z)(d:k=f.length)(j:Nat)(b:Int):l9 w (W.setCell ⟨m,j,none⟩ (.string ⟨(dn.dec b).toArray⟩)) n X v (.slice (some ⟨m,0,none⟩) k i) (f.set j b) z:=by
 subst d;have e:=h.lo;have g:=h.hi;obtain⟨q,_⟩:=h.own.lt m rfl;have l:m≠n:=fun p=>h.ne (by rw[<-p];rfl);have a:Below m W (W.setCell ⟨m,j,none⟩ (.string ⟨(dn.dec b).toArray⟩)):=(Below.refl m W).setCell ae _;have c:∀o,(W.setCell ⟨m,j,none⟩ (.string ⟨(dn.dec b).toArray⟩)).cell? ⟨n,o,none⟩=W.cell? ⟨n,o,none⟩:=fun o=>ak (fun h=>l aiF)
 exact⟨(c 0).trans h.c0,(c 1).trans h.c1,fun o=>by rw[World.frozen?_setCell];exact h.fr o,by rw[List.length_set,List.map_set];exact(h.own.stored j _).1,h.ne,h.box.below a aO,
  (a.cell (p:=⟨w.heap.size,0,none⟩) aW).trans h.r0,(a.cell (p:=⟨w.heap.size,1,none⟩) aW).trans h.r1,fun o=>(a.frozen (p:=⟨w.heap.size,o,none⟩) aW).trans (h.rf o),h.below.trans (a.mono aO),e,Nat.lt_of_lt_of_le g a.size⟩
theorem Rb (n a:Nat):∀z∈List.replicate n (0:Int),z.natAbs<=big a:=by
 intro z b;rw[(List.mem_replicate.1 b).2];exact aP
theorem RA (h:n<=100000000):n<=big m:=by
 rw[sH];have:=sj m;exact aO
theorem l9.called (h:l9 w W n X v V f z)(b:Below W.heap.size W u)(a:Obj):l9 w (u.alloc a) n X v V f z:=
 (h.after b).after (af.alloc ae a)
theorem yC {c k d:Int}{A K B:Nat}(x:w.ownsRow n 9 1 v f.length (f.map str))(y:w.ownsRow m 9 1 V F.length (F.map str))(H:f.length=i)(I:F.length=i)(J:i<=1000)
 {a:Nat} (b:a<1000) (o:∀z∈f,z.natAbs<=A) (p:∀z∈F,z.natAbs<=B) (q:c.natAbs<=A) (h:k.natAbs<=K) (r:d.natAbs<=B) (s:A<=big a) (C:K<=big a) (t:B<=big a) :
 Calls Tryz.prog 207 #[.agg #[v,.string ⟨(dn.dec c).toArray⟩],.string ⟨(dn.dec k).toArray⟩,.agg #[V,.string ⟨(dn.dec d).toArray⟩]] w fun u j=>(∃(e:List Int) (g:Value),u=.returned (.agg #[g,.string ⟨(dn.dec (c+k*d)).toArray⟩])/\j.ownsRow w.heap.size 9 1 g e.length (e.map str)/\e.length=i/\(∀z∈e,z.natAbs<=A+K*B)/\(c+k*d).natAbs<=A+K*B)/\Below w.heap.size w j:=by
 refine(JB v V f F c k d w (dV.dW x) (dV.dW y) aO aO (fun z l=>pq (Nat.le_trans (o z l) s) b) (fun z l=>pq (Nat.le_trans (p z l) t) b) (pq (Nat.le_trans q s) b) (pq (Nat.le_trans h C) b) (pq (Nat.le_trans r t) b)).mono ?_;rintro u j ⟨⟨g,D,E⟩,G⟩;exact⟨⟨_,g,D,E,aQ,UG o h p,Le q h r⟩,G⟩
theorem zh (n a:Nat):∀z∈List.replicate n (0:Int),z.natAbs<=a:=by
 intro z b;rw[(List.mem_replicate.1 b).2];exact aP
theorem Sc (pb bb:Nat)(c:List dX)(held:List Nat)(cs:List (List Lit))(hts:c.length<=1000)(hwf:iU c)(qJ:wH c):∀(a:Nat) (w:World),fT w pb bb c held cs->a<c.length->
 Calls Tryz.prog 205 #[.pointer (some ⟨pb,0,none⟩),.int .i64 a] w fun f P=>E9 c a P w.heap.size f/\Below w.heap.size w P:=by
 intro a
 induction a using Nat.strongRecOn with
 | _ a ih=>
 intro w i ha;have IH:Hid (∀j,j<a->∀P,Below w.heap.size w P->Calls Tryz.prog 205 #[.pointer (some ⟨pb,0,none⟩),.int .i64 j] P fun f w''=>E9 c j w'' P.heap.size f/\Below P.heap.size P w''):=fun j hj P hb=>ih j hj P (i.below hb) aO;obtain⟨bA,jZ,aA,lu,hlk⟩:=i.look ha;have C:=di (hwf a ha);have oQ:=di hlk.arg;have YV:Hid (c[a].op≠14->c[a].op≠15->¬jw c a):=fun Y Z ⟨_,h⟩=>by rcases h with h|⟨h,_⟩<;>omega
 have QU:Hid (c[a].op=15->jw c a->∀j,c[a].args=[j]->jw c j):=fun Y ⟨_,h⟩ j hj=>by
  rcases h with h|⟨_,j',hj',Z,h3⟩
  ·exact aO
  ·rw[hj]at Z;injection Z with Z;subst Z;exact⟨hj',.inl h3⟩
 have Fu:=di (qJ a ha);obtain⟨r1,r2,r3,r4,r5,r6,r7,r8,r9,GG,Nr,_,_⟩:=hlk;generalize c[a]=t at *;have l3:pb<w.heap.size:=ai r3;have l4:bb<w.heap.size:=ai r4;have l5:bA<w.heap.size:=ai r5;have x3:=eF (o:=.cells #[.slice none 0 0,.string ⟨#[]⟩] 264) r3;have x4:=eF (o:=.cells #[.slice none 0 0,.string ⟨#[]⟩] 264) r4;have x5:=eF (o:=.cells #[.slice none 0 0,.string ⟨#[]⟩] 264) r5;have x6:=eF (o:=.cells #[.slice none 0 0,.string ⟨#[]⟩] 264) r6;have x7:=eF (o:=.cells #[.slice none 0 0,.string ⟨#[]⟩] 264) r7;have x8:=eF (o:=.cells #[.slice none 0 0,.string ⟨#[]⟩] 264) r8;have x9:=eF (o:=.cells #[.slice none 0 0,.string ⟨#[]⟩] 264) r9;clear i hwf qJ ih;go_enter Tryz.func205,Tryz.ntmps205;go_upto_region 1 with fail
 go_cut [5] (fun bn wx=>bn=.pointer (some ⟨w.heap.size+1,0,none⟩)/\jc wx (w.heap.size+1) t (.slice aA t.args.length lu)/\wx.cell? ⟨w.heap.size,0,none⟩=some (.slice none 0 0)/\wx.cell? ⟨w.heap.size,1,none⟩=some (.string ⟨#[]⟩)/\(∀o,wx.frozen? ⟨w.heap.size,o,none⟩=false)/\Below w.heap.size w wx/\w.heap.size+1<wx.heap.size)
 case first=>
  go_wp2_with fail;go_meet
  case rel=>exact⟨rfl,⟨aP,aP,aP,aP,aP⟩,aP,aP,ah6,ag.alloc aP _,aP⟩
 case rest=>
  obtain⟨rfl,uu,z0,z1,zf,hbel,hsz⟩:=hcut;have wP:=di uu;have r3':=(hbel.cell (ai r3)).trans r3;have r4':=(hbel.cell (ai r4)).trans r4;clear r3 r4 r5 r6 r7 r8 r9 x3 x4 x5 x6 x7 x8 x9 uu;go_upto_region 2 with fail
  go_cut [6] (fun bn wx=>∃sb vs,bn=.pointer (some ⟨sb,0,none⟩)/\l9 w wx sb t (.slice aA t.args.length lu) vs (List.replicate c.length 0) 0)
  case first=>
   go_wp2_with fail;refine(zi c.length _ aO).mono ?_;rintro f w3 ⟨g,hb3⟩;obtain⟨vs,rfl,hown⟩:=g.o;obtain⟨ao,cap,hvs,_,_,_⟩:=dQ hown;rw[List.length_replicate]at hvs;subst hvs;have HOWN:=di hown;rw[dn.gH];clear g hown;go_wp2_with fail;go_meet
   case rel=>
    have hbt:=hb3.trans ((Below.refl w3.heap.size w3).alloc ae (.cells #[.slice ao c.length cap,.string ⟨#[48]⟩] 264) |>.mono hb3.size);have hs3:=hb3.size
    exact⟨_,.slice ao c.length cap,rfl,aP,by rw[dn.gH];simp,ah6,oq (by have h:=HOWN.o.alloc (.cells #[.slice ao c.length cap,.string ⟨#[48]⟩] 264);exact h) aO,fun f=>by have:=(HOWN.o.lt _ f).2;omega,wP.o.below hbt hsz,
     (hbt.cell (p:=⟨w.heap.size,0,none⟩) aW).trans z0,(hbt.cell (p:=⟨w.heap.size,1,none⟩) aW).trans z1,fun o=>(hbt.frozen (p:=⟨w.heap.size,o,none⟩) aW).trans (zf o),hbel.trans (hbt.mono hbel.size),aO,aP⟩
  case rest=>
   obtain⟨sb,vs,rfl,n⟩:=hcut;have p:=di n;have b0:=n.box.text;have b1:=n.box.op;have b4:=n.box.args;have s0:=n.c0;have s1:=n.c1;have sf:=n.fr;have y0:=n.r0;have y1:=n.r1;have yf:=n.rf;have hlo:=n.lo;have hhi:=n.hi;obtain⟨ao,cap,hvs,hcap,hmax,hel⟩:=dQ n.own;rw[List.length_replicate]at hvs hcap hel;subst hvs;clear n z0 z1 zf hsz r3' r4' wP hbel
   by_cases KT:t.op=14
   ·have t14:((t.op:Int)==14)=true:=bz;obtain⟨z,r,hz8⟩:=C.o.num KT;have D:=di (p.o.Jr z);go_wp2_with fail;obtain⟨E,F,G,H⟩:=D.o.done (.string ⟨(dn.dec z).toArray⟩);have hzs:=Tn (z:=z) (by rw[<-r];exact hz8);exact bodyPost_ret (v:=.agg #[.slice ao c.length cap,.string ⟨(dn.dec z).toArray⟩]) ah3 rfl ⟨⟨_,z,⟨_,rfl,G⟩,aP,Rb _ _,RA hzs,fun _=>hzs⟩,H⟩
   ·have t14:((t.op:Int)==14)=false:=aj aO
    by_cases Aw:t.op=15
    ·have t15:((t.op:Int)==15)=true:=bz;have Y:=C.o.one (.inr Aw);obtain⟨V,hgA,Q,cA⟩:=oQ.o 0 aO;subst hgA;have I:=C.o.args (t.args[0]' aO) aP
     have HJ:Hid (jw c a->jw c (t.args[0]' aO)):=fun h=>QU.o Aw h _ (by
      apply List.ext_getElem
      ·simp[Y]
      ·intro bq hi1 hi2;simp at hi2;subst hi2;simp)
     have NM:=(p.o.below.cell (p:=⟨V,0,none⟩) Q).trans cA;generalize t.args[0]' aO=j at *;have Z:0<t.args.length:=aO;clear Y KT Aw;go_wp2_with fail;refine(IH.o j I _ p.o.below).mono ?_;rintro f J ⟨⟨s,d,g,y,K,L,W⟩,hb4⟩;obtain⟨vu,rfl,l⟩:=g.o;obtain⟨u,v,hvu,_,_,_⟩:=dQ l;subst hvu;have A:=kX I;have hbb:=sH a;have hlp:=sj a;have e:=di (p.o.called hb4 (.cells #[.slice u s.length v,.string ⟨(dn.dec d).toArray⟩] 264));have i:=yC (k:=-1) (K:=1) (A:=0) (c:=0) (d:=d) e.o.own (l.alloc (.cells #[.slice u s.length v,.string ⟨(dn.dec d).toArray⟩] 264)) (List.length_replicate) y hts (a:=a) aO (zh _ _) K aP aP L aO aO aO;rw[dn.pg]at i;have HP:=di i;have e0:=e.o.c0;have e1:=e.o.c1;have HUN:=di W;have HOU:=di l;have Fh:=di y;have uh:=di A;have mq:=di hbb;clear g i K L W l y A hbb s0 s1 y0 y1 b0 b1 b4;go_wp2_with fail;refine HP.o.mono ?_;generalize hcc:0+-1*d=k at *;have AO:=di hcc;clear hcc;rintro f w6 ⟨⟨R,v6,rfl,m,M,hb6,hc6⟩,oM⟩;obtain⟨a6,cap6,hv6,_,_,_⟩:=dQ m;subst hv6;have b:=(e.o.after oM);have D:=di (b.store (c':=k) m (by exact e.o.hi));have f0:=b.c0;have f1:=b.c1;have ff:=b.fr;have g0:=b.r0;have g1:=b.r1;have gf:=b.rf;have LU:=di M;clear b M m;go_wp2_with fail;obtain⟨E,F,G,H⟩:=D.o.done (.string ⟨(dn.dec k).toArray⟩);exact bodyPost_ret (v:=.agg #[.slice a6 R.length cap6,.string ⟨(dn.dec k).toArray⟩]) ah3 rfl ⟨⟨R,k,⟨_,rfl,G⟩,LU.o,fun z r=>Nat.le_trans (hb6 z r) (by have:=uh.o;have:=mq.o;omega),Nat.le_trans hc6 (by have:=uh.o;have:=mq.o;omega),fun N=>by have h:=HUN.o (HJ.o N);have:=AO.o;omega⟩,H⟩
    ·have t15:((t.op:Int)==15)=false:=aj aO;have Ic:Hid (¬jw c a):=YV.o KT Aw
     by_cases SQ:t.op=17
     ·have t17:((t.op:Int)==17)=true:=bz;have Y:=C.o.two (by simp[SQ]);obtain⟨V,hgA,Q,cA⟩:=oQ.o 0 aO;obtain⟨gB,O,_,cB⟩:=oQ.o 1 aO;subst hgA;injection O with O
      injection O with O;subst O;have I:=C.o.args (t.args[0]' aO) aP;have hjb:=C.o.args (t.args[1]' aO) aP;have NM:=(p.o.below.cell (p:=⟨V,0,none⟩) Q).trans cA;generalize t.args[0]' aO=j at *;generalize t.args[1]' aO=j2 at *;have Z:1<t.args.length:=aO;clear Y KT Aw SQ;go_wp2_with fail;refine(IH.o j I _ p.o.below).mono ?_;rintro f J ⟨⟨s,d,g,y,K,L,W⟩,hb4⟩;obtain⟨vu,rfl,l⟩:=g.o;obtain⟨u,v,hvu,_,_,_⟩:=dQ l;subst hvu;have e:=di (p.o.called hb4 (.cells #[.slice u s.length v,.string ⟨(dn.dec d).toArray⟩] 264));have cB':=(e.o.below.cell (p:=⟨V,1,none⟩) Q).trans cB;have e4:=e.o.box.args;have HOU:=di (l.alloc (.cells #[.slice u s.length v,.string ⟨(dn.dec d).toArray⟩] 264));have Fh:=di y;have Fj:=di K;have YH:=di L;clear g l y K L W s0 s1 y0 y1 b0 b1 b4;go_wp2_with fail;refine(IH.o j2 hjb _ e.o.below).mono ?_;rintro f w5 ⟨⟨S,q,g,Kv,Bh,Bg,V5⟩,X⟩;obtain⟨vu2,rfl,DK⟩:=g.o;obtain⟨T,U,Kt,_,_,_⟩:=dQ DK;subst Kt;have H7:=di (e.o.called X (.cells #[.slice T S.length U,.string ⟨(dn.dec q).toArray⟩] 264));have A:=kX I;have hbc:=kX hjb;have hbb:=sH a;have hlp:=sj a;have i:=yC (k:=-1) (K:=1) (A:=low a) (B:=low a) (c:=d) (d:=q) (ownsRow_below HOU.o (X.trans (af.alloc ae (.cells #[.slice T S.length U,.string ⟨(dn.dec q).toArray⟩] 264) |>.mono X.size))) (DK.alloc (.cells #[.slice T S.length U,.string ⟨(dn.dec q).toArray⟩] 264)) Fh.o Kv hts (a:=a) aO (fun z h=>Nat.le_trans (Fj.o z h) A) (fun z h=>Nat.le_trans (Bh z h) hbc) (Nat.le_trans YH.o A) aP (Nat.le_trans Bg hbc) aO aO aO;rw[dn.pg]at i;have HP:=di i;have e0:((w5.alloc (.cells #[.slice T S.length U,.string ⟨(dn.dec q).toArray⟩] 264))).cell? ⟨J.heap.size,0,none⟩=some (.slice u s.length v):=eF ((X.cell (p:=⟨J.heap.size,0,none⟩) aP).trans aP);have e1:((w5.alloc (.cells #[.slice T S.length U,.string ⟨(dn.dec q).toArray⟩] 264))).cell? ⟨J.heap.size,1,none⟩=some (.string ⟨(dn.dec d).toArray⟩):=eF ((X.cell (p:=⟨J.heap.size,1,none⟩) aP).trans aP);have mq:=di hbb;have HLP:=di hlp;clear g i Kv Bh Bg V5 DK A hbc hbb hlp cB' e4;go_wp2_with fail;refine HP.o.mono ?_;generalize hcc:d+-1*q=k at *;exact ak5
     ·have t17:((t.op:Int)==17)=false:=aj aO
      by_cases h16:t.op=16
      ·have t16:((t.op:Int)==16)=true:=bz;have pO:=C.o.few;have Uq:=di (sj a);have y7:=di (sH a);clear s0 s1 y0 y1 b0 b4 KT Aw SQ h16;go_wp2_with fail
       go_loopw [10] (fun bq wr=>∃(x:Nat) (vs:Value) (zs:List Int) (bg:Int),bq=.int .i64 x/\x<=t.args.length/\l9 w wr sb t (.slice aA t.args.length lu) vs zs bg/\zs.length=c.length/\(∀z∈zs,z.natAbs<=x*low a)/\bg.natAbs<=x*low a) (fun bq _=>t.args.length-(intOf bq).toNat)
       case atStart=>exact⟨0,_,_,0,rfl,aO,p.o,aP,zh _ _,aP⟩
       case round=>
        obtain⟨x,vq,zs,bg,rfl,hq,B,hzl,hzb,hcb⟩:=hrel;have H2:=di B;have s4:=B.box.args;have s0:=B.c0;have s1:=B.c1;have sf2:=B.fr;obtain⟨Hw,cap2,ad1,hcap2,agG,_⟩:=dQ B.own;subst ad1;have BP:=di hzl;have HZB:=di hzb;have rR:=di hcb;have HQ4:Hid (x*low a<=4*low a):=Nat.mul_le_mul_right _ aO
        by_cases hlt:x<t.args.length
        ·obtain⟨V,hgA,Q,cA⟩:=oQ.o x hlt;subst hgA;have I:=C.o.args t.args[x] aP;have NM:=(B.below.cell (p:=⟨V,x,none⟩) Q).trans cA;generalize t.args[x]=j at *;clear B hzl hzb hcb cA;go_wp2_with fail;refine(IH.o j I _ H2.o.below).mono ?_;rintro f J ⟨⟨s,d,g,y,K,L,W⟩,hb4⟩;obtain⟨vu,rfl,l⟩:=g.o;obtain⟨u,v,hvu,_,_,_⟩:=dQ l;subst hvu;have e:=di (H2.o.called hb4 (.cells #[.slice u s.length v,.string ⟨(dn.dec d).toArray⟩] 264));have A:=kX I;have i:=yC (k:=1) (K:=1) (A:=x*low a) (B:=low a) (c:=bg) (d:=d) e.o.own (l.alloc (.cells #[.slice u s.length v,.string ⟨(dn.dec d).toArray⟩] 264)) BP.o y hts (a:=a) aO HZB.o (fun z h=>Nat.le_trans (K z h) A) rR.o aP (Nat.le_trans L A) (by have:=HQ4.o;have:=y7.o;have:=Uq.o;omega) (by have:=y7.o;have:=Uq.o;omega) (by have:=y7.o;have:=Uq.o;omega);rw[dn.kS]at i;have HP:=di i;have e0:=e.o.c0;have e1:=e.o.c1;clear g i K L W l y A s0 s1 s4 sf2;go_wp2_with fail;refine HP.o.mono ?_;generalize bg+1*d=k at *;rintro f w6 ⟨⟨R,v6,rfl,m,M,hb6,hc6⟩,oM⟩;obtain⟨a6,cap6,hv6,_,_,_⟩:=dQ m;subst hv6;have b:=(e.o.after oM);have D:=di (b.store (c':=k) m (by exact e.o.hi));have f0:=b.c0;have f1:=b.c1;have ff:=b.fr;have LU:=di M;have UB:=di hb6;have HC6:=di hc6;clear b M m hb6 hc6 e0 e1;go_wp2_with fail;go_roundw
         case rel=>exact⟨x+1,_,R,k,bJ,aO,D.o,LU.o,fun z r=>by rw[Nat.add_mul];exact UB.o z r,by rw[Nat.add_mul];exact HC6.o⟩
         case measure=>exact akL
        ·have g0:=B.r0;have g1:=B.r1;have gf:=B.rf;clear B hzl hzb hcb;go_wp2_with fail;obtain⟨E,F,G,H⟩:=H2.o.done (.string ⟨(dn.dec bg).toArray⟩);have hq4:=HQ4.o;have hbl:=y7.o;exact bodyPost_ret (v:=.agg #[.slice Hw zs.length cap2,.string ⟨(dn.dec bg).toArray⟩]) ah3 rfl ⟨⟨zs,bg,⟨_,rfl,G⟩,BP.o,fun z r=>by have:=HZB.o z r;omega,by have:=rR.o;omega,fun N=>absurd N Ic.o⟩,H⟩
      ·have t16:((t.op:Int)==16)=false:=aj aO
       by_cases h18:t.op=18
       ·have t18:((t.op:Int)==18)=true:=bz;have Y:=C.o.two (by simp[h18]);obtain⟨V,hgA,Q,cA⟩:=oQ.o 0 aO;obtain⟨gB,O,_,cB⟩:=oQ.o 1 aO;subst hgA;injection O with O
        injection O with O;subst O;have I:=C.o.args (t.args[0]' aO) aP;have hjb:=C.o.args (t.args[1]' aO) aP;have NM:=(p.o.below.cell (p:=⟨V,0,none⟩) Q).trans cA
        have HJN:Hid (jw c (t.args[0]' aO)):=by
         show jw c _;obtain⟨bB,bn,hxy,N⟩:=Fu.o h18;have f:t.args[0]' aO=bB:=by simp[hxy]
         rw[f];exact N
        generalize t.args[0]' aO=j at *;generalize t.args[1]' aO=j2 at *;have Z:1<t.args.length:=aO;clear Y KT Aw h16 SQ h18;go_wp2_with fail;refine(IH.o j I _ p.o.below).mono ?_;rintro f J ⟨⟨s,d,g,y,K,L,W⟩,hb4⟩;obtain⟨vu,rfl,l⟩:=g.o;obtain⟨u,v,hvu,_,_,_⟩:=dQ l;subst hvu;have e:=di (p.o.called hb4 (.cells #[.slice u s.length v,.string ⟨(dn.dec d).toArray⟩] 264));have cB':=(e.o.below.cell (p:=⟨V,1,none⟩) Q).trans cB;have e4:=e.o.box.args;have HOU:=di (l.alloc (.cells #[.slice u s.length v,.string ⟨(dn.dec d).toArray⟩] 264));have Fh:=di y;have Fj:=di K;have YH:=di L;have HD8:=di (W HJN.o);clear g l y K L W s0 s1 y0 y1 b0 b1 b4;go_wp2_with fail;refine(IH.o j2 hjb _ e.o.below).mono ?_;rintro f w5 ⟨⟨S,q,g,Kv,Bh,Bg,V5⟩,X⟩;obtain⟨vu2,rfl,DK⟩:=g.o;obtain⟨T,U,Kt,_,_,_⟩:=dQ DK;subst Kt;have H7:=di (e.o.called X (.cells #[.slice T S.length U,.string ⟨(dn.dec q).toArray⟩] 264));have A:=kX I;have hbc:=kX hjb;have hbb:=sH a;have hlp:=sj a;have i:=yC (k:=d) (K:=100000000) (A:=0) (B:=low a) (c:=0) (d:=q) H7.o.own (DK.alloc (.cells #[.slice T S.length U,.string ⟨(dn.dec q).toArray⟩] 264)) (List.length_replicate) Kv hts (a:=a) aO (zh _ _) (fun z h=>Nat.le_trans (Bh z h) hbc) aP HD8.o (Nat.le_trans Bg hbc) aO aO aO;have m0:=H7.o.c0;have m1:=H7.o.c1;have HP:=di i;have e0:((w5.alloc (.cells #[.slice T S.length U,.string ⟨(dn.dec q).toArray⟩] 264))).cell? ⟨J.heap.size,0,none⟩=some (.slice u s.length v):=eF ((X.cell (p:=⟨J.heap.size,0,none⟩) aP).trans aP);have e1:((w5.alloc (.cells #[.slice T S.length U,.string ⟨(dn.dec q).toArray⟩] 264))).cell? ⟨J.heap.size,1,none⟩=some (.string ⟨(dn.dec d).toArray⟩):=eF ((X.cell (p:=⟨J.heap.size,1,none⟩) aP).trans aP);have mq:=di hbb;have HLP:=di hlp;clear g i Kv Bh Bg V5 DK A hbc hbb hlp cB' e4;go_wp2_with fail;refine HP.o.mono ?_;generalize hcc:0+d*q=k at *;exact ak5
       ·have t18:((t.op:Int)==18)=false:=aj aO;obtain⟨g2,hg2,hc2,hf2⟩:=hel a ha;subst hg2;have hc3:wc.cell? ⟨g2,a,none⟩=some (str 0):=by rw[hc2];simp[ha]
        have hf:=p.o.U7 aP a 1;rw[dn.kS]at hf;have D:=di hf;have y7:=di (sH a);have Uq:=di (sj a);have nn:=p.o.ne;have n1:g2≠sb:=fun f=>nn (by rw[<-f];rfl);have n2:=n1.symm;have Q:=(p.o.own.lt g2 rfl).1;clear hf hel hc2 KT Aw h16 SQ h18 nn;go_wp2_with fail;obtain⟨E,F,G,H⟩:=D.o.done (.string ⟨(dn.dec 0).toArray⟩)
        exact bodyPost_ret (v:=.agg #[.slice (some ⟨g2,0,none⟩) c.length cap,.string ⟨(dn.dec 0).toArray⟩]) ah3 rfl ⟨⟨_,0,⟨_,rfl,G⟩,aP,fun z r=>by
         rcases List.mem_or_eq_of_mem_set r with h|h
         ·exact zh _ _ z h
         ·subst h;have:=y7.o;have:=Uq.o;simp;omega,aP,fun N=>absurd N Ic.o⟩,H⟩
structure AA (w wx:World)(sb:Nat)(vs:Value)(zs:List Int)(c:Int):Prop where
 c0:wx.cell? ⟨sb,0,none⟩=some vs
 c1:wx.cell? ⟨sb,1,none⟩=some (.string ⟨(dn.dec c).toArray⟩)
 fr:∀o,wx.frozen? ⟨sb,o,none⟩=false
 own:wx.ownsRow (w.heap.size+1) 9 1 vs zs.length (zs.map str)
 ne:vs.ownBlock≠some sb
 r0:wx.cell? ⟨w.heap.size,0,none⟩=some (.slice none 0 0)
 r1:wx.cell? ⟨w.heap.size,1,none⟩=some (.string ⟨#[]⟩)
 rf:∀o,wx.frozen? ⟨w.heap.size,o,none⟩=false
 below:Below w.heap.size w wx
 lo:w.heap.size<sb
 hi:sb<wx.heap.size
theorem AA.after (h:AA w W n v f z)(a:Below W.heap.size W u):AA w u n v f z:=by
 have c:=h.lo;have b:=h.hi
 exact⟨(a.cell (p:=⟨n,0,none⟩) b).trans h.c0,(a.cell (p:=⟨n,1,none⟩) b).trans h.c1,fun o=>(a.frozen (p:=⟨n,o,none⟩) b).trans (h.fr o),ownsRow_below h.own a,h.ne,
  (a.cell (p:=⟨w.heap.size,0,none⟩) aW).trans h.r0,(a.cell (p:=⟨w.heap.size,1,none⟩) aW).trans h.r1,fun o=>(a.frozen (p:=⟨w.heap.size,o,none⟩) aW).trans (h.rf o),h.below.trans (a.mono h.below.size),c,Nat.lt_of_lt_of_le b a.size⟩
theorem AA.store {c':Int}(h:AA w W n v f z)(b:W.ownsRow m 9 1 V F.length (F.map str))(c:n<m) :
 AA w ((W.setCell ⟨n,0,none⟩ V).setCell ⟨n,1,none⟩ (.string ⟨(dn.dec c').toArray⟩)) n V F c':=by
 have d:=h.lo;have e:=h.hi;have a:Below n W ((W.setCell ⟨n,0,none⟩ V).setCell ⟨n,1,none⟩ (.string ⟨(dn.dec c').toArray⟩)):=((Below.refl n W).setCell ae _).setCell ae _
 refine⟨?_,?_,fun o=>by rw[World.frozen?_setCell,World.frozen?_setCell];exact h.fr o,oq (ownsRow_setCell_below (a:=⟨n,1,none⟩) (ownsRow_setCell_below (a:=⟨n,0,none⟩) b c _) c _) aO,?_,
  (a.cell (p:=⟨w.heap.size,0,none⟩) aW).trans h.r0,(a.cell (p:=⟨w.heap.size,1,none⟩) aW).trans h.r1,fun o=>(a.frozen (p:=⟨w.heap.size,o,none⟩) aW).trans (h.rf o),h.below.trans (a.mono aO),d,Nat.lt_of_lt_of_le e a.size⟩
 ·rw[ak (fun h=>cu)];exact World.cell?_setCell_same _ _ _ h.c0
 ·exact World.cell?_setCell_same _ _ _ ((ak (fun h=>cu)).trans h.c1)
 ·intro g;have:=(b.lt n g).1;exact aO
theorem AA.Jr (h:AA w W n v f z)(b:Int):AA w (W.setCell ⟨n,1,none⟩ (.string ⟨(dn.dec b).toArray⟩)) n v f b:=by
 have c:=h.lo;have d:=h.hi;have a:Below n W (W.setCell ⟨n,1,none⟩ (.string ⟨(dn.dec b).toArray⟩)):=(Below.refl n W).setCell ae _
 exact⟨(ak (fun h=>cu)).trans h.c0,World.cell?_setCell_same _ _ _ h.c1,fun o=>by rw[World.frozen?_setCell];exact h.fr o,zz h.own h.ne _,h.ne,
  (a.cell (p:=⟨w.heap.size,0,none⟩) aW).trans h.r0,(a.cell (p:=⟨w.heap.size,1,none⟩) aW).trans h.r1,fun o=>(a.frozen (p:=⟨w.heap.size,o,none⟩) aW).trans (h.rf o),h.below.trans (a.mono aO),c,Nat.lt_of_lt_of_le d a.size⟩
theorem AA.done (h:AA w W n v f z)(u:Value) :
 (W.setCell ⟨w.heap.size,0,none⟩ v).cell? ⟨w.heap.size,0,none⟩=some v/\((W.setCell ⟨w.heap.size,0,none⟩ v).setCell ⟨w.heap.size,1,none⟩ u).cell? ⟨w.heap.size,1,none⟩=some u/\
 ((W.setCell ⟨w.heap.size,0,none⟩ v).setCell ⟨w.heap.size,1,none⟩ u).ownsRow w.heap.size 9 1 v f.length (f.map str)/\Below w.heap.size w ((W.setCell ⟨w.heap.size,0,none⟩ v).setCell ⟨w.heap.size,1,none⟩ u):=by
 exact⟨World.cell?_setCell_same _ _ v h.r0,World.cell?_setCell_same _ _ u ((ak (fun h=>cu)).trans h.r1),oq (ownsRow_setCell_below (a:=⟨w.heap.size,1,none⟩) (ownsRow_setCell_below (a:=⟨w.heap.size,0,none⟩) h.own aW _) aW _) aO,
  (h.below.setCell ae _).setCell ae _⟩
theorem qP {z:Int}{a:Nat}(h:z.natAbs<=big a):(dn.dec z).length<=10*(a+1)+2:=by
 have c:=dn.mK z;have b:z.natAbs<10 ^ (10*(a+1)+1):=Nat.lt_of_le_of_lt h (Nat.pow_lt_pow_right aO aO);have d:=dn.lG b;exact aO
theorem Xa (a:Nat):big a=low (a+1):=rfl
def Ll (n:Nat)(w':World)(base:Nat)(e:Ending):Prop:=
 ∃zs c,vM w' base zs c e/\zs.length=n/\(∀z∈zs,z.natAbs<=big 1000)/\c.natAbs<=big 1000
theorem Pv (n K:Nat)(c:List dX)(held:List Nat)(L:List (List Lit))(M:c.length<=1000)(N:iU c)(O:wH c)(p q:Nat)(m:Int)(w:World)(g:fT w n K c held L)(ha:p<c.length)(hb:q<c.length)(y:m.natAbs<=1) :
 Calls Tryz.prog 204 #[.pointer (some ⟨n,0,none⟩),.int .i64 p,.int .i64 q,.string ⟨(dn.dec m).toArray⟩] w fun e a=>Ll c.length a w.heap.size e/\Below w.heap.size w a:=by
 have P:Hid (∀(j:Nat) (a:World),j<c.length->Below w.heap.size w a->Calls Tryz.prog 205 #[.pointer (some ⟨n,0,none⟩),.int .i64 j] a fun e Q=>E9 c j Q a.heap.size e/\Below a.heap.size a Q):=fun j a hj hbw=>Sc n K c held L M N O j a (g.below hbw) hj;have HA:=di (kX (show p<1000 by omega));have HB:=di (kX (show q<1000 by omega));have A:=di (sH 1000);have B:=di (sj 1000);have R:=di y;clear g N O y;go_enter Tryz.func204,Tryz.ntmps204;go_wp2_with fail;have S:Below w.heap.size w (w.alloc (.cells #[.slice none 0 0,.string ⟨#[]⟩] 264)):=ag;refine(P.o p _ ha S).mono ?_;rintro e r ⟨⟨s,h,i,T,U,V,_⟩,t⟩;obtain⟨vu,rfl,u⟩:=i.o;obtain⟨C,D,hvu,_,_,_⟩:=dQ u;subst hvu;have hs1:=t.size;simp only[World.size_alloc]at hs1;have k:=t.trans ((Below.refl r.heap.size r).alloc ae (.cells #[.slice C s.length D,.string ⟨(dn.dec h).toArray⟩] 264) |>.mono t.size)
 have X:Hid (AA w (r.alloc (.cells #[.slice C s.length D,.string ⟨(dn.dec h).toArray⟩] 264)) r.heap.size (.slice C s.length D) s h):=
  ⟨aP,aP,ah6,oq (u.alloc _) aP,fun e=>by have:=(u.lt _ e).2;omega,(k.cell (p:=⟨w.heap.size,0,none⟩) aP).trans aP,(k.cell (p:=⟨w.heap.size,1,none⟩) aP).trans aP,fun o=>(k.frozen (p:=⟨w.heap.size,o,none⟩) aP).trans aP,S.trans (k.mono aP),aO,aP⟩
 have Fh:=di T;have Fj:=di U;have YH:=di V;clear i T U V u k t;go_wp2_with fail;refine(P.o q _ hb X.o.below).mono ?_;rintro e w2 ⟨⟨Y,v,i,Z,Bh,Bg,_⟩,hb2⟩;obtain⟨vu2,rfl,E⟩:=i.o;obtain⟨au2,Yw,Kt,_,_,_⟩:=dQ E;subst Kt;have l:=di ((X.o.after hb2).after (af.alloc ae (.cells #[.slice au2 Y.length Yw,.string ⟨(dn.dec v).toArray⟩] 264)));have F:=HA.o;have G:=HB.o;have hbb:=A.o;have hlp:=B.o;have h99:big 999=low 1000:=Xa 999;have g:=yC (k:=-1) (K:=1) (A:=low 1000) (B:=low 1000) (c:=h) (d:=v) l.o.own (E.alloc (.cells #[.slice au2 Y.length Yw,.string ⟨(dn.dec v).toArray⟩] 264)) Fh.o Z M (a:=999) aO (fun z H=>Nat.le_trans (Fj.o z H) F) (fun z H=>Nat.le_trans (Bh z H) G) (Nat.le_trans YH.o F) aP (Nat.le_trans Bg G) aO aO aO;rw[dn.pg]at g;have HP:=di g;have e0:=l.o.c0;have e1:=l.o.c1;clear i g Z Bh Bg E F G hbb hlp h99;go_wp2_with fail;refine HP.o.mono ?_;generalize h+-1*v=d at *;rintro e w3 ⟨⟨ys,v3,rfl,I,hl3,hb3,hc3⟩,PW⟩;obtain⟨a3,aeR,hv3,_,_,_⟩:=dQ I;subst hv3;have f:=l.o.after PW;have H3:=di (f.store (c':=d) I (by exact l.o.hi));have f0:=f.c0;have f1:=f.c1;have ff:=f.fr;have k1:=H3.o.c1;have BV:=di hl3;have HB3:=di hb3;have mi:=di hc3
 have wQ:Hid (∀W:World,Calls Tryz.prog 157 #[.string ⟨(dn.dec d).toArray⟩,.string ⟨(dn.dec m).toArray⟩] W fun e a=>e=.returned (.string ⟨(dn.dec (d+m)).toArray⟩)/\Below W.heap.size W a):=fun W=>by
  have hbl:=A.o;have SC:=B.o;have y:=R.o
  exact sM d m W (by
   have h1:=qP (z:=d) (a:=1000) (by have:=mi.o;omega);omega) (by
   have h1:=dn.mK m;have J:m.natAbs<10 ^ 1:=aO;have f:=dn.lG J;omega)
 clear f hl3 I hb3 hc3 e0 e1;go_wp2_with fail;refine(wQ.o _).mono ?_;generalize CV:d+m=x at *;rintro e w4 ⟨rfl,hb4⟩;have Cb:=di CV;have b:=H3.o.after hb4;have H4:=di (b.Jr x);have p0:=b.c0;have p1:=b.c1;have pf:=b.fr;have q0:=b.r0;have q1:=b.r1;have qf:=b.rf;have hlo:=b.lo;clear b f0 f1 ff k1 CV hb4;go_wp2_with fail;obtain⟨d0,d1,d2,d3⟩:=H4.o.done (.string ⟨(dn.dec x).toArray⟩);have hbl:=A.o;have SC:=B.o;exact bodyPost_ret (v:=.agg #[.slice a3 ys.length aeR,.string ⟨(dn.dec x).toArray⟩]) (by simp[results,Tryz.results204,go_sem,d0,d1]) rfl ⟨⟨ys,x,⟨_,rfl,d2⟩,BV.o,fun z hz=>by have:=HB3.o z hz;omega,by have h1:=mi.o;have J:=Cb.o;have f:=R.o;have b:=Int.natAbs_add_le d m;rw[J]at b;omega⟩,d3⟩
end Go.Proofs.YtbichedkajfmiaaGreatDoor
