import Derived.Test.YtjiagbaaikifpaaGreatDoorGLaws0
set_option maxRecDepth 100000
set_option maxHeartbeats 16000000
namespace Go.Proofs.YtjiagbaaikifpaaGreatDoor
open Go.RowKit Go.Proofs.Tryz
variable {W u w:World}{a:eu}{m n:Nat}{v:Value}
structure fU where
 sym:Int
 other:Bool
 args:List (dN)
 val:dN
def jK (w:World)(v:Value)(xs:List (dN)):Prop:=gu v xs.length (λg i=>∀h:i<xs.length,w.cell? (dA g i)=some (dD xs[i]))
theorem jK.below {a:List (dN)}(h:jK w v a)(b:dB w W):jK W v a:=
 gu.imp h λ_ _ _ c hi=>(b.eT (c hi))
theorem jK.get {l:List (dN)}(h:jK w (.slice a n m) l):∀i z,l[i]?=some z->∃g,a=some (dA g 0)/\w.cell? (dA g i)=some (dD z):=by
 exact apE
theorem jK.form {a:List (dN)}(h:jK w v a):∃b c,v=.slice b a.length c/\a.length<=c/\c<=2 ^ 63-1:=by
 obtain⟨b,c,d,e,f,_⟩:=h;exact⟨b,c,d,e,f⟩
structure C8 (w:World)(g o:Nat)(e:fU):Prop where
 sym:w.cell? (dA g o)=some (dw e.sym)
 other:w.cell? (dA g (o+1))=some (.bool e.other)
 args:∃a c,w.cell? (dA g (o+2))=some (.slice a e.args.length c)/\e.args.length<=c/\c<=2 ^ 63-1/\jK w (.slice a e.args.length c) e.args
 val:w.cell? (dA g (o+3))=some (dD e.val)
theorem C8.below {o:Nat}{e:fU}(h:C8 w n o e)(a:dB w W):C8 W n o e:=by
 have b:=aj h.sym;obtain⟨c,d,f,g,i,j⟩:=h.args;exact⟨(a.dL h.sym b),(a.dL h.other b),⟨c,d,(a.dL f b),g,i,j.below a⟩,(a.dL h.val b)⟩
structure gI (w:World)(ao:eu)(cap:Nat)(L:List fU):Prop where
 le:L.length<=cap
 max:cap<=2 ^ 63-1
 get:∀i e,L[i]?=some e->∃g o,ao=some (dA g o)/\C8 w g (o+i*4) e
variable {c:List fU}
theorem gI.below (h:gI w a n c)(b:dB w W):gI W a n c:=
 ⟨h.le,h.max,λi e d=>by obtain⟨g,o,f,j⟩:=h.get i e d;exact⟨g,o,f,j.below b⟩⟩
theorem gI.nil (w:World):gI w none 0 []:=⟨ae,aR,λi e h=>anq⟩
def pk (c:Int)(n:Nat):Nat:=((if c<0 then -(c+1) else c) % (n:Int)).toNat
theorem oF (c:Int){n:Nat}(h:0<n):pk c n<n:=by
 unfold pk;have a:=Int.emod_nonneg (if c<0 then -(c+1) else c) (by omega:(n:Int)≠0);have b:=Int.emod_lt_of_pos (if c<0 then -(c+1) else c) (by omega:(0:Int)<(n:Int));exact aR
theorem kJ (c:Int)(n:Nat)(w:World)(j:-9223372036854775808<=c)(k:c<=9223372036854775807)(l:0<n)(a:n<=9223372036854775807) :
 dH 38 #[dw c,dw (n:Nat)] w λf g=>f=dF (dw (pk c n:Nat))/\g=w:=by
 have d:Hid (∀m:Int,m=(if c<0 then -(c+1) else c)->m.tmod n=(pk c n:Nat)):=λm a=>by
  unfold pk;rw[<-a];have h:0<=m:=by rw[a];split<;>omega
  rw[Int.tmod_eq_emod_of_nonneg h,Int.toNat_of_nonneg (Int.emod_nonneg _ aR)]
 have o:Hid (∀m:Int,0<=m->0<=m.tmod n/\m.tmod n<n):=λm i=>⟨Int.tmod_nonneg _ i,Int.tmod_lt_of_pos _ aR⟩;have p:¬((n:Int)=0):=aR;generalize pk c n=q at *
 by_cases e:c<0
 ·have b:=dn (d.o (-(c+1)) (by rw[if_pos e]));go_enter func38,ntmps38;go_wp2;go_ret;exact⟨fM (by rw[<-b.o,Int.neg_tmod]),rfl⟩
 ·have b:=dn (d.o c (by rw[if_neg e]));go_enter func38,ntmps38;go_wp2;go_ret;exact⟨fM (by rw[<-b.o,Int.tmod_eq_emod_of_nonneg aR]),rfl⟩
def gW (w w':World):Prop:=∃q,w'=w.drewN q
theorem gW.refl (w:World):gW w w:=⟨0,rfl⟩
theorem gW.more (h:gW w W)(n:Nat):gW w (W.drewN n):=by
 obtain⟨q,rfl⟩:=h;exact⟨q+n,aW⟩
theorem gW.trans (h:gW w W)(g:gW W u):gW w u:=by
 obtain⟨q,rfl⟩:=g;exact h.more q
theorem gW.below (h:gW w W):dB w W:=by
 obtain⟨q,rfl⟩:=h;exact below_drewN af _
theorem gW.cell (h:gW w W)(a:Addr):W.cell? a=w.cell? a:=by
 obtain⟨q,rfl⟩:=h;exact aW
theorem gW.heap (h:gW w W):W.heap=w.heap:=by
 obtain⟨q,rfl⟩:=h;exact aW
theorem gI.drawn (h:gI w a n c)(b:gW w W):gI W a n c:=h.below b.below
theorem Jn (f g:eu)(n c d:Nat)(a:List (dN))(w:World)(h:jK w (.slice f n c) a)(j:jK w (.slice g n d) a)(l:a.length=n)(o:n<=c/\c<=2 ^ 63-1)(p:n<=d/\d<=2 ^ 63-1) :
 dH 165 #[.slice f n c,.slice g n d] w λq r=>q=dF (fu)/\gW w r:=by
 obtain⟨A,B⟩:=o;obtain⟨C,D⟩:=p;have s:=dn h.get;have t:=dn j.get;have u:=dn l;clear h j l;go_enter func165,ntmps165;go_wp2_with fail
 go_loopw [5] (fun i wr=>∃k:Nat,i=dw k/\k<=n/\gW w wr) (fun i _=>n-(intOf i).toNat)
 ·exact⟨0,rfl,aR,.refl _⟩
 case round=>
  obtain⟨k,rfl,E,b⟩:=hrel;have m:=dn b
  by_cases v:k<n
  ·obtain⟨x,e⟩:∃x,a[k]?=some x:=⟨_,aF (by rw[u.o];exact v)⟩;obtain⟨F,rfl,y⟩:=s.o k x e;obtain⟨G,rfl,z⟩:=t.o k x e;rw[<-b.cell]at y z;clear e b;go_wp2_with (go_quiet (fail));go_roundw
   ·exact⟨k+1,bL,aR,m.o.more _⟩
   ·exact aph
  ·go_wp2;go_ret;exact⟨rfl,m.o⟩
theorem Jp (g o c d:Nat)(x:fU)(w:World)(s:C8 w g o x)(t:C8 w c d x) :
 dH 111 #[dK g o,dK c d] w λj b=>j=dF (fu)/\gW w b:=by
 obtain⟨u,v,⟨e,f,k,y,z,l⟩,A⟩:=s;obtain⟨B,C,⟨h,i,m,D,E,p⟩,F⟩:=t
 have G:Hid (∀W,gW w W->dH 165 #[.slice e x.args.length f,.slice h x.args.length i] W λj b=>j=dF (fu)/\gW W b):=λW q=>
  Jn e h _ f i x.args W (l.below q.below) (p.below q.below) rfl ⟨y,z⟩ ⟨D,E⟩
 clear l p;generalize x.args.length=n at *;go_enter func111,ntmps111;go_upto_region 1 with fail;go_cut [5] (fun H I=>H=fu/\gW w I)
 case first=>
  go_region_held3 (fun b=>b.dQ g (o+2)=some (.slice e n f)/\b.dQ c (d+2)=some (.slice h n i)) (go_keep) (first|(go_at_call 165;refine(G.o _ (by first|exact .refl _|exact⟨1,rfl⟩)).dX fun r a=>?_;have K:r.dQ g (o+2)=some (.slice e n f):=(a.cell _).trans k;have L:r.dQ c (d+2)=some (.slice h n i):=(a.cell _).trans m));go_wp2;go_meet
  ·exact⟨rfl,aoW⟩
 case rest=>
  obtain⟨rfl,a⟩:=hcut;have J:=dn a;rw[<-a.cell]at u v k A B C m F;clear a;go_wp2_with (go_quiet (fail));go_ret;exact⟨rfl,J.o.more _⟩
theorem Dc (j l:eu)(n m p:Nat)(L:List fU)(w:World)(c:gI w j m L)(d:gI w l p L)(f:L.length=n) :
 dH 52 #[.slice j n m,.slice l n p] w λe g=>e=dF (fu)/\gW w g:=by
 have t:=c.le;have I:=c.max;have u:=d.le;have J:=d.max;have v:=dn c.get;have y:=dn d.get;rw[f]at t u;have z:=dn f;clear c d f;go_enter func52,ntmps52;go_wp2_with fail
 go_loopw [5] (fun i wr=>∃k:Nat,i=dw k/\k<=n/\gW w wr) (fun i _=>n-(intOf i).toNat)
 ·exact⟨0,rfl,aR,.refl _⟩
 case round=>
  obtain⟨k,rfl,K,a⟩:=hrel;have b:=dn a;clear a
  by_cases A:k<n
  ·obtain⟨x,h⟩:∃x,L[k]?=some x:=⟨_,aF (by rw[z.o];exact A)⟩;obtain⟨B,o,rfl,q⟩:=v.o k x h;obtain⟨C,D,rfl,r⟩:=y.o k x h
   have E:Hid (∀W,gW w W->dH 111 #[dK B (o+k*4),dK C (D+k*4)] W λe g=>e=dF (fu)/\gW W g):=λW s=>
    Jp _ _ _ _ x W (q.below s.below) (r.below s.below)
   clear h q r;go_upto_region 6 with fail;go_cut [6] (fun F G=>F=fu/\gW w G)
   case first=>
    go_region_held3 (fun _=>True) (go_keep) (first|(go_at_call 111;refine(E.o _ (by first|exact b.o|exact b.o.more 1)).mono ?_;rintro e M ⟨rfl,a⟩));go_wp2;go_meet
    ·exact⟨rfl,by first|exact b.o.trans a|exact(b.o.more 1).trans a⟩
   case rest=>
    obtain⟨rfl,a⟩:=hcut;have H:=dn a;clear a;go_wp2;go_roundw
    ·exact⟨k+1,bL,aR,H.o⟩
    ·exact aph
  ·go_wp2;go_ret;exact⟨rfl,b.o⟩
def acA (w':World)(base n:Nat)(e:Ending):Prop:=
 ∃(v:Value) (ws:List (dN)),e=dF v/\w'.ownsRow base 9 1 v ws.length (ws.map eO)/\0<ws.length/\(∀y∈ws,y.length<=n)/\ws.length<=n+1
theorem Ed (l:dN)(w:World)(J:l.length<=1000000000000) :
 dH 36 #[dD l] w λF t=>acA t w.heap.size l.length F/\dB w t:=by
 have K:=gU;obtain⟨u,hi,v,z,A⟩:=info_parts ni;go_enter func36,ntmps36;go_wp2_with fail
 go_loopw [3,4,5] (fun G H i wr=>∃(k q:Nat) (a:List (dN)),i=dw k/\H=dw q/\q<=k/\k<=l.length/\wr.ownsRow w.heap.size 9 1 G a.length (a.map eO)/\a.length<=k/\(∀y∈a,y.length<=l.length)/\dB w wr) (fun _ _ i _=>l.length-(intOf i).toNat)
 ·exact⟨0,0,[],rfl,rfl,aR,aR,World.ownsRow_nil _ _ _ _,aW,aW,af⟩
 case round=>
  obtain⟨k,q,a,rfl,rfl,L,M,B,N,C,f⟩:=hrel;have b:=dn B;have g:=dn C;have D:=f.size;clear B C
  by_cases O:k<l.length
  ·by_cases E:l[k].toNat=10
   ·have I:((l[k].toNat:Int)==10)=true:=bM;clear E;go_wp2_with (at_builtin;refine dU rfl (.tmp 16) (.tmp 21) 45 rfl w.heap.size 9 u (eB) 1 16 underlying45 hi v z A rfl aY _ a.length (a.map eO) rfl am1 (dA wr.heap.size 0) 1 [eO (List.drop q (List.take k l))] rfl rfl bP bX bz aR aX ?_;intro j m c d e _ n);exact apJ
   ·have I:((l[k].toNat:Int)==10)=false:=ak aR;exact aq6
  ·go_wp2_with (at_builtin;refine dU rfl (.tmp 25) (.tmp 29) 45 rfl w.heap.size 9 u (eB) 1 16 underlying45 hi v z A rfl aY _ a.length (a.map eO) rfl am1 (dA wr.heap.size 0) 1 [eO (List.drop q l)] rfl rfl bP bX bz aR aX ?_;intro j m c d e _ n);exact apP
theorem aab (l:dN)(w:World)(K:l.length<=1000000000000)(F:l≠[]) :
 dH 91 #[dD l] w λG t=>acA t w.heap.size l.length G/\dB w t:=by
 have L:=gU;obtain⟨u,hi,v,z,A⟩:=info_parts ni;have M:(l==[])=false:=ak F;go_enter func91,ntmps91;go_wp2_with fail
 go_loopw [3,4,5] (fun H I i wr=>∃(k q:Nat) (a:List (dN)),i=dw k/\I=dw q/\q<=k/\k<=l.length/\wr.ownsRow w.heap.size 9 1 H a.length (a.map eO)/\a.length<=k/\(∀y∈a,y.length<=l.length)/\dB w wr) (fun _ _ i _=>l.length-(intOf i).toNat)
 ·exact⟨0,0,[],rfl,rfl,aR,aR,World.ownsRow_nil _ _ _ _,aW,aW,af⟩
 case round=>
  obtain⟨k,q,a,rfl,rfl,N,O,B,P,C,f⟩:=hrel;have b:=dn B;have g:=dn C;have D:=f.size;clear B C
  by_cases Q:k<l.length
  ·by_cases E:l[k].toNat=44
   ·have J:((l[k].toNat:Int)==44)=true:=bM;clear E;go_wp2_with (at_builtin;refine dU rfl (.tmp 18) (.tmp 23) 45 rfl w.heap.size 9 u (eB) 1 16 underlying45 hi v z A rfl aY _ a.length (a.map eO) rfl am1 (dA wr.heap.size 0) 1 [eO (List.drop q (List.take k l))] rfl rfl bP bX bz aR aX ?_;intro j m c d e _ n);exact apJ
   ·have J:((l[k].toNat:Int)==44)=false:=ak aR;exact aq6
  ·go_wp2_with (at_builtin;refine dU rfl (.tmp 27) (.tmp 31) 45 rfl w.heap.size 9 u (eB) 1 16 underlying45 hi v z A rfl aY _ a.length (a.map eO) rfl am1 (dA wr.heap.size 0) 1 [eO (List.drop q l)] rfl rfl bP bX bz aR aX ?_;intro j m c d e _ n);exact apP
theorem aaa (w:World):dH 91 #[eB] w λe a=>e=dF (dE)/\a=w:=by
 go_enter func91,ntmps91;go_wp2;go_ret;exact⟨rfl,rfl⟩
