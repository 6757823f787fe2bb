import Derived.Test.YtbichedkajfmiaaGreatDoorGLaws0
import Derived.Test.YtbichedkajfmiaaGreatDoorC
set_option maxRecDepth 100000
set_option maxHeartbeats 16000000
namespace Go.Proofs.YtbichedkajfmiaaGreatDoor
open Go.RowKit
variable {W u w:World}{a:Option Addr}{m n:Nat}{v:Value}
structure fU where
 sym:Int
 other:Bool
 args:List (List UInt8)
 val:List UInt8
def kD (w:World)(v:Value)(xs:List (List UInt8)):Prop:=fA v xs.length (fun g i=>∀h:i<xs.length,w.cell? ⟨g,i,none⟩=some (.string ⟨xs[i].toArray⟩))
theorem kD.below {a:List (List UInt8)}(h:kD w v a)(c:Below w.heap.size w W):kD W v a:=
 fA.imp h fun g i _ b hi=>(c.cell (p:=⟨g,i,none⟩) (ai (b hi))).trans (b hi)
theorem kD.get {l:List (List UInt8)}(h:kD w (.slice a n m) l):∀i z,l[i]?=some z->∃g,a=some ⟨g,0,none⟩/\w.cell? ⟨g,i,none⟩=some (.string ⟨z.toArray⟩):=by
 exact alG
theorem kD.form {a:List (List UInt8)}(h:kD w v a):∃b c,v=.slice b a.length c/\a.length<=c/\c<=2 ^ 63-1:=by
 obtain⟨b,c,d,e,f,_⟩:=h;exact⟨b,c,d,e,f⟩
structure Ak (w:World)(g o:Nat)(e:fU):Prop where
 sym:w.cell? ⟨g,o,none⟩=some (.int .i64 e.sym)
 other:w.cell? ⟨g,o+1,none⟩=some (.bool e.other)
 args:∃a c,w.cell? ⟨g,o+2,none⟩=some (.slice a e.args.length c)/\e.args.length<=c/\c<=2 ^ 63-1/\kD w (.slice a e.args.length c) e.args
 val:w.cell? ⟨g,o+3,none⟩=some (.string ⟨e.val.toArray⟩)
theorem Ak.below {o:Nat}{e:fU}(h:Ak w n o e)(a:Below w.heap.size w W):Ak W n o e:=by
 have b:=ai h.sym;obtain⟨c,d,f,g,i,j⟩:=h.args;exact⟨(a.cell (p:=⟨n,o,none⟩) b).trans h.sym,(a.cell (p:=⟨n,o+1,none⟩) b).trans h.other,⟨c,d,(a.cell (p:=⟨n,o+2,none⟩) b).trans f,g,i,j.below a⟩,(a.cell (p:=⟨n,o+3,none⟩) b).trans h.val⟩
structure fZ (w:World)(ao:Option Addr)(cap:Nat)(L:List fU):Prop where
 le:L.length<=cap
 max:cap<=2 ^ 63-1
 get:∀i e,L[i]?=some e->∃g o,ao=some ⟨g,o,none⟩/\Ak w g (o+i*4) e
variable {c:List fU}
theorem fZ.below (h:fZ w a n c)(b:Below w.heap.size w W):fZ W a n c:=
 ⟨h.le,h.max,fun i e d=>by obtain⟨g,o,f,j⟩:=h.get i e d;exact⟨g,o,f,j.below b⟩⟩
theorem fZ.nil (w:World):fZ w none 0 []:=⟨ae,aO,fun i e h=>ajo⟩
def pk (c:Int)(n:Nat):Nat:=((if c<0 then -(c+1) else c) % (n:Int)).toNat
theorem l6 (c:Int){n:Nat}(h:0<n):pk c n<n:=by
 unfold pk;have a:=Int.emod_nonneg (if c<0 then -(c+1) else c) (by omega:(n:Int)≠0);have b:=Int.emod_lt_of_pos (if c<0 then -(c+1) else c) (by omega:(0:Int)<(n:Int));exact aO
theorem jo (c:Int)(n:Nat)(w:World)(j:-9223372036854775808<=c)(k:c<=9223372036854775807)(l:0<n)(a:n<=9223372036854775807) :
 Calls Tryz.prog 37 #[.int .i64 c,.int .i64 (n:Nat)] w fun f g=>f=.returned (.int .i64 (pk c n:Nat))/\g=w:=by
 have d:Hid (∀m:Int,m=(if c<0 then -(c+1) else c)->m.tmod n=(pk c n:Nat)):=fun m a=>by
  unfold pk;rw[<-a];have h:0<=m:=by rw[a];split<;>omega
  rw[Int.tmod_eq_emod_of_nonneg h,Int.toNat_of_nonneg (Int.emod_nonneg _ aO)]
 have o:Hid (∀m:Int,0<=m->0<=m.tmod n/\m.tmod n<n):=fun m i=>⟨Int.tmod_nonneg _ i,Int.tmod_lt_of_pos _ aO⟩;have p:¬((n:Int)=0):=aO;generalize pk c n=q at *
 by_cases e:c<0
 ·have b:=di (d.o (-(c+1)) (by rw[if_pos e]));go_enter Tryz.func37,Tryz.ntmps37;go_wp2_with fail;go_ret;exact⟨fB (by rw[<-b.o,Int.neg_tmod]),rfl⟩
 ·have b:=di (d.o c (by rw[if_neg e]));go_enter Tryz.func37,Tryz.ntmps37;go_wp2_with fail;go_ret;exact⟨fB (by rw[<-b.o,Int.tmod_eq_emod_of_nonneg aO]),rfl⟩
def fF (w w':World):Prop:=∃q,w'=w.drewN q
theorem fF.refl (w:World):fF w w:=⟨0,rfl⟩
theorem fF.more (h:fF w W)(n:Nat):fF w (W.drewN n):=by
 obtain⟨q,rfl⟩:=h;exact⟨q+n,aP⟩
theorem fF.trans (h:fF w W)(g:fF W u):fF w u:=by
 obtain⟨q,rfl⟩:=g;exact h.more q
theorem fF.below (h:fF w W):Below w.heap.size w W:=by
 obtain⟨q,rfl⟩:=h;exact below_drewN af _
theorem fF.cell (h:fF w W)(a:Addr):W.cell? a=w.cell? a:=by
 obtain⟨q,rfl⟩:=h;exact aP
theorem fF.heap (h:fF w W):W.heap=w.heap:=by
 obtain⟨q,rfl⟩:=h;exact aP
theorem fZ.drawn (h:fZ w a n c)(b:fF w W):fZ W a n c:=h.below b.below
theorem FI (f g:Option Addr)(n c d:Nat)(a:List (List UInt8))(w:World)(h:kD w (.slice f n c) a)(j:kD w (.slice g n d) a)(l:a.length=n)(o:n<=c/\c<=2 ^ 63-1)(p:n<=d/\d<=2 ^ 63-1) :
 Calls Tryz.prog 160 #[.slice f n c,.slice g n d] w fun q r=>q=.returned (.bool true)/\fF w r:=by
 obtain⟨A,B⟩:=o;obtain⟨C,D⟩:=p;have s:=di h.get;have t:=di j.get;have u:=di l;clear h j l;go_enter Tryz.func160,Tryz.ntmps160;go_wp2_with fail
 go_loopw [5] (fun i wr=>∃k:Nat,i=.int .i64 k/\k<=n/\fF w wr) (fun i _=>n-(intOf i).toNat)
 case atStart=>exact⟨0,rfl,aO,.refl _⟩
 case round=>
  obtain⟨k,rfl,E,b⟩:=hrel;have m:=di b
  by_cases v:k<n
  ·obtain⟨x,e⟩:∃x,a[k]?=some x:=⟨_,aD (by rw[u.o];exact v)⟩;obtain⟨F,rfl,y⟩:=s.o k x e;obtain⟨G,rfl,z⟩:=t.o k x e;rw[<-b.cell]at y z;clear e b;go_wp2_with (go_quiet (fail));go_roundw
   case rel=>exact⟨k+1,bJ,aO,m.o.more _⟩
   case measure=>exact akL
  ·go_wp2_with fail;go_ret;exact⟨rfl,m.o⟩
theorem FK (g o c d:Nat)(x:fU)(w:World)(s:Ak w g o x)(t:Ak w c d x) :
 Calls Tryz.prog 109 #[.pointer (some ⟨g,o,none⟩),.pointer (some ⟨c,d,none⟩)] w fun e b=>e=.returned (.bool true)/\fF w b:=by
 obtain⟨u,v,⟨f,h,k,y,z,l⟩,A⟩:=s;obtain⟨B,C,⟨i,j,m,D,E,p⟩,F⟩:=t
 have G:Hid (∀W,fF w W->Calls Tryz.prog 160 #[.slice f x.args.length h,.slice i x.args.length j] W fun e b=>e=.returned (.bool true)/\fF W b):=fun W q=>
  FI f i _ h j x.args W (l.below q.below) (p.below q.below) rfl ⟨y,z⟩ ⟨D,E⟩
 clear l p;generalize x.args.length=n at *;go_enter Tryz.func109,Tryz.ntmps109;go_upto_region 1 with fail;go_cut [5] (fun H I=>H=.bool true/\fF w I)
 case first=>
  go_region_held3 (fun b=>b.cell? ⟨g,o+2,none⟩=some (.slice f n h)/\b.cell? ⟨c,d+2,none⟩=some (.slice i n j)) (go_keep) (first|(go_at_call 160;refine(G.o _ (by first|exact .refl _|exact⟨1,rfl⟩)).mono ?_;rintro e r ⟨rfl,a⟩;have K:r.cell? ⟨g,o+2,none⟩=some (.slice f n h):=(a.cell _).trans k;have L:r.cell? ⟨c,d+2,none⟩=some (.slice i n j):=(a.cell _).trans m));go_wp2_with fail;go_meet
  case rel=>exact⟨rfl,akA⟩
 case rest=>
  obtain⟨rfl,a⟩:=hcut;have J:=di a;rw[<-a.cell]at u v k A B C m F;clear a;go_wp2_with (go_quiet (fail));go_ret;exact⟨rfl,J.o.more _⟩
theorem Ao (j l:Option Addr)(n m p:Nat)(L:List fU)(w:World)(c:fZ w j m L)(d:fZ w l p L)(f:L.length=n) :
 Calls Tryz.prog 51 #[.slice j n m,.slice l n p] w fun e g=>e=.returned (.bool true)/\fF w g:=by
 have t:=c.le;have I:=c.max;have u:=d.le;have J:=d.max;have v:=di c.get;have y:=di d.get;rw[f]at t u;have z:=di f;clear c d f;go_enter Tryz.func51,Tryz.ntmps51;go_wp2_with fail
 go_loopw [5] (fun i wr=>∃k:Nat,i=.int .i64 k/\k<=n/\fF w wr) (fun i _=>n-(intOf i).toNat)
 case atStart=>exact⟨0,rfl,aO,.refl _⟩
 case round=>
  obtain⟨k,rfl,K,a⟩:=hrel;have b:=di a;clear a
  by_cases A:k<n
  ·obtain⟨x,h⟩:∃x,L[k]?=some x:=⟨_,aD (by rw[z.o];exact A)⟩;obtain⟨B,o,rfl,q⟩:=v.o k x h;obtain⟨C,D,rfl,r⟩:=y.o k x h
   have E:Hid (∀W,fF w W->Calls Tryz.prog 109 #[.pointer (some ⟨B,o+k*4,none⟩),.pointer (some ⟨C,D+k*4,none⟩)] W fun e g=>e=.returned (.bool true)/\fF W g):=fun W s=>
    FK _ _ _ _ x W (q.below s.below) (r.below s.below)
   clear h q r;go_upto_region 6 with fail;go_cut [6] (fun F G=>F=.bool true/\fF w G)
   case first=>
    go_region_held3 (fun _=>True) (go_keep) (first|(go_at_call 109;refine(E.o _ (by first|exact b.o|exact b.o.more 1)).mono ?_;rintro e M ⟨rfl,a⟩));go_wp2_with fail;go_meet
    case rel=>exact⟨rfl,by first|exact b.o.trans a|exact(b.o.more 1).trans a⟩
   case rest=>
    obtain⟨rfl,a⟩:=hcut;have H:=di a;clear a;go_wp2_with fail;go_roundw
    case rel=>exact⟨k+1,bJ,aO,H.o⟩
    case measure=>exact akL
  ·go_wp2_with fail;go_ret;exact⟨rfl,b.o⟩
def YA (w':World)(base n:Nat)(e:Ending):Prop:=
 ∃(v:Value) (ws:List (List UInt8)),e=.returned v/\w'.ownsRow base 9 1 v ws.length (ws.map dO)/\0<ws.length/\(∀y∈ws,y.length<=n)/\ws.length<=n+1
theorem BB (l:List UInt8)(w:World)(J:l.length<=1000000000000) :
 Calls Tryz.prog 35 #[.string ⟨l.toArray⟩] w fun F t=>YA t w.heap.size l.length F/\Below w.heap.size w t:=by
 have K:=fJ;obtain⟨u,hi,v,z,A⟩:=info_parts Tryz.oC;go_enter Tryz.func35,Tryz.ntmps35;go_wp2_with fail
 go_loopw [3,4,5] (fun G H i wr=>∃(k q:Nat) (a:List (List UInt8)),i=.int .i64 k/\H=.int .i64 q/\q<=k/\k<=l.length/\wr.ownsRow w.heap.size 9 1 G a.length (a.map dO)/\a.length<=k/\(∀y∈a,y.length<=l.length)/\Below w.heap.size w wr) (fun _ _ i _=>l.length-(intOf i).toNat)
 case atStart=>exact⟨0,0,[],rfl,rfl,aO,aO,World.ownsRow_nil _ _ _ _,aP,aP,af⟩
 case round=>
  obtain⟨k,q,a,rfl,rfl,L,M,B,N,C,f⟩:=hrel;have b:=di B;have g:=di C;have D:=f.size;clear B C
  by_cases O:k<l.length
  ·by_cases E:l[k].toNat=10
   ·have I:((l[k].toNat:Int)==10)=true:=bz;clear E;go_wp2_with (at_builtin;refine dD rfl (.tmp 16) (.tmp 21) 45 rfl w.heap.size 9 u (.string ⟨#[]⟩) 1 16 Tryz.underlying45 hi v z A rfl aR _ a.length (a.map dO) rfl aiV ⟨wr.heap.size,0,none⟩ 1 [dO (List.drop q (List.take k l))] rfl rfl bM bX aX aO aQ ?_;intro j m c d e _ n);exact alc
   ·have I:((l[k].toNat:Int)==10)=false:=aj aO;exact amh
  ·go_wp2_with (at_builtin;refine dD rfl (.tmp 25) (.tmp 29) 45 rfl w.heap.size 9 u (.string ⟨#[]⟩) 1 16 Tryz.underlying45 hi v z A rfl aR _ a.length (a.map dO) rfl aiV ⟨wr.heap.size,0,none⟩ 1 [dO (List.drop q l)] rfl rfl bM bX aX aO aQ ?_;intro j m c d e _ n);exact alg
theorem VN (l:List UInt8)(w:World)(K:l.length<=1000000000000)(F:l≠[]) :
 Calls Tryz.prog 90 #[.string ⟨l.toArray⟩] w fun G t=>YA t w.heap.size l.length G/\Below w.heap.size w t:=by
 have L:=fJ;obtain⟨u,hi,v,z,A⟩:=info_parts Tryz.oC;have M:(l==[])=false:=aj F;go_enter Tryz.func90,Tryz.ntmps90;go_wp2_with fail
 go_loopw [3,4,5] (fun H I i wr=>∃(k q:Nat) (a:List (List UInt8)),i=.int .i64 k/\I=.int .i64 q/\q<=k/\k<=l.length/\wr.ownsRow w.heap.size 9 1 H a.length (a.map dO)/\a.length<=k/\(∀y∈a,y.length<=l.length)/\Below w.heap.size w wr) (fun _ _ i _=>l.length-(intOf i).toNat)
 case atStart=>exact⟨0,0,[],rfl,rfl,aO,aO,World.ownsRow_nil _ _ _ _,aP,aP,af⟩
 case round=>
  obtain⟨k,q,a,rfl,rfl,N,O,B,P,C,f⟩:=hrel;have b:=di B;have g:=di C;have D:=f.size;clear B C
  by_cases Q:k<l.length
  ·by_cases E:l[k].toNat=44
   ·have J:((l[k].toNat:Int)==44)=true:=bz;clear E;go_wp2_with (at_builtin;refine dD rfl (.tmp 18) (.tmp 23) 45 rfl w.heap.size 9 u (.string ⟨#[]⟩) 1 16 Tryz.underlying45 hi v z A rfl aR _ a.length (a.map dO) rfl aiV ⟨wr.heap.size,0,none⟩ 1 [dO (List.drop q (List.take k l))] rfl rfl bM bX aX aO aQ ?_;intro j m c d e _ n);exact alc
   ·have J:((l[k].toNat:Int)==44)=false:=aj aO;exact amh
  ·go_wp2_with (at_builtin;refine dD rfl (.tmp 27) (.tmp 31) 45 rfl w.heap.size 9 u (.string ⟨#[]⟩) 1 16 Tryz.underlying45 hi v z A rfl aR _ a.length (a.map dO) rfl aiV ⟨wr.heap.size,0,none⟩ 1 [dO (List.drop q l)] rfl rfl bM bX aX aO aQ ?_;intro j m c d e _ n);exact alg
theorem VM (w:World):Calls Tryz.prog 90 #[.string ⟨#[]⟩] w fun e a=>e=.returned (.slice none 0 0)/\a=w:=by
 go_enter Tryz.func90,Tryz.ntmps90;go_wp2_with fail;go_ret;exact⟨rfl,rfl⟩
end Go.Proofs.YtbichedkajfmiaaGreatDoor
