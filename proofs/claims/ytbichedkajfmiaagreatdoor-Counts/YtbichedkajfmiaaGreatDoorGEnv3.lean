import Derived.Deep.RegionHeld3
import Derived.Test.YtbichedkajfmiaaGreatDoorGCert0
import Derived.Test.YtbichedkajfmiaaGreatDoorGLaws0
import Derived.Test.YtbichedkajfmiaaGreatDoorC
set_option maxRecDepth 100000
set_option maxHeartbeats 16000000
namespace Go.Proofs.YtbichedkajfmiaaGreatDoor
open Go.RowKit
variable {J:List Lit}{N i j k m n:Nat}{P:List Bool}{W u w:World}{X:dX}{a:Option Addr}{e:TypeId}{h:Ending}{v:Value}
theorem Tryz.DF:(Tryz.prog.info? 4).map (fun i=>(i.zero,i.size,i.bytes))=some (some (.bool false),1,1):=bL
theorem GA (a:List Bool)(b:Bool):(a++[b]).map Value.bool=a.map Value.bool++[.bool b]:=aP
def wE (w':World)(eb:Nat)(av:Nat->Prop)(ats:List Lit)(on:List Bool)(l:Lit)(e:Ending):Prop:=
 e=.returned (.tuple #[])/\((eH w' eb av ats on/\∃x∈ats,jC x l=true)\/eH w' eb av (ats++[l]) (on++[false]))
theorem tV (a:Nat)(s:Nat->Prop)(b:List Lit)(j:List Bool)(l:Lit)(w:World)(K:eH w a s b j)(hsm:b.length<=1000000)(hav:∀c,s c->c<w.heap.size) :
 Calls Tryz.prog 201 #[.pointer (some ⟨a,0,none⟩),.agg #[.bool l.neg,.int .u8 l.kind,.int .i64 l.a,.int .i64 l.b]] w fun e B=>wE B a s b j l e/\Below a w B/\(∀c,s c->B.heap[c]?=w.heap[c]?):=by
 have L9:=di K;have L:=K.lt;obtain⟨va,C,h1,h2,h3,M,h5,h6,h7,h8⟩:=K;have HA:=di (eP.tF (Row.dW M aP ai5));obtain⟨t,u,hva,Ym,acZ,abv⟩:=HA.o;subst hva;unfold maxLen at acZ;have af1:=di abv;have H6:=di h6;have H7:=di h7;have H4:=di M;have H5:=di h5;have v:=di h8;have D:=di hav;clear M h5 h6 h7 h8 abv hav;obtain⟨i0,hi,hz0,hz1,hz2⟩:=info_parts Tryz.Cs;obtain⟨j0,hj,hj0,hj1,hj2⟩:=info_parts Tryz.DF;go_enter Tryz.func201,Tryz.ntmps201;go_wp2_with fail
 go_loopw [4] (fun N wr=>∃k:Nat,N=.int .i64 k/\k<=b.length/\Below w.heap.size w wr/\w.heap.size<wr.heap.size/\eG wr w.heap.size 0 l) (fun N _=>b.length-(intOf N).toNat)
 case atStart=>
  exact⟨0,rfl,aO,ag,aP,⟨aP,aP,aP,aP⟩⟩
 case round=>
  obtain⟨k,rfl,hk,f,hsz,O⟩:=hrel;have E:=(f.cell (p:=⟨a,0,none⟩) L).trans h1
  by_cases P:k<b.length
  ·obtain⟨F,rfl,i⟩:=af1.o k P;have hgb:=ai (i P).neg;have hc1:=(i P).below f hgb;have Dl:=di O;obtain⟨e1,e2,e3,e4⟩:=hc1;obtain⟨Q,R,S,T⟩:=O;clear i;go_upto_region 4 with fail
   go_cut [5] (fun bg U=>bg=.bool (jC b[k] l)/\Below wr.heap.size wr U)
   case first=>
    go_region_with (go_at_call 241;refine(qD b[k] l _).mono ?_;rintro e B ⟨rfl,m⟩)
    all_goals
     go_wp2_with fail;go_meet
     case rel=>exact⟨rfl,Below.jW m⟩
   case rest=>
    obtain⟨rfl,V⟩:=hcut;have G:=f.trans (V.mono f.size);have HL2:=di (Dl.o.below V hsz);have hs2:w.heap.size<wc.heap.size:=Nat.lt_of_lt_of_le hsz V.size;clear e1 e2 e3 e4 Q R S T E;have LF:Hid (jC b[k] l=true->∃bn∈b,jC bn l=true):=fun h=>⟨_,aP,h⟩;generalize jC b[k] l=g at *;cases g
    ·go_wp2_with fail;go_roundw
     case rel=>exact⟨k+1,bJ,aO,G,hs2,HL2.o⟩
     case measure=>exact akL
    ·go_wp2_with fail;exact bodyPost_ret (v:=.tuple #[]) (by simp[results,Tryz.results201]) rfl ⟨⟨rfl,.inl ⟨L9.o.below G,LF.o trivial⟩⟩,G.mono aO,fun c i=>G.block c (D.o c i)⟩
  ·have H:=ownsRow_below H4.o f;have hown2:=ownsRow_below H5.o f;have g2:=(f.cell (p:=⟨a,1,none⟩) L).trans h2;have W:=fun o=>(f.frozen (p:=⟨a,o,none⟩) L).trans (h3 o);obtain⟨Q,R,S,T⟩:=O;have x:a<wr.heap.size:=by have:=f.size;omega
   have hnb:∀q,(Value.slice t b.length u).ownBlock=some q->a+1<=q:=fun q X=>(H.lt q X).1;go_upto_region 6 with fail
   go_cut [] (fun U=>∃F cap,((Value.slice t b.length u).ownBlock=some F\/wr.heap.size+1<=F)/\lH ((wr.alloc (.cells #[.bool l.neg,.int .u8 l.kind,.int .i64 l.a,.int .i64 l.b] 168)).drew) U a 0 (a+1) 168 4 (.slice t b.length u) (.slice (some ⟨F,0,none⟩) (b.length+1) cap) (b.length+1) ((b.map Lit.cells).flatten++l.cells))
   case first=>
    go_region_law (refine iH rfl (.tmp 29) (.tmp 31) 161 rfl (a+1) 168 i0 (.agg #[.bool false,.int .u8 0,.int .i64 0,.int .i64 0]) 4 24 Tryz.underlying161 hi hz0 hz1 hz2 rfl aR (.slice t b.length u) b.length (b.map Lit.cells).flatten bZ (by exact(H.alloc _).drew) ⟨wr.heap.size,0,none⟩ 1 l.cells bZ rfl (by exact FO wr l _) (mH _) aX aO aQ ?_;intro Y eZ n I p hg1 y;have q1:n.cell? ⟨a,0,none⟩=some (.slice t b.length u):=((dP p (a:=⟨a,0,none⟩) aQ (fun e=>by have:=hnb a e.symm;omega)).trans (dC wr _ _ x)).trans E;have q2:n.frozen? ⟨a,0,none⟩=false:=((dS p (a:=⟨a,0,none⟩) aQ (fun e=>by have:=hnb a e.symm;omega)).trans (dI wr _ _ x)).trans (W 0))
    all_goals
     have d:=fE (f:=0) aO ((H.alloc _).drew) aQ ((dC wr _ _ x).trans E) I p y;go_wp2_with fail;go_meet
     case rel=>exact⟨Y,eZ,by simpa using y,d⟩
   case rest=>
    obtain⟨Y,eZ,Ap,d⟩:=hcut;have HWH:=di Ap;clear Ap;have hd1:∀g,C.ownBlock=some g->(Value.slice t b.length u).ownBlock≠some g:=fun g m h=>H6.o g h m;obtain⟨Z,hd2⟩:=d.other _ _ _ _ _ ((hown2.alloc _).drew) hd1;have z:a<wc.heap.size:=by have:=d.size;simp at this;omega
    have g1c:=d.cell;have g2c:=(d.cells 1 aO).trans ((dC wr _ ⟨a,1,none⟩ x).trans g2);have g3c:=fun o=>(d.frozen o).trans ((dI wr _ ⟨a,o,none⟩ x).trans (W o));have Me:=di d;have aa1:∀q,C.ownBlock=some q->a+1<=q:=fun q X=>(Z.lt q X).1;have ag6:j.length<=1000000:=by have:=H7.o;omega
    clear d H hown2 E g2 W Q R S T hd1;go_wp2_with (at_builtin;refine dD rfl (.tmp 39) (.tmp 40) 255 rfl (a+1) 4 j0 (.bool false) 1 1 Tryz.underlying255 hj hj0 hj1 hj2 rfl aR C j.length (j.map Value.bool) rfl (by exact(Z.alloc _)) ⟨wc.heap.size,0,none⟩ 1 [.bool false] rfl rfl bM bX aX aO aQ ?_;intro J Qn n I p hg1 y;have q1:n.cell? ⟨a,1,none⟩=some C:=((dP p (a:=⟨a,1,none⟩) aQ (fun e=>by have:=aa1 a e.symm;omega)).trans (dC wc _ _ z)).trans g2c;have q2:n.frozen? ⟨a,1,none⟩=false:=((dS p (a:=⟨a,1,none⟩) aQ (fun e=>by have:=aa1 a e.symm;omega)).trans (dI wc _ _ z)).trans (g3c 1));have r:=fE (f:=1) aO (Z.alloc _) aQ ((dC wc _ _ z).trans g2c) I p y;have d:=Me.o
    have hfin:eH (n.setCell ⟨a,1,none⟩ (.slice (some ⟨J,0,none⟩) (j.length+1) Qn)) a s (b++[l]) (j++[false]):=by
     obtain⟨r1,r2⟩:=r.other _ _ _ _ _ (d.own.alloc _) (fun g m h=>hd2 g h m);refine⟨_,_,(r.cells 0 aO).trans ((dC wc _ ⟨a,0,none⟩ z).trans g1c),r.cell,fun o=>(r.frozen o).trans ((dI wc _ ⟨a,o,none⟩ z).trans (g3c o)),?_,?_,r2,by have:=H7.o;simp;omega,v.o.1,?_,?_⟩
     ·rw[tH,List.length_append];exact r1
     ·rw[GA,List.length_append];exact r.own
     ·intro g m A;have hbg:Y=g:=aj3;subst hbg;rcases HWH.o with h|h
      ·exact v.o.2.1 _ h A
      ·have:=D.o _ A;have:=f.size;exact aO
     ·intro g m A;have hbg:J=g:=aj3;subst hbg;rcases y with h|h
      ·exact v.o.2.2 _ h A
      ·have:=D.o _ A;have:=f.size;have:=d.size;simp at h this;exact aO
    have ac2:∀c,s c->(n.setCell ⟨a,1,none⟩ (.slice (some ⟨J,0,none⟩) (j.length+1) Qn)).heap[c]?=w.heap[c]?:=by
     intro c i;have hcw:=D.o c i;have s1:=f.size;have s2:=d.size;simp at s2;have hce:c≠a:=fun e=>v.o.1 (by rw[<-e];exact i);rw[r.block c aQ hce (fun e=>v.o.2.2 c e.symm i)];show(wc.alloc _).heap[c]?=_;rw[Below.heap_alloc _ _ _ aO];rw[d.block c aQ hce (fun e=>v.o.2.1 c e.symm i)];show(wr.alloc _).heap[c]?=_;rw[Below.heap_alloc _ _ _ aO];exact f.block c hcw
    have ac5:Below a w (n.setCell ⟨a,1,none⟩ (.slice (some ⟨J,0,none⟩) (j.length+1) Qn)):=(((((f.mono aO).alloc aO _).drew).trans d.below).alloc aO _).trans r.below;clear I p d r;go_wp2_with fail;go_end0;exact⟨⟨rfl,.inr hfin⟩,ac5,ac2⟩
structure fT (w:World)(pb bb:Nat)(ts:List dX)(held:List Nat)(cs:List (List Lit)):Prop where
 book:w.cell? ⟨pb,0,none⟩=some (.pointer (some ⟨bb,0,none⟩))
 terms:mr w bb ts
 held:∃v,w.cell? ⟨pb,1,none⟩=some v/\dY w v held
 cls:∃v,w.cell? ⟨pb,2,none⟩=some v/\lU w v cs
theorem fT.below {c:List dX}{held:List Nat}{d:List (List Lit)}(h:fT w n m c held d)(a:Below w.heap.size w W):fT W n m c held d:=by
 have b:=ai h.book;obtain⟨e,f,g⟩:=h.held;obtain⟨i,j,k⟩:=h.cls;exact⟨(a.cell (p:=⟨n,0,none⟩) b).trans h.book,h.terms.below a,⟨e,(a.cell (p:=⟨n,1,none⟩) b).trans f,g.below a⟩,⟨i,(a.cell (p:=⟨n,2,none⟩) b).trans j,k.below a⟩⟩
def iy (ts:List dX)(a:Nat):Nat:=if h:a<ts.length then ts[a].sort else 0
theorem Dv (f i:Nat)(b:List dX)(held:List Nat)(j:List (List Lit))(a:Nat)(w:World)(c:fT w f i b held j) :
 Calls Tryz.prog 145 #[.pointer (some ⟨f,0,none⟩),.int .i64 a] w fun k l=>k=.returned (.int .i64 (iy b a))/\l=w:=by
 have o:=c.book;obtain⟨p,q,m⟩:=c.terms;obtain⟨r,s,rfl,t,n,d⟩:=m;unfold maxLen at n;clear c
 by_cases h:a<b.length
 ·have e:Hid (iy b a=b[a].sort):=by show _=_;simp[iy,h]
  obtain⟨u,rfl,g⟩:=d a h;have v:=(g h).sort;clear d g;go_enter Tryz.func145,Tryz.ntmps145;go_wp2_with fail;go_ret;exact⟨fB (by rw[e.o]),rfl⟩
 ·have e:Hid (iy b a=0):=by show _=_;simp[iy,h]
  clear d;go_enter Tryz.func145,Tryz.ntmps145;go_wp2_with fail;go_ret;exact⟨fB (by rw[e.o];rfl),rfl⟩
def kR (ts:List dX)(l:Lit):Bool:=
 if l.kind=84 then decide (iy ts l.a=1) else if l.kind=76 then decide (iy ts l.a=2)&&decide (iy ts l.b=2) else decide (iy ts l.a=iy ts l.b)&&(decide (iy ts l.a=2)||decide (iy ts l.a=3))
theorem Px (b c:Nat)(a:List dX)(held:List Nat)(d:List (List Lit))(l:Lit)(w:World)(i:fT w b c a held d) :
 Calls Tryz.prog 144 #[.pointer (some ⟨b,0,none⟩),.agg #[.bool l.neg,.int .u8 l.kind,.int .i64 l.a,.int .i64 l.b]] w fun e f=>e=.returned (.bool (kR a l))/\Below w.heap.size w f:=by
 have j:Hid (kR a l=if l.kind=84 then decide (iy a l.a=1) else if l.kind=76 then decide (iy a l.a=2)&&decide (iy a l.b=2) else decide (iy a l.a=iy a l.b)&&(decide (iy a l.a=2)||decide (iy a l.a=3))):=rfl;generalize kR a l=n at *;have g:Below w.heap.size w (w.alloc (.cells #[.bool l.neg,.int .u8 l.kind,.int .i64 l.a,.int .i64 l.b] 168)):=ag;have h:=i.below g;go_enter Tryz.func144,Tryz.ntmps144;go_wp2_with fail;refine(Dv b c a held d l.a _ h).mono ?_;rintro e f ⟨rfl,rfl⟩;go_wp2_with fail;refine(Dv b c a held d l.b _ h).mono ?_;rintro e f ⟨rfl,rfl⟩;generalize iy a l.a=o at *;generalize iy a l.b=p at *;go_wp2_with fail
 all_goals
  go_ret;refine⟨dK ?_,g⟩;rw[j.o,Bool.eq_iff_iff];clear i h g j;simp only[beq_iff_eq,beq_eq_false_iff_ne,ne_eq]at *
  by_cases k:l.kind=84
  ·rw[if_pos k]
   first|(exfalso;omega)|(simp;omega)|simp
  ·rw[if_neg k]
   by_cases m:l.kind=76
   ·rw[if_pos m]
    first|(exfalso;omega)|(simp;omega)|simp
   ·rw[if_neg m]
    first|(exfalso;omega)|(simp;omega)|simp
def Fa (w':World)(eb:Nat)(av:Nat->Prop)(n k:Nat)(e:Ending):Prop:=
 e=.returned (.tuple #[])/\∃ats on,eH w' eb av ats on/\ats.length<=n+k
theorem wE.X4 {b:Nat->Prop}{l:Lit}(e:wE w n b J P l h):h=.returned (.tuple #[])/\∃c f,eH w n b c f/\c.length<=J.length+1:=by
 obtain⟨d,a⟩:=e;rcases a with ⟨a,_⟩|a
 ·exact⟨d,J,P,a,aO⟩
 ·exact⟨d,_,_,a,aP⟩
theorem Vm (p v b:Nat)(d:Nat->Prop)(q:List dX)(held:List Nat)(x:List (List Lit))(e:List Lit)(i:List Bool)(y f h:Nat)(j w:World)(r:fT j p v q held x)(z:Below j.heap.size j w)
 (k:eH w b d e i) (L:e.length<=1000) (s:∀c,d c->c<w.heap.size) (t:f<q.length) :
 Calls Tryz.prog 237 #[.pointer (some ⟨p,0,none⟩),.pointer (some ⟨b,0,none⟩),.int .i64 y,.int .i64 f,.int .i64 h] w fun l m=>Fa m b d e.length 1 l/\Below b w m/\(∀c,d c->m.heap[c]?=w.heap[c]?):=by
 have n:=r.below z;have M:=k.lt;have N:=n.book;obtain⟨O,P,A⟩:=n.terms;obtain⟨Q,R,rfl,S,B,u⟩:=A;unfold maxLen at B;obtain⟨T,rfl,a⟩:=u f t;have U:=(a t).sort;clear u a n r;go_enter Tryz.func237,Tryz.ntmps237;have o:=di s;clear s;have C:Fa w b d e.length 1 (.returned (.tuple #[])):=⟨rfl,e,i,k,aO⟩;go_wp2_with fail
 all_goals first
  | (go_end0
     exact⟨C,af,fun _ _=>rfl⟩)
  | (refine(uU _ _ _).mono ?_
     rintro l D ⟨rfl,g⟩;have E:eH (D.alloc (.cells #[.bool false,.int .u8 69,.int .i64 (min f h:Nat),.int .i64 (max f h:Nat)] 168)) b d e i:=(k.below g).below ag;generalize min f h=F at *;generalize max f h=G at *;go_wp2_with fail;refine(tV b d e i ⟨false,69,F,G⟩ _ E aO (fun c a=>by have:=o.o c a;have:=g.size;simp;omega)).mono ?_;rintro l V ⟨H,I,J⟩;obtain⟨rfl,K⟩:=H.X4;go_wp2_with fail;go_end0;exact⟨⟨rfl,K⟩,(((g.mono aO).alloc (by have:=g.size;omega) _).trans I),fun c a=>(J c a).trans ((Below.heap_alloc _ _ _ (by have:=o.o c a;have:=g.size;omega)).trans (g.block c (o.o c a)))⟩)
structure ab5 (i:Nat)(t:dX):Prop where
 args:∀x∈t.args,x<i
 few:t.args.length<=4
 sort:t.sort=1\/t.sort=2\/t.sort=3
 op:1<=t.op/\t.op<=18
 one:t.op=3\/t.op=15->t.args.length=1
 two:t.op=6\/t.op=7\/t.op=8\/t.op=10\/t.op=11\/t.op=17\/t.op=18->t.args.length=2
 three:t.op=12->t.args.length=3
 num:t.op=14->∃z:Int,t.text=dn.dec z/\t.text.length<=8
def iU (ts:List dX):Prop:=∀i (h:i<ts.length),ab5 i ts[i]
structure jc (w:World)(b:Nat)(t:dX)(av:Value):Prop where
 text:w.cell? ⟨b,0,none⟩=some (.string ⟨t.text.toArray⟩)
 op:w.cell? ⟨b,1,none⟩=some (.int .i64 t.op)
 sort:w.cell? ⟨b,2,none⟩=some (.int .i64 t.sort)
 sym:w.cell? ⟨b,3,none⟩=some (.int .i64 t.sym)
 args:w.cell? ⟨b,4,none⟩=some av
theorem jc.below (h:jc w n X v){B:Nat}(a:Below B w W)(b:n<B):jc W n X v:=
 ⟨(a.cell (p:=⟨n,0,none⟩) b).trans h.text,(a.cell (p:=⟨n,1,none⟩) b).trans h.op,(a.cell (p:=⟨n,2,none⟩) b).trans h.sort,(a.cell (p:=⟨n,3,none⟩) b).trans h.sym,(a.cell (p:=⟨n,4,none⟩) b).trans h.args⟩
def jJ (w wx:World)(eb:Nat)(av:Nat->Prop)(t:dX)(va:Value)(n:Nat):Prop:=
 ∃ats on,eH wx eb (fun c=>av c\/c=w.heap.size) ats on/\ats.length<=n/\jc wx w.heap.size t va/\Below eb w wx/\w.heap.size<wx.heap.size/\(∀c,av c->wx.heap[c]?=w.heap[c]?)
theorem jJ.mono {a:Nat->Prop}(h:jJ w W n a X v m)(f:m<=k):jJ w W n a X v k:=by
 obtain⟨b,c,d,g,e⟩:=h;exact⟨b,c,d,aO,e⟩
theorem jJ.below {b:Nat->Prop}(h:jJ w W n b X v m)(a:Below W.heap.size W u)(g:∀c,b c->c<w.heap.size):jJ w u n b X v m:=by
 obtain⟨i,j,d,k,l,o,e,p⟩:=h;have:=d.lt;exact⟨i,j,d.below a,k,l.below a e,o.trans (a.mono aO),Nat.lt_of_lt_of_le e a.size,fun c f=>(a.block c (by have:=g c f;omega)).trans (p c f)⟩
theorem jJ.step {w:World}{d:Nat->Prop}(j:jJ w W n d X v k){e:List Lit}{f:List Bool}(l:eH u n (fun c=>d c\/c=w.heap.size) e f){m:Nat}(o:e.length<=m)
 (g:Below n W u) (h:∀c,(d c\/c=w.heap.size)->u.heap[c]?=W.heap[c]?):jJ w u n d X v m:=by
 obtain⟨_,_,_,_,a,p,q,r⟩:=j;have b:=h w.heap.size (.inr rfl);refine⟨e,f,l,o,?_,p.trans g,Nat.lt_of_lt_of_le q g.size,fun c i=>(h c (.inl i)).trans (r c i)⟩;exact⟨(World.cell?_of_block (a:=⟨w.heap.size,0,none⟩) b).trans a.text,(World.cell?_of_block (a:=⟨w.heap.size,1,none⟩) b).trans a.op,(World.cell?_of_block (a:=⟨w.heap.size,2,none⟩) b).trans a.sort,(World.cell?_of_block (a:=⟨w.heap.size,3,none⟩) b).trans a.sym,(World.cell?_of_block (a:=⟨w.heap.size,4,none⟩) b).trans a.args⟩
theorem jJ.note {b:Nat->Prop}(h:jJ w W n b X v m)(i:Below W.heap.size W u)(d:∀c,b c->c<w.heap.size)(l:Lit)(x:m<=1000) :
 Calls Tryz.prog 201 #[.pointer (some ⟨n,0,none⟩),.agg #[.bool l.neg,.int .u8 l.kind,.int .i64 l.a,.int .i64 l.b]] u fun e f=>e=.returned (.tuple #[])/\jJ w f n b X v (m+1):=by
 have g:=h.below i d;have j:=g;obtain⟨k,o,p,y,z,A,B,C⟩:=g;refine(tV n _ k o l u p aO (fun c a=>by rcases a with a|a;have:=d c a;omega;omega)).mono ?_;rintro e f ⟨q,r,s⟩;obtain⟨rfl,D,E,t,F⟩:=q.X4;exact⟨rfl,j.step t aO r s⟩
theorem Cx (a:Below w.heap.size w W):(∀b o,b<w.heap.size->W.cell? ⟨b,o,none⟩=w.cell? ⟨b,o,none⟩)/\(∀b o,b<w.heap.size->W.frozen? ⟨b,o,none⟩=w.frozen? ⟨b,o,none⟩):=
 ⟨fun b o h=>a.cell (p:=⟨b,o,none⟩) h,fun b o h=>a.frozen (p:=⟨b,o,none⟩) h⟩
theorem eG.FH {z:Lit}(h:eG w n 0 z)(l:Lit) :
 eG ((((w.setCell ⟨n,0,none⟩ (.bool l.neg)).setCell ⟨n,1,none⟩ (.int .u8 l.kind)).setCell ⟨n,2,none⟩ (.int .i64 l.a)).setCell ⟨n,3,none⟩ (.int .i64 l.b)) n 0 l:=by
 obtain⟨d,a,b,c⟩:=h;simp only[Nat.zero_add]at a b c;refine⟨?_,?_,?_,?_⟩
 ·rw[ak aP,ak aP,ak aP];exact World.cell?_setCell_same _ _ _ d
 ·simp only[Nat.zero_add];rw[ak aP,ak aP];exact World.cell?_setCell_same _ _ _ ((ak aP).trans a)
 ·simp only[Nat.zero_add];rw[ak aP];exact World.cell?_setCell_same _ _ _ ((ak aP).trans ((ak aP).trans b))
 ·simp only[Nat.zero_add];exact World.cell?_setCell_same _ _ _ ((ak aP).trans ((ak aP).trans ((ak aP).trans c)))
theorem qQ {wr:World}(a:Below wr.drew.heap.size wr.drew w)(l:Lit)(t:TypeId):∃b,Value.pointer (some ⟨w.heap.size,0,none⟩)=.pointer (some ⟨b,0,none⟩)/\eG (w.alloc (.cells #[.bool l.neg,.int .u8 l.kind,.int .i64 l.a,.int .i64 l.b] t)) b 0 l/\Below wr.heap.size wr (w.alloc (.cells #[.bool l.neg,.int .u8 l.kind,.int .i64 l.a,.int .i64 l.b] t)):=
 ⟨_,rfl,⟨aP,aP,aP,aP⟩,(Below.jW a).alloc (Below.jW a).size _⟩
theorem sQ {wr:World}(a:Below ((wr.alloc (.cells #[.bool false,.int .u8 0,.int .i64 0,.int .i64 0] e)).drew).heap.size ((wr.alloc (.cells #[.bool false,.int .u8 0,.int .i64 0,.int .i64 0] e)).drew) w)(l:Lit) :
 ∃b,Value.pointer (some ⟨wr.heap.size,0,none⟩)=.pointer (some ⟨b,0,none⟩)/\eG ((((w.setCell ⟨wr.heap.size,0,none⟩ (.bool l.neg)).setCell ⟨wr.heap.size,1,none⟩ (.int .u8 l.kind)).setCell ⟨wr.heap.size,2,none⟩ (.int .i64 l.a)).setCell ⟨wr.heap.size,3,none⟩ (.int .i64 l.b)) b 0 l/\
  Below wr.heap.size wr ((((w.setCell ⟨wr.heap.size,0,none⟩ (.bool l.neg)).setCell ⟨wr.heap.size,1,none⟩ (.int .u8 l.kind)).setCell ⟨wr.heap.size,2,none⟩ (.int .i64 l.a)).setCell ⟨wr.heap.size,3,none⟩ (.int .i64 l.b)):=by
 have c:eG ((wr.alloc (.cells #[.bool false,.int .u8 0,.int .i64 0,.int .i64 0] e)).drew) wr.heap.size 0 Lit.zero:=⟨aiQ,aiQ,aiQ,aiQ⟩;have d:=c.below a aP;have f:Below wr.heap.size wr w:=(((Below.refl wr.heap.size wr).alloc ae _).drew).trans (a.mono aP);exact⟨_,rfl,d.FH l,Below.FH f ae _ _ _ _⟩
theorem jJ.fin {a:Nat->Prop}(h:jJ w W n a X v m)(y:m<=100):Fa W n a 0 100 (.returned (.tuple #[]))/\Below n w W/\(∀c,a c->W.heap[c]?=w.heap[c]?):=by
 obtain⟨e,f,⟨v,g,i,j,k,l,o,p,q,r,s,t⟩,z,A,u,B,x⟩:=h;exact⟨⟨rfl,e,f,⟨v,g,i,j,k,l,o,p,q,fun h=>r (.inl h),fun b d h=>s b d (.inl h),fun b d h=>t b d (.inl h)⟩,aO⟩,u,x⟩
theorem jJ.box {a:Nat->Prop}(h:jJ w W n a X v m):jc W w.heap.size X v:=by
 obtain⟨_,_,_,_,b,_⟩:=h;exact b
theorem ZE (F K f:Nat)(r:Nat->Prop)(s:List dX)(held:List Nat)(cs:List (List Lit))(g:Nat)(c w:World)(U:fT c F K s held cs)(y:Below c.heap.size c w)(he0:c.heap.size<=f)
 (V:eH w f r [] []) (W:∀d,r d->d<w.heap.size) (L:g<s.length) (hwf:iU s) :
 Calls Tryz.prog 195 #[.pointer (some ⟨F,0,none⟩),.pointer (some ⟨f,0,none⟩),.int .i64 g] w fun m e=>Fa e f r 0 100 m/\Below f w e/\(∀d,r d->e.heap[d]?=w.heap[d]?):=by
 have X:=V.lt;have Y:=U.book;obtain⟨vT,Z,h2⟩:=U.terms;obtain⟨aT,jZ,rfl,hcap,hmax,sw⟩:=h2;unfold maxLen at hmax;obtain⟨A,rfl,u⟩:=sw g L
 have Ma:Hid (∀i (hi:i<s.length),wD c A (i*5) s[i]):=by
  intro i hi;obtain⟨g',n,hc'⟩:=sw i hi;injection n with n;injection n with n;subst n;exact hc' hi
 obtain⟨d1,d2,d3,d4,va,d5,hva⟩:=u L;have hw:=hwf g L;generalize hT:s[g]=t at *;clear sw u hT;obtain⟨z,p,rfl,IY,ac1,abx⟩:=hva;unfold maxLen at ac1
 have M:Hid (∀i (hi:i<t.args.length),∃a,z=some ⟨a,0,none⟩/\c.cell? ⟨a,i,none⟩=some (.int .i64 t.args[i])/\t.args[i]<s.length):=by
  intro i hi;obtain⟨a,N,v⟩:=abx i hi;exact⟨a,N,v hi,Nat.lt_trans (hw.args _ aP) L⟩
 have HW:Hid (∀wr,Below f w wr->Below c.heap.size c wr):=fun wr h=>y.trans (h.mono he0);have lp:=ai Y;have lb:=ai Z;have D:=ai d1;have h0:=(y.cell (p:=⟨F,0,none⟩) lp).trans Y;have h1:=(y.cell (p:=⟨K,1,none⟩) lb).trans Z;have e1:=(y.cell (p:=⟨A,g*5,none⟩) D).trans d1;have e2:=(y.cell (p:=⟨A,g*5+1,none⟩) D).trans d2;have e3:=(y.cell (p:=⟨A,g*5+2,none⟩) D).trans d3;have e4:=(y.cell (p:=⟨A,g*5+3,none⟩) D).trans d4;have e5:=(y.cell (p:=⟨A,g*5+4,none⟩) D).trans d5;have B:=di W;have pO:=hw.few
 have aaX:jJ w (w.alloc (.cells #[.string ⟨t.text.toArray⟩,.int .i64 t.op,.int .i64 t.sort,.int .i64 t.sym,.slice z t.args.length p] 176)) f r t (.slice z t.args.length p) 0:=by
  obtain⟨va,vo,q1,q2,q3,q4,q5,q6,q7,q8,q9,q10⟩:=V.below (af.alloc ae (.cells #[.string ⟨t.text.toArray⟩,.int .i64 t.op,.int .i64 t.sort,.int .i64 t.sym,.slice z t.args.length p] 176));obtain⟨va',vo',r1,r2,r3,r4,r5,r6,r7,r8,r9,GG⟩:=V;have b:=(Below.refl w.heap.size w).alloc ae (.cells #[.string ⟨t.text.toArray⟩,.int .i64 t.op,.int .i64 t.sort,.int .i64 t.sym,.slice z t.args.length p] 176);refine⟨[],[],⟨va',vo',(b.cell (p:=⟨f,0,none⟩) X).trans r1,(b.cell (p:=⟨f,1,none⟩) X).trans r2,fun o=>(b.frozen (p:=⟨f,o,none⟩) X).trans (r3 o),ownsRow_below r4 b,ownsRow_below r5 b,r6,r7,?_,?_,?_⟩,aP,⟨aP,aP,aP,aP,aP⟩,(b.mono aO),aP,fun d u=>b.block d (W d u)⟩
  ·intro h;rcases h with h|h;exact r8 h;exact aO
  ·intro j G h;rcases h with h|h;exact r9 j G h;have:=(r4.lt j G).2;exact aO
  ·intro j G h;rcases h with h|h;exact GG j G h;have:=(r5.lt j G).2;exact aO
 have ry:=di aaX;clear abx W aaX;go_enter Tryz.func195,Tryz.ntmps195
 go_upto_if 26 with fail
 go_cut [] (fun x=>jJ w x f r t (.slice z t.args.length p) 1)
 case first=>
  go_wp2_with fail
  all_goals first
   | (go_meet
      case rel=>exact ry.o.mono aO)
   | (refine(uT g _).mono ?_
      rintro m O ⟨rfl,b⟩;go_wp2_with fail;refine(ry.o.note (b.alloc b.size _) B.o ⟨false,84,g,0⟩ aO).mono ?_;rintro m P ⟨rfl,q⟩;go_wp2_with fail;go_meet
      case rel=>exact q)
 case rest=>
  have yt:=di hcut;clear hcut h0 h1 e1 e2 e3 e4 e5;go_wp2_with fail
  go_loopw [8] (fun i wr=>∃k:Nat,i=.int .i64 k/\k<=t.args.length/\jJ w wr f r t (.slice z t.args.length p) (1+k*5)) (fun i _=>t.args.length-(intOf i).toNat)
  case atStart=>exact⟨0,rfl,aO,yt.o⟩
  case round=>
   obtain⟨k,rfl,hk,H⟩:=hrel;have Q:=di H;obtain⟨ats,on,Yk,hal,uu,hbel,hsz,hkeep⟩:=H;have C:=HW.o wr hbel;obtain⟨x1,x2,x3,x4,x5⟩:=uu
   by_cases hlt:k<t.args.length
   ·obtain⟨a,rfl,E,hxl⟩:=M.o k hlt;have y0:=(C.cell (p:=⟨F,0,none⟩) lp).trans Y;have y1:=(C.cell (p:=⟨K,1,none⟩) lb).trans Z;have y2:=(C.cell (p:=⟨a,k,none⟩) (ai E)).trans E;have y3:=(Ma.o _ hxl).sort;have y4:=(C.cell (p:=⟨A,t.args[k]*5+2,none⟩) D).trans y3;generalize hs':s[t.args[k]].sort=sk at *;clear y3 hs' Yk hbel hkeep
    go_upto_if 54 with (go_quiet (fail))
    have aaV:=Q.o.below (below_drewN af nq) B.o;have Xx:=di aaV;clear aaV;go_cut [] (fun x=>jJ w x f r t (.slice (some ⟨a,0,none⟩) t.args.length p) (1+k*5+1))
    case first=>
     go_wp2_with fail
     all_goals first
      | (go_meet
         case rel=>exact Xx.o.mono aO)
      | (go_at_call 236
         refine(uT t.args[k] _).mono ?_;rintro m O ⟨rfl,b⟩;go_wp2_with fail;refine(Xx.o.note (b.alloc b.size _) B.o ⟨false,84,t.args[k],0⟩ aO).mono ?_;rintro m P ⟨rfl,q⟩;go_wp2_with fail;go_meet
         case rel=>exact q)
      | (go_at_call 199
         refine(uU g t.args[k] _).mono ?_;rintro m O ⟨rfl,b⟩;go_wp2_with fail;refine(Xx.o.note (b.alloc b.size _) B.o ⟨false,69,min g t.args[k],max g t.args[k]⟩ aO).mono ?_;rintro m P ⟨rfl,q⟩;go_wp2_with fail;go_meet
         case rel=>exact q)
    case rest=>
     have jB:=di hcut;clear hcut x1 x2 x3 x4 x5 y0 y1 y2 y4;go_wp2_with fail
     go_loopw [11] (fun i wr=>∃l:Nat,i=.int .i64 l/\l<=t.args.length/\jJ w wr f r t (.slice (some ⟨a,0,none⟩) t.args.length p) (1+k*5+1+l)) (fun i _=>t.args.length-(intOf i).toNat)
     case atStart=>exact⟨0,rfl,aO,jB.o⟩
     case round=>
      obtain⟨l,rfl,hj,H⟩:=hrel;have nV:=di H;obtain⟨aeS,on2,pF,ahw,ac4,PY,hsz2,SF⟩:=H;have I:=HW.o wr PY;obtain⟨x1,x2,x3,x4,x5⟩:=ac4
      by_cases hjlt:l<t.args.length
      ·obtain⟨gA',J,R,agW⟩:=M.o l hjlt;injection J with J
       injection J with J;subst J;have z1:=(I.cell (p:=⟨a,k,none⟩) (ai E)).trans E;have z2:=(I.cell (p:=⟨a,l,none⟩) (ai R)).trans R;have EB:=pF.below (af.drew)
       have aeF:∀d,(r d\/d=w.heap.size)->d<wr.drew.heap.size:=fun d u=>by
        rcases u with u|u
        ·have:=B.o d u;show d<wr.heap.size;exact aO
        ·show d<wr.heap.size;exact aO
       have hp3:=I.drew;clear pF PY SF;go_wp2_with fail;go_region_held3 (fun e=>e.cell? ⟨w.heap.size,1,none⟩=some (.int .i64 t.op)/\e.cell? ⟨w.heap.size,4,none⟩=some (.slice (some ⟨a,0,none⟩) t.args.length p)/\e.cell? ⟨a,k,none⟩=some (.int .i64 t.args[k])/\e.cell? ⟨a,l,none⟩=some (.int .i64 t.args[l])) (go_keep) (first|(go_at_call 237;refine(Vm F K f _ s held cs aeS on2 t.op t.args[k] t.args[l] c _ U hp3 EB aO aeF hxl).mono ?_;rintro m e ⟨hn,hb',hk'⟩;obtain⟨rfl,ahI,on4,hn4,hl4⟩:=hn;have hfin:=nV.o.step hn4 (m:=1+k*5+1+(l+1)) aO ((af.drew).trans hb') hk';have k1:=hfin.box.op;have k2:=hfin.box.args;have PW:=I.trans (((af.drew).trans hb').mono (by have:=I.size;omega));have k3:=(PW.cell (p:=⟨a,k,none⟩) (ai E)).trans E;have k4:=(PW.cell (p:=⟨a,l,none⟩) (ai R)).trans R))
       all_goals
        clear hn4 hb' hk' EB hp3;go_wp2_with fail;go_roundw
        case rel=>exact⟨l+1,bJ,aO,hfin⟩
        case measure=>exact akL
      ·clear pF PY SF;go_wp2_with fail;go_roundw
       case rel=>exact⟨k+1,bJ,aO,nV.o.mono aO⟩
       case measure=>exact akL
   ·have uB:Hid (t.op=10\/t.op=11->∃a u0 u1,z=some ⟨a,0,none⟩/\t.args.length=2/\a<wr.heap.size/\wr.cell? ⟨a,0,none⟩=some (.int .i64 (u0:Nat))/\wr.cell? ⟨a,1,none⟩=some (.int .i64 (u1:Nat))):=by
     intro ho;have h2:=hw.two (by rcases ho with h|h<;>simp[h]);obtain⟨a,N,c0,_⟩:=M.o 0 aO;obtain⟨gA',n,S,_⟩:=M.o 1 aO;rw[N]at n;injection n with n;injection n with n;subst n;exact⟨a,_,_,N,h2,Nat.lt_of_lt_of_le (ai c0) C.size,(C.cell (p:=⟨a,0,none⟩) (ai c0)).trans c0,(C.cell (p:=⟨a,1,none⟩) (ai S)).trans S⟩
    clear Yk hbel hkeep
    by_cases T:t.op=10
    ·obtain⟨a,u0,u1,rfl,hl2,Wn,z0,z1⟩:=uB.o (.inl T);have oU:((t.op:Int)==10)=true:=bz;have hyy:((t.op:Int)==11)=false:=aj aO;clear T;have n1:wr.heap.size≠w.heap.size:=aO;have n2:=n1.symm;have n3:wr.heap.size≠a:=aO;have n4:=n3.symm;go_upto_region 18 with fail
     go_cut [12] (fun bg x=>∃j,bg=.pointer (some ⟨j,0,none⟩)/\eG x j 0 ⟨false,76,u0,u1⟩/\Below wr.heap.size wr x)
     case first=>
      go_region_held3 (fun e=>e.cell? ⟨w.heap.size,4,none⟩=some (.slice (some ⟨a,0,none⟩) t.args.length p)/\e.cell? ⟨a,0,none⟩=some (.int .i64 u0)/\e.cell? ⟨a,1,none⟩=some (.int .i64 u1)) (go_keep) (first|(go_at_call 200;refine(ou u0 u1 _).mono ?_;rintro m O ⟨rfl,b⟩;obtain⟨v,EA⟩:=Cx b;have k1:=v w.heap.size 4 aQ;have k2:=v a 0 aQ;have k3:=v a 1 aQ))
      all_goals
       go_wp2_with fail;go_meet
       case rel=>first|exact qQ b ⟨false,76,u0,u1⟩ _|exact sQ b ⟨false,76,u0,u1⟩
     case rest=>
      obtain⟨j,rfl,⟨S,c2,c3,c4⟩,hbl⟩:=hcut;simp only[Nat.zero_add]at c2 c3 c4;go_wp2_with fail;refine(Q.o.note hbl B.o ⟨false,76,u0,u1⟩ aO).mono ?_;exact amQ
    ·by_cases h11:t.op=11
     ·obtain⟨a,u0,u1,rfl,hl2,Wn,z0,z1⟩:=uB.o (.inr h11);have oU:((t.op:Int)==10)=false:=aj aO;have hyy:((t.op:Int)==11)=true:=bz;clear T h11;have n1:wr.heap.size≠w.heap.size:=aO;have n2:=n1.symm;have n3:wr.heap.size≠a:=aO;have n4:=n3.symm;go_upto_region 21 with fail
      go_cut [13] (fun bg x=>∃j,bg=.pointer (some ⟨j,0,none⟩)/\eG x j 0 ⟨false,76,u1,u0⟩/\Below wr.heap.size wr x)
      case first=>
       go_region_held3 (fun e=>e.cell? ⟨w.heap.size,4,none⟩=some (.slice (some ⟨a,0,none⟩) t.args.length p)/\e.cell? ⟨a,0,none⟩=some (.int .i64 u0)/\e.cell? ⟨a,1,none⟩=some (.int .i64 u1)) (go_keep) (first|(go_at_call 200;refine(ou u1 u0 _).mono ?_;rintro m O ⟨rfl,b⟩;obtain⟨v,EA⟩:=Cx b;have k1:=v w.heap.size 4 aQ;have k2:=v a 0 aQ;have k3:=v a 1 aQ))
       all_goals
        go_wp2_with fail;go_meet
        case rel=>first|exact qQ b ⟨false,76,u1,u0⟩ _|exact sQ b ⟨false,76,u1,u0⟩
      case rest=>
       obtain⟨j,rfl,⟨S,c2,c3,c4⟩,hbl⟩:=hcut;simp only[Nat.zero_add]at c2 c3 c4;go_wp2_with fail;refine(Q.o.note hbl B.o ⟨false,76,u1,u0⟩ aO).mono ?_;exact amQ
     ·have oU:((t.op:Int)==10)=false:=aj aO;have hyy:((t.op:Int)==11)=false:=aj aO;clear T h11;go_wp2_with fail;go_end0;exact Q.o.fin aO
structure Ff (w:World)(pb bb:Nat)(ts:List dX)(a:Nat)(t:dX)(g jZ:Nat)(aA:Option Addr)(lu:Nat):Prop where
 adW:ts.length<=jZ
 adT:jZ<=2 ^ 63-1
 book:w.cell? ⟨pb,0,none⟩=some (.pointer (some ⟨bb,0,none⟩))
 terms:w.cell? ⟨bb,1,none⟩=some (.slice (some ⟨g,0,none⟩) ts.length jZ)
 text:w.cell? ⟨g,a*5,none⟩=some (.string ⟨t.text.toArray⟩)
 op:w.cell? ⟨g,a*5+1,none⟩=some (.int .i64 t.op)
 sort:w.cell? ⟨g,a*5+2,none⟩=some (.int .i64 t.sort)
 sym:w.cell? ⟨g,a*5+3,none⟩=some (.int .i64 t.sym)
 args:w.cell? ⟨g,a*5+4,none⟩=some (.slice aA t.args.length lu)
 aaL:t.args.length<=lu
 aaI:lu<=2 ^ 63-1
 arg:∀i (hi:i<t.args.length),∃gA,aA=some ⟨gA,0,none⟩/\gA<w.heap.size/\w.cell? ⟨gA,i,none⟩=some (.int .i64 t.args[i])
 all:∀i (hi:i<ts.length),wD w g (i*5) ts[i]
theorem fT.look {b:List dX}{held:List Nat}{q:List (List Lit)}(h:fT w n m b held q){c:Nat}(j:c<b.length):∃g d e f,Ff w n m b c b[c] g d e f:=by
 obtain⟨H,r,s⟩:=h.terms;obtain⟨I,d,rfl,t,k,l⟩:=s;unfold maxLen at k;obtain⟨g,rfl,u⟩:=l c j;obtain⟨v,x,y,z,J,A,B⟩:=u j;obtain⟨e,f,rfl,C,o,D⟩:=B;unfold maxLen at o;refine⟨g,d,e,f,t,k,h.book,r,v,x,y,z,A,C,o,?_,?_⟩
 ·intro i hi;obtain⟨E,F,p⟩:=D i hi;exact⟨E,F,ai (p hi),p hi⟩
 ·intro i hi;obtain⟨K,a,G⟩:=l i hi;injection a with a;injection a with a;subst a;exact G hi
theorem Ff.two {g:List dX}(h:Ff w n m g k X i j a N)(l:X.args.length=2) :
 ∃b u0 u1,a=some ⟨b,0,none⟩/\b<w.heap.size/\X.args=[u0,u1]/\w.cell? ⟨b,0,none⟩=some (.int .i64 (u0:Nat))/\w.cell? ⟨b,1,none⟩=some (.int .i64 (u1:Nat)):=by
 obtain⟨b,d,o,p⟩:=h.arg 0 aO;obtain⟨r,c,_,q⟩:=h.arg 1 aO;rw[d]at c;injection c with c
 injection c with c;subst c;refine⟨b,X.args[0],X.args[1],d,o,?_,p,q⟩;apply List.ext_getElem
 ·simp[l]
 ·intro e f s
  match e,f with
  | 0,_=>rfl
  | 1,_=>rfl
  | e+2,f=>omega
theorem iC.form (h:iC w v P):∃c a,v=.slice c P.length a/\P.length<=a/\a<=2 ^ 63-1/\∀i (hi:i<P.length),∃b,c=some ⟨b,0,none⟩/\b<w.heap.size/\w.cell? ⟨b,i,none⟩=some (.bool P[i]):=by
 obtain⟨c,a,f,g,d,j⟩:=h;unfold maxLen at d;exact⟨c,a,f,g,d,fun i hi=>by obtain⟨b,k,e⟩:=j i hi;exact⟨b,k,ai (e hi),e hi⟩⟩
theorem Nc (m H g:Nat)(n:Nat->Prop)(c:List dX)(held:List Nat)(I:List (List Lit))(o:List Lit)(p:List Bool)(d:Nat)(J:Bool)(q:Value)(K:List Bool)(w:World)(r:fT w m H c held I)
 (s:eH w g n o p) (u:iC w q K) (v:d<c.length) (x:iU c) (z:c[d].op=10) :
 Calls Tryz.prog 240 #[.pointer (some ⟨m,0,none⟩),.pointer (some ⟨g,0,none⟩),.int .i64 d,.bool J,q] w fun h e=>gL h/\Below w.heap.size w e:=by
 obtain⟨ab,cb,rfl,_,_,_⟩:=u.form;obtain⟨bg,jZ,aA,A,B⟩:=r.look v;have C:=(x d v).two (by simp[z]);obtain⟨a,u0,u1,rfl,D,L,E,F⟩:=B.two C;obtain⟨r1,r2,M,N,O,P,Q,R,S,GG,Nr,_,_⟩:=B;generalize T:c[d]=t at *;have oU:((t.op:Int)==10)=true:=bz;have U:=di s;clear L r x T z s u;go_enter Tryz.func240,Tryz.ntmps240;go_upto_region 1 with fail
 go_cut [11] (fun y b=>y=.pointer (some ⟨w.heap.size,0,none⟩)/\jc b w.heap.size t (.slice (some ⟨a,0,none⟩) t.args.length A)/\Below w.heap.size w b/\w.heap.size<b.heap.size)
 case first=>
  exact amP
 case rest=>
  obtain⟨rfl,G,f,hsz⟩:=hcut;have wP:=di G;obtain⟨V,W,X,Y,Z⟩:=G;have XX:=(f.cell (p:=⟨a,0,none⟩) D).trans E;have z1':=(f.cell (p:=⟨a,1,none⟩) D).trans F;have n1:wc.heap.size≠w.heap.size:=aO;have n2:=n1.symm;have n3:wc.heap.size≠a:=aO;have n4:=n3.symm;have abg:a<wc.heap.size:=aO;clear M N O P Q R S E F;go_upto_region 4 with fail
  go_cut [12] (fun y b=>∃i,y=.pointer (some ⟨i,0,none⟩)/\eG b i 0 ⟨false,76,u0,u1⟩/\Below wc.heap.size wc b)
  case first=>
   go_region_held3 (fun e=>e.cell? ⟨w.heap.size,4,none⟩=some (.slice (some ⟨a,0,none⟩) t.args.length A)/\e.cell? ⟨a,0,none⟩=some (.int .i64 u0)/\e.cell? ⟨a,1,none⟩=some (.int .i64 u1)) (go_keep) (first|(go_at_call 200;refine(ou u0 u1 _).mono ?_;rintro h w1 ⟨rfl,j⟩;obtain⟨k,EA⟩:=Cx j;have k1:=k w.heap.size 4 aQ;have k2:=k a 0 aQ;have k3:=k a 1 aQ))
   all_goals
    go_wp2_with fail;go_meet
    case rel=>first|exact qQ j ⟨false,76,u0,u1⟩ _|exact sQ j ⟨false,76,u0,u1⟩
  case rest=>
   rename World=>wd;obtain⟨i,rfl,⟨c1,c2,c3,c4⟩,hbl⟩:=hcut;simp only[Nat.zero_add]at c2 c3 c4;have l:=f.trans (hbl.mono f.size);have pF:=U.o.below l;clear V W X Y Z XX z1';go_wp2_with fail;refine(Be g n o p ⟨false,76,u0,u1⟩ _ pF).mono ?_;exact aml
theorem Nb (m H g:Nat)(n:Nat->Prop)(c:List dX)(held:List Nat)(I:List (List Lit))(o:List Lit)(p:List Bool)(d:Nat)(J:Bool)(q:Value)(K:List Bool)(w:World)(r:fT w m H c held I)
 (s:eH w g n o p) (u:iC w q K) (v:d<c.length) (x:iU c) (z:c[d].op=11) :
 Calls Tryz.prog 240 #[.pointer (some ⟨m,0,none⟩),.pointer (some ⟨g,0,none⟩),.int .i64 d,.bool J,q] w fun h e=>gL h/\Below w.heap.size w e:=by
 obtain⟨ab,cb,rfl,_,_,_⟩:=u.form;obtain⟨bg,jZ,aA,A,B⟩:=r.look v;have C:=(x d v).two (by simp[z]);obtain⟨a,u0,u1,rfl,D,L,E,F⟩:=B.two C;obtain⟨r1,r2,M,N,O,P,Q,R,S,GG,Nr,_,_⟩:=B;generalize T:c[d]=t at *;have oU:((t.op:Int)==11)=true:=bz;have hyy:((t.op:Int)==10)=false:=aj aO;have U:=di s;clear L r x T z s u;go_enter Tryz.func240,Tryz.ntmps240;go_upto_region 1 with fail
 go_cut [11] (fun y b=>y=.pointer (some ⟨w.heap.size,0,none⟩)/\jc b w.heap.size t (.slice (some ⟨a,0,none⟩) t.args.length A)/\Below w.heap.size w b/\w.heap.size<b.heap.size)
 case first=>
  exact amP
 case rest=>
  obtain⟨rfl,G,f,hsz⟩:=hcut;have wP:=di G;obtain⟨V,W,X,Y,Z⟩:=G;have XX:=(f.cell (p:=⟨a,0,none⟩) D).trans E;have z1':=(f.cell (p:=⟨a,1,none⟩) D).trans F;have n1:wc.heap.size≠w.heap.size:=aO;have n2:=n1.symm;have n3:wc.heap.size≠a:=aO;have n4:=n3.symm;have abg:a<wc.heap.size:=aO;clear M N O P Q R S E F;go_upto_region 8 with fail
  go_cut [14] (fun y b=>∃i,y=.pointer (some ⟨i,0,none⟩)/\eG b i 0 ⟨false,76,u1,u0⟩/\Below wc.heap.size wc b)
  case first=>
   go_region_held3 (fun e=>e.cell? ⟨w.heap.size,4,none⟩=some (.slice (some ⟨a,0,none⟩) t.args.length A)/\e.cell? ⟨a,0,none⟩=some (.int .i64 u0)/\e.cell? ⟨a,1,none⟩=some (.int .i64 u1)) (go_keep) (first|(go_at_call 200;refine(ou u1 u0 _).mono ?_;rintro h w1 ⟨rfl,j⟩;obtain⟨k,EA⟩:=Cx j;have k1:=k w.heap.size 4 aQ;have k2:=k a 0 aQ;have k3:=k a 1 aQ))
   all_goals
    go_wp2_with fail;go_meet
    case rel=>first|exact qQ j ⟨false,76,u1,u0⟩ _|exact sQ j ⟨false,76,u1,u0⟩
  case rest=>
   rename World=>wd;obtain⟨i,rfl,⟨c1,c2,c3,c4⟩,hbl⟩:=hcut;simp only[Nat.zero_add]at c2 c3 c4;have l:=f.trans (hbl.mono f.size);have pF:=U.o.below l;clear V W X Y Z XX z1';go_wp2_with fail;refine(Be g n o p ⟨false,76,u1,u0⟩ _ pF).mono ?_;exact aml
theorem KZ (h q i:Nat)(r:Nat->Prop)(a:List dX)(held:List Nat)(s:List (List Lit))(u:List Lit)(v:List Bool)(b:Nat)(x:Bool)(j:Value)(c:List Bool)(w:World)(k:fT w h q a held s)
 (_henv:eH w i r u v) (l:iC w j c) (m:b<a.length) (n:iU a) (y:c.length=a[b].args.length) (o:a[b].op=12) :
 Calls Tryz.prog 240 #[.pointer (some ⟨h,0,none⟩),.pointer (some ⟨i,0,none⟩),.int .i64 b,.bool x,j] w fun z A=>gL z/\Below w.heap.size w A:=by
 obtain⟨F,G,rfl,H,I,f⟩:=l.form;obtain⟨J,K,B,C,g⟩:=k.look m;have p:=n b m;have L:=di g.all;have M:=di g.arg;obtain⟨N,O,P,Q,R,S,T,U,V,W,X,_,_⟩:=g;have Y:=p.three o;have Z:c.length=3:=aO;obtain⟨gb,rfl,hgb,q0⟩:=f 0 aO;obtain⟨gb',d,_,q1⟩:=f 1 aO;obtain⟨ahB,e,_,q2⟩:=f 2 aO;injection d with d
 injection d with d;subst d;injection e with e;injection e with e;subst e;generalize c[0]=D at *;generalize c[1]=b1 at *;generalize c[2]=b2 at *;generalize E:a[b]=t at *;have k1:((t.op:Int)==10)=false:=aj aO;have k2:((t.op:Int)==11)=false:=aj aO;have k3:((t.op:Int)==12)=true:=bz;clear k n E o _henv l f p y;have hb1:=(Below.refl w.heap.size w).alloc ae (.cells #[.string ⟨t.text.toArray⟩,.int .i64 t.op,.int .i64 t.sort,.int .i64 t.sym,.slice B t.args.length C] 176);cases D
 all_goals
  go_enter Tryz.func240,Tryz.ntmps240;go_wp2_with fail;go_ret;exact⟨⟨_,rfl⟩,ag⟩
theorem Nf (j u k:Nat)(v:Nat->Prop)(a:List dX)(held:List Nat)(T:List (List Lit))(x:List Lit)(y:List Bool)(d:Nat)(U:Bool)(z:Value)(e:List Bool)(w:World)(A:fT w j u a held T)
 (B:eH w k v x y) (C:iC w z e) (D:d<a.length) (E:iU a) (V:e.length=a[d].args.length) (F:a[d].op=8) :
 Calls Tryz.prog 240 #[.pointer (some ⟨j,0,none⟩),.pointer (some ⟨k,0,none⟩),.int .i64 d,.bool U,z] w fun G f=>gL G/\Below w.heap.size w f:=by
 obtain⟨ab,cb,rfl,hcb,hmb,l⟩:=C.form;obtain⟨W,jZ,aA,H,h⟩:=A.look D;have m:=E d D;have I:=m.two (by simp[F]);obtain⟨b,u0,u1,X,J,K,L,M⟩:=h.two I;have Y:=di h.all;have oQ:=di h.arg;obtain⟨r1,r2,n,o,Z,r6,r7,r8,r9,GG,Nr,_,_⟩:=h;have hw2:2<=e.length:=aO;obtain⟨N,rfl,O,P⟩:=l 0 aO;obtain⟨gb',g,_,Q⟩:=l 1 aO;injection g with g
 injection g with g;subst g;have hu0:u0<a.length:=by have:=m.args u0 (by rw[K];simp);omega
 have p:=(Y.o u0 hu0).sort;generalize a[u0].sort=q at *;generalize e[0]=b0 at *;generalize e[1]=b1 at *;generalize hT:a[d]=t at *;subst X;have k1:((t.op:Int)==10)=false:=aj aO;have k2:((t.op:Int)==11)=false:=aj aO;have k3:((t.op:Int)==12)=false:=aj aO;have k4:((t.op:Int)==8)=true:=bz;have L9:=di B;have ahf:2<=t.args.length:=aO;clear A E hT F B C l m V K I;go_enter Tryz.func240,Tryz.ntmps240;go_upto_region 1 with fail
 go_cut [11] (fun bg r=>bg=.pointer (some ⟨w.heap.size,0,none⟩)/\jc r w.heap.size t (.slice (some ⟨b,0,none⟩) t.args.length H)/\Below w.heap.size w r/\w.heap.size<r.heap.size)
 case first=>
  exact alV
 case rest=>
  obtain⟨rfl,uu,c,hsz⟩:=hcut;obtain⟨x1,x2,x3,x4,x5⟩:=uu;have XX:=(c.cell (p:=⟨b,0,none⟩) J).trans L;have z1':=(c.cell (p:=⟨b,1,none⟩) J).trans M;have y0:=(c.cell (p:=⟨j,0,none⟩) (ai n)).trans n;have y1:=(c.cell (p:=⟨u,1,none⟩) (ai o)).trans o;have y2:=(c.cell (p:=⟨W,u0*5+2,none⟩) (ai p)).trans p;have q0':=(c.cell (p:=⟨N,0,none⟩) O).trans P;have q1':=(c.cell (p:=⟨N,1,none⟩) O).trans Q;clear n o Z r6 r7 r8 r9 L M p P Q
  go_upto_if 99 with (go_quiet (fail))
  have i:=below_drewN c nq
  by_cases R:q=1
  ·have ad5:((q:Int)==1)=true:=bz;clear R;go_wp2_with fail;go_quiet (fail);go_wp2_with fail;go_ret;exact⟨⟨_,rfl⟩,below_drewN i _⟩
  ·have ad5:((q:Int)==1)=false:=aj aO;clear R;have pF:=L9.o.below i.drew;have i1:(0:Int)<(t.args.length:Int):=aO;have i2:(1:Int)<(t.args.length:Int):=aO;have i3:0<t.args.length:=aO;have i4:1<t.args.length:=aO;go_wp2_with fail;go_region_held3 (fun f=>f.cell? ⟨w.heap.size,4,none⟩=some (.slice (some ⟨b,0,none⟩) t.args.length H)/\f.cell? ⟨b,0,none⟩=some (.int .i64 u0)/\f.cell? ⟨b,1,none⟩=some (.int .i64 u1)) (go_keep) (first|(go_at_call 239;refine(xA k v x y u0 u1 _ pF).mono ?_;rintro G w1 ⟨⟨yb,rfl⟩,S⟩;obtain⟨s,EA⟩:=Cx S;have k1:=s w.heap.size 4 aQ;have k2:=s b 0 aQ;have k3:=s b 1 aQ))
   all_goals
    go_wp2_with fail;go_ret;exact⟨⟨_,rfl⟩,i.trans ((Below.jW S).mono i.size)⟩
theorem IM (r R n:Nat)(s:Nat->Prop)(a:List dX)(held:List Nat)(S:List (List Lit))(u:List Lit)(x:List Bool)(b:Nat)(T:Bool)(z:Value)(A:List Bool)(w:World)(B:fT w r R a held S)
 (C:eH w n s u x) (D:iC w z A) (E:b<a.length) (F:iU a) (_hlw:A.length=a[b].args.length) (U:a[b].op≠8/\a[b].op≠10/\a[b].op≠11/\a[b].op≠12) :
 Calls Tryz.prog 240 #[.pointer (some ⟨r,0,none⟩),.pointer (some ⟨n,0,none⟩),.int .i64 b,.bool T,z] w fun G e=>gL G/\Below w.heap.size w e:=by
 obtain⟨ab,cb,rfl,hcb,hmb,V⟩:=D.form;obtain⟨bn,jZ,W,H,o⟩:=B.look E;have I:=F b E;have yu:=di o.all;have J:=di o.arg;obtain⟨r1,r2,X,Y,Z,r6,r7,r8,r9,GG,Nr,_,_⟩:=o;have pO:=I.few;generalize hT:a[b]=t at *;have k1:((t.op:Int)==10)=false:=aj aO;have k2:((t.op:Int)==11)=false:=aj aO;have k3:((t.op:Int)==12)=false:=aj aO;have k4:((t.op:Int)==8)=false:=aj aO;have L9:=di C;have HL:Hid (True=True):=rfl;clear B F hT U C D V I _hlw;go_enter Tryz.func240,Tryz.ntmps240;go_upto_region 1 with fail
 go_cut [11] (fun y f=>y=.pointer (some ⟨w.heap.size,0,none⟩)/\jc f w.heap.size t (.slice W t.args.length H)/\Below w.heap.size w f/\w.heap.size<f.heap.size)
 case first=>
  exact alV
 case rest=>
  obtain⟨rfl,K,m,L⟩:=hcut;have M:=di K;obtain⟨x1,x2,x3,x4,x5⟩:=K;clear X Y Z r6 r7 r8 r9;go_wp2_with fail
  go_loopw [17,18] (fun v i wr=>∃(k:Nat) (g:Bool),v=.bool g/\i=.int .i64 k/\k<=t.args.length/\Below wc.heap.size wc wr) (fun _ i _=>t.args.length-(intOf i).toNat)
  case atStart=>exact⟨0,false,rfl,rfl,aO,af⟩
  case round=>
   obtain⟨k,g,rfl,rfl,hk,p⟩:=hrel;have b5:=(M.o.below p L).args
   by_cases hlt:k<t.args.length
   ·obtain⟨c,hgA,N,cA⟩:=J.o k hlt;subst hgA;go_wp2_with fail
    go_loopw [17,19] (fun v i wr=>∃(j:Nat) (g:Bool),v=.bool g/\i=.int .i64 j/\j<=k/\Below wc.heap.size wc wr) (fun _ i _=>k-(intOf i).toNat)
    case atStart=>exact⟨0,g,rfl,rfl,aO,p⟩
    case round=>
     obtain⟨j,O,rfl,rfl,hj,d⟩:=hrel
     by_cases hjlt:j<k
     ·obtain⟨gA',h,_,NM⟩:=J.o j aO;injection h with h
      injection h with h;subst h;have l:=m.trans (d.mono m.size);have f5:=(M.o.below d L).args;have f0:=(l.cell (p:=⟨c,k,none⟩) N).trans cA;have f1:=(l.cell (p:=⟨c,j,none⟩) N).trans NM;have hs3:=d.size;have P:=L9.o.below l.drew;have i1:(0:Int)<=(k:Int):=aO;have i2:(k:Int)<(t.args.length:Int):=aO;have i3:(0:Int)<=(j:Int):=aO;have i4:(j:Int)<(t.args.length:Int):=aO;go_upto_region 27 with fail;go_cut [20] (fun y f=>(∃bg:Bool,y=.bool bg)/\Below wr.heap.size wr f)
      case first=>
       go_region_held3 (fun e=>e.cell? ⟨w.heap.size,4,none⟩=some (.slice (some ⟨c,0,none⟩) t.args.length H)/\e.cell? ⟨c,k,none⟩=some (.int .i64 t.args[k])/\e.cell? ⟨c,j,none⟩=some (.int .i64 t.args[j])) (go_keep) (first|(go_at_call 239;refine(xA n s u x t.args[k] t.args[j] _ P).mono ?_;rintro G w1 ⟨⟨yb,rfl⟩,Q⟩;obtain⟨q,EA⟩:=Cx Q;have k1:=q w.heap.size 4 aQ;have k2:=q c k aQ;have k3:=q c j aQ))
       all_goals
        go_wp2_with fail;go_meet
        case rel=>exact⟨⟨_,rfl⟩,Below.jW Q⟩
      case rest=>
       obtain⟨⟨yb,rfl⟩,hbc⟩:=hcut;have hbn:=d.trans (hbc.mono d.size);clear f5 f0 f1 P;cases O
       all_goals
        go_wp2_with fail;go_roundw
        case rel=>exact⟨j+1,_,rfl,bJ,aO,hbn⟩
        case measure=>exact akL
     ·go_wp2_with fail;go_roundw
      case rel=>exact⟨k+1,O,rfl,bJ,aO,d⟩
      case measure=>exact akL
   ·have l:=m.trans (p.mono m.size);go_wp2_with fail;go_ret;exact⟨⟨_,rfl⟩,l⟩
end Go.Proofs.YtbichedkajfmiaaGreatDoor
