import Derived.Test.YtjiagbaaikifpaaGreatDoorGCert0
import Derived.Test.YtjiagbaaikifpaaGreatDoorGLaws0
set_option maxRecDepth 100000
set_option maxHeartbeats 16000000
namespace Go.Proofs.YtjiagbaaikifpaaGreatDoor
open Go.RowKit Go.Proofs.Tryz
variable {J:List Lit}{N i j k m n:Nat}{P:List Bool}{W u w:World}{X:fB}{a:eu}{e:TypeId}{h:Ending}{v:Value}
theorem Ei:(prog.info? 4).map (λi=>(i.zero,i.size,i.bytes))=some (some (dP),1,1):=bR
theorem Ke (a:List Bool)(b:Bool):(a++[b]).map Value.bool=a.map Value.bool++[.bool b]:=aW
def y8 (w':World)(eb:Nat)(av:Nat->Prop)(ats:List Lit)(on:List Bool)(l:Lit)(e:Ending):Prop:=
 e=dF (dM #[])/\((fV w' eb av ats on/\∃x∈ats,kP x l=true)\/fV w' eb av (ats++[l]) (on++[false]))
theorem wP (a:Nat)(s:Nat->Prop)(b:List Lit)(j:List Bool)(l:Lit)(w:World)(K:fV w a s b j)(hsm:b.length<=1000000)(hav:∀c,s c->c<w.heap.size) :
 dH 206 #[dK a 0,.agg #[.bool l.neg,.int .u8 l.kind,dw l.a,dw l.b]] w λe B=>y8 B a s b j l e/\Below a w B/\(∀c,s c->B.heap[c]?=w.heap[c]?):=by
 have PL:=dn K;have L:=K.lt;obtain⟨va,C,h1,h2,h3,M,h5,h6,h7,h8⟩:=K;have HA:=dn (fK.wH (Row.fq M aW am6));obtain⟨t,u,hva,acp,agQ,afh⟩:=HA.o;subst hva;unfold maxLen at agQ;have ajX:=dn afh;have H6:=dn h6;have H7:=dn h7;have H4:=dn M;have H5:=dn h5;have v:=dn h8;have D:=dn hav;clear M h5 h6 h7 h8 afh hav;obtain⟨i0,hi,hz0,hz1,hz2⟩:=info_parts CP;obtain⟨j0,hj,hj0,hj1,hj2⟩:=info_parts Ei;go_enter func206,ntmps206;go_wp2_with fail
 go_loopw [4] (fun N wr=>∃k:Nat,N=dw k/\k<=b.length/\dB w wr/\w.heap.size<wr.heap.size/\fI wr w.heap.size 0 l) (fun N _=>b.length-(intOf N).toNat)
 case atStart=>
  exact⟨0,rfl,aR,ai,aW,⟨aW,aW,aW,aW⟩⟩
 case round=>
  obtain⟨k,rfl,hk,f,hsz,O⟩:=hrel;have E:=f.dL h1 L
  by_cases P:k<b.length
  ·obtain⟨F,rfl,i⟩:=ajX.o k P;have hgb:=aj (i P).neg;have hc1:=(i P).below f hgb;have FV:=dn O;obtain⟨e1,e2,e3,e4⟩:=hc1;obtain⟨Q,R,S,T⟩:=O;clear i;go_upto_region 4 with fail
   go_cut [5] (fun bg U=>bg=.bool (kP b[k] l)/\dB wr U)
   case first=>
    go_region_with (go_at_call 254;refine(tX b[k] l _).mono ?_;rintro e B ⟨rfl,m⟩)
    all_goals
     go_wp2;go_meet
     ·exact⟨rfl,Below.lN m⟩
   case rest=>
    obtain⟨rfl,V⟩:=hcut;have G:=f.dW V;have HL2:=dn (FV.o.below V hsz);have hs2:w.heap.size<wc.heap.size:=Nat.lt_of_lt_of_le hsz V.size;clear e1 e2 e3 e4 Q R S T E;have Ph:Hid (kP b[k] l=true->∃bn∈b,kP bn l=true):=λh=>⟨_,aW,h⟩;generalize kP b[k] l=g at *;cases g
    ·go_wp2;go_roundw
     ·exact⟨k+1,bL,aR,G,hs2,HL2.o⟩
     ·exact aph
    ·go_wp2;exact dR (dM #[]) (by simp[results,results206]) rfl ⟨⟨rfl,.inl ⟨PL.o.below G,Ph.o trivial⟩⟩,G.mono aR,λc i=>G.block c (D.o c i)⟩
  ·have H:=ownsRow_below H4.o f;have hown2:=ownsRow_below H5.o f;have g2:=f.dL h2 L;have W:=λo=>(f.gq (h3 o) L);obtain⟨Q,R,S,T⟩:=O;have x:a<wr.heap.size:=aP f.size;have hnb:∀q,(Value.slice t b.length u).ownBlock=some q->a+1<=q:=λq X=>(H.lt q X).1;go_upto_region 6 with fail
   go_cut [] (fun U=>∃F cap,((Value.slice t b.length u).ownBlock=some F\/wr.heap.size+1<=F)/\mo ((wr.alloc (.cells #[.bool l.neg,.int .u8 l.kind,dw l.a,dw l.b] 168)).drew) U a 0 (a+1) 168 4 (.slice t b.length u) (dJ F (b.length+1) cap) (b.length+1) ((b.map Lit.cells).flatten++l.cells))
   case first=>
    go_region_law (refine jC rfl (.tmp 29) (.tmp 31) 161 rfl (a+1) 168 i0 (.agg #[dP,.int .u8 0,dw 0,dw 0]) 4 24 underlying161 hi hz0 hz1 hz2 rfl aY (.slice t b.length u) b.length (b.map Lit.cells).flatten cO (by exact(H.alloc _).drew) (dA wr.heap.size 0) 1 l.cells cO rfl (by exact Jt wr l _) (pE _) bz aR aX ?_;intro Y fD n I p hg1 y;have q1:n.cell? (dA a 0)=some (.slice t b.length u):=((eY p (a:=dA a 0) aX (fun e=>aP (hnb a e.symm))).trans (dV wr _ _ x)).trans E;have q2:n.frozen? (dA a 0)=false:=((fo p (a:=dA a 0) aX (fun e=>aP (hnb a e.symm))).trans (eF wr _ _ x)).trans (W 0))
    all_goals
     have d:=gK (f:=0) aR ((H.alloc _).drew) aX ((dV wr _ _ x).trans E) I p y;go_wp2;go_meet
     ·exact⟨Y,fD,by simpa using y,d⟩
   case rest=>
    obtain⟨Y,fD,tu,d⟩:=hcut;have HWH:=dn tu;clear tu;have hd1:∀g,C.ownBlock=some g->(Value.slice t b.length u).ownBlock≠some g:=λg m h=>H6.o g h m;obtain⟨Z,hd2⟩:=d.other _ _ _ _ _ ((hown2.alloc _).drew) hd1;have z:a<wc.heap.size:=by have:=d.size;simp at this;omega
    have g1c:=d.cell;have g2c:=(d.cells 1 aR).trans ((dV wr _ (dA a 1) x).trans g2);have g3c:=λo=>(d.frozen o).trans ((eF wr _ (dA a o) x).trans (W o));have PT:=dn d;have aeS:∀q,C.ownBlock=some q->a+1<=q:=λq X=>(Z.lt q X).1;have akX:j.length<=1000000:=aP H7.o;clear d H hown2 E g2 W Q R S T hd1;go_wp2_with (at_builtin;refine dU rfl (.tmp 39) (.tmp 40) 265 rfl (a+1) 4 j0 (dP) 1 1 underlying265 hj hj0 hj1 hj2 rfl aY C j.length (j.map Value.bool) rfl (by exact(Z.alloc _)) (dA wc.heap.size 0) 1 [dP] rfl rfl bP bX bz aR aX ?_;intro J Iu n I p hg1 y;have q1:n.cell? (dA a 1)=some C:=((eY p (a:=dA a 1) aX (λe=>aP (aeS a e.symm))).trans (dV wc _ _ z)).trans g2c;have q2:n.frozen? (dA a 1)=false:=((fo p (a:=dA a 1) aX (λe=>aP (aeS a e.symm))).trans (eF wc _ _ z)).trans (g3c 1));have r:=gK (f:=1) aR (Z.alloc _) aX ((dV wc _ _ z).trans g2c) I p y;have d:=PT.o
    have hfin:fV (n.setCell (dA a 1) (dJ J (j.length+1) Iu)) a s (b++[l]) (j++[false]):=by
     obtain⟨r1,r2⟩:=r.other _ _ _ _ _ (d.own.alloc _) (λg m h=>hd2 g h m);refine⟨_,_,(r.cells 0 aR).trans ((dV wc _ (dA a 0) z).trans g1c),r.cell,λo=>(r.frozen o).trans ((eF wc _ (dA a o) z).trans (g3c o)),?_,?_,r2,by have:=H7.o;simp;omega,v.o.1,?_,?_⟩
     ·rw[wJ,List.length_append];exact r1
     ·rw[Ke,List.length_append];exact r.own
     ·intro g m A;have hbg:Y=g:=aop;subst hbg;rcases HWH.o with h|h
      ·exact v.o.2.1 _ h A
      ·have:=D.o _ A;have:=f.size;exact aR
     ·intro g m A;have hbg:J=g:=aop;subst hbg;rcases y with h|h
      ·exact v.o.2.2 _ h A
      ·have:=D.o _ A;have:=f.size;have:=d.size;simp at h this;exact aR
    have agT:∀c,s c->(n.setCell (dA a 1) (dJ J (j.length+1) Iu)).heap[c]?=w.heap[c]?:=by
     intro c i;have hcw:=D.o c i;have s1:=f.size;have s2:=d.size;simp at s2;have hce:c≠a:=λe=>v.o.1 (by rw[<-e];exact i);rw[r.block c aX hce (λe=>v.o.2.2 c e.symm i)];show(wc.alloc _).heap[c]?=_;rw[Below.heap_alloc _ _ _ aR];rw[d.block c aX hce (λe=>v.o.2.1 c e.symm i)];show(wr.alloc _).heap[c]?=_;rw[Below.heap_alloc _ _ _ aR];exact f.block c hcw
    have agW:Below a w (n.setCell (dA a 1) (dJ J (j.length+1) Iu)):=(((((f.mono aR).alloc aR _).drew).trans d.below).alloc aR _).trans r.below;clear I p d r;go_wp2;go_end0;exact⟨⟨rfl,.inr hfin⟩,agW,agT⟩
structure iE (w:World)(pb bb:Nat)(ts:List fB)(held:List Nat)(cs:List (List Lit)):Prop where
 book:w.cell? (dA pb 0)=some (dK bb 0)
 terms:oU w bb ts
 held:∃v,w.cell? (dA pb 1)=some v/\eX w v held
 cls:∃v,w.cell? (dA pb 2)=some v/\oo w v cs
theorem iE.below {c:List fB}{held:List Nat}{d:List (List Lit)}(h:iE w n m c held d)(a:dB w W):iE W n m c held d:=by
 have b:=aj h.book;obtain⟨e,f,g⟩:=h.held;obtain⟨i,j,k⟩:=h.cls;exact⟨(a.dL h.book b),h.terms.below a,⟨e,(a.dL f b),g.below a⟩,⟨i,(a.dL j b),k.below a⟩⟩
def jk (ts:List fB)(a:Nat):Nat:=if h:a<ts.length then ts[a].sort else 0
theorem F9 (f i:Nat)(b:List fB)(held:List Nat)(j:List (List Lit))(a:Nat)(w:World)(c:iE w f i b held j) :
 dH 147 #[dK f 0,dw a] w λk l=>k=dF (dw (jk b a))/\l=w:=by
 have o:=c.book;obtain⟨p,q,m⟩:=c.terms;obtain⟨r,s,rfl,t,n,d⟩:=m;unfold maxLen at n;clear c
 by_cases h:a<b.length
 ·have e:Hid (jk b a=b[a].sort):=by show _=_;simp[jk,h]
  obtain⟨u,rfl,g⟩:=d a h;have v:=(g h).sort;clear d g;go_enter func147,ntmps147;go_wp2;go_ret;exact⟨fM (by rw[e.o]),rfl⟩
 ·have e:Hid (jk b a=0):=by show _=_;simp[jk,h]
  clear d;go_enter func147,ntmps147;go_wp2;go_ret;exact⟨fM (by rw[e.o];rfl),rfl⟩
def mH (ts:List fB)(l:Lit):Bool:=
 if l.kind=84 then decide (jk ts l.a=1) else if l.kind=76 then decide (jk ts l.a=2)&&decide (jk ts l.b=2) else decide (jk ts l.a=jk ts l.b)&&(decide (jk ts l.a=2)||decide (jk ts l.a=3))
theorem Ty (b c:Nat)(a:List fB)(held:List Nat)(d:List (List Lit))(l:Lit)(w:World)(i:iE w b c a held d) :
 dH 146 #[dK b 0,.agg #[.bool l.neg,.int .u8 l.kind,dw l.a,dw l.b]] w λe f=>e=dF (.bool (mH a l))/\dB w f:=by
 have j:Hid (mH a l=if l.kind=84 then decide (jk a l.a=1) else if l.kind=76 then decide (jk a l.a=2)&&decide (jk a l.b=2) else decide (jk a l.a=jk a l.b)&&(decide (jk a l.a=2)||decide (jk a l.a=3))):=rfl;generalize mH a l=n at *;have g:dB w (w.alloc (.cells #[.bool l.neg,.int .u8 l.kind,dw l.a,dw l.b] 168)):=ai;have h:=i.below g;go_enter func146,ntmps146;go_wp2_with fail;refine(F9 b c a held d l.a _ h).mono ?_;rintro e f ⟨rfl,rfl⟩;go_wp2_with fail;refine(F9 b c a held d l.b _ h).mono ?_;rintro e f ⟨rfl,rfl⟩;generalize jk a l.a=o at *;generalize jk a l.b=p at *;go_wp2_with fail
 all_goals
  go_ret;refine⟨dS ?_,g⟩;rw[j.o,Bool.eq_iff_iff];clear i h g j;simp only[beq_iff_eq,beq_eq_false_iff_ne,ne_eq]at *
  by_cases k:l.kind=84
  ·rw[if_pos k]
   first|(exfalso;omega)|(simp;omega)|simp
  ·rw[if_neg k]
   by_cases m:l.kind=76
   ·rw[if_pos m]
    first|(exfalso;omega)|(simp;omega)|simp
   ·rw[if_neg m]
    first|(exfalso;omega)|(simp;omega)|simp
def IP (w':World)(eb:Nat)(av:Nat->Prop)(n k:Nat)(e:Ending):Prop:=
 e=dF (dM #[])/\∃ats on,fV w' eb av ats on/\ats.length<=n+k
theorem y8.ab9 {b:Nat->Prop}{l:Lit}(e:y8 w n b J P l h):h=dF (dM #[])/\∃c f,fV w n b c f/\c.length<=J.length+1:=by
 obtain⟨d,a⟩:=e;rcases a with ⟨a,_⟩|a
 ·exact⟨d,J,P,a,aR⟩
 ·exact⟨d,_,_,a,aW⟩
theorem ZA (n v b:Nat)(d:Nat->Prop)(o:List fB)(held:List Nat)(x:List (List Lit))(e:List Lit)(i:List Bool)(y f h:Nat)(p w:World)(q:iE p n v o held x)(z:dB p w)
 (j:fV w b d e i) (L:e.length<=1000) (r:∀c,d c->c<w.heap.size) (s:f<o.length) :
 dH 250 #[dK n 0,dK b 0,dw y,dw f,dw h] w λt k=>IP k b d e.length 1 t/\Below b w k/\(∀c,d c->k.heap[c]?=w.heap[c]?):=by
 have l:=q.below z;have M:=j.lt;have N:=l.book;obtain⟨O,P,A⟩:=l.terms;obtain⟨Q,R,rfl,S,B,u⟩:=A;unfold maxLen at B;obtain⟨T,rfl,a⟩:=u f s;have U:=(a s).sort;clear u a l q;go_enter func250,ntmps250;have m:=dn r;clear r;have C:IP w b d e.length 1 (dF (dM #[])):=⟨rfl,e,i,j,aR⟩;go_wp2_with fail
 all_goals first
  | (go_end0
     exact⟨C,af,λ_ _=>rfl⟩)
  | (refine(xP _ _ _).dX λD g=>?_
     have E:fV (D.alloc (.cells #[dP,.int .u8 69,dw (min f h:Nat),dw (max f h:Nat)] 168)) b d e i:=(j.below g).below ai;generalize min f h=F at *;generalize max f h=G at *;go_wp2_with fail;refine(wP b d e i ⟨false,69,F,G⟩ _ E aR (λc a=>by have:=m.o c a;have:=g.size;simp;omega)).mono ?_;rintro t V ⟨H,I,J⟩;obtain⟨rfl,K⟩:=H.ab9;go_wp2;go_end0;exact⟨⟨rfl,K⟩,(((g.mono aR).alloc (aP g.size) _).trans I),λc a=>(J c a).trans ((Below.heap_alloc _ _ _ (aQ (m.o c a) g.size)).trans (g.block c (m.o c a)))⟩)
structure afS (i:Nat)(t:fB):Prop where
 args:∀x∈t.args,x<i
 few:t.args.length<=4
 sort:t.sort=1\/t.sort=2\/t.sort=3
 op:1<=t.op/\t.op<=18
 one:t.op=3\/t.op=15->t.args.length=1
 two:t.op=6\/t.op=7\/t.op=8\/t.op=10\/t.op=11\/t.op=17\/t.op=18->t.args.length=2
 three:t.op=12->t.args.length=3
 num:t.op=14->∃z:Int,t.text=dC.dec z/\t.text.length<=8
def jQ (ts:List fB):Prop:=∀i (h:i<ts.length),afS i ts[i]
structure kT (w:World)(b:Nat)(t:fB)(av:Value):Prop where
 text:w.cell? (dA b 0)=some (dD t.text)
 op:w.cell? (dA b 1)=some (dw t.op)
 sort:w.cell? (dA b 2)=some (dw t.sort)
 sym:w.cell? (dA b 3)=some (dw t.sym)
 args:w.cell? (dA b 4)=some av
theorem kT.below (h:kT w n X v){B:Nat}(a:Below B w W)(b:n<B):kT W n X v:=
 ⟨(a.dL h.text b),(a.dL h.op b),(a.dL h.sort b),(a.dL h.sym b),(a.dL h.args b)⟩
def kZ (w wx:World)(eb:Nat)(av:Nat->Prop)(t:fB)(va:Value)(n:Nat):Prop:=
 ∃ats on,fV wx eb (λc=>av c\/c=w.heap.size) ats on/\ats.length<=n/\kT wx w.heap.size t va/\Below eb w wx/\w.heap.size<wx.heap.size/\(∀c,av c->wx.heap[c]?=w.heap[c]?)
theorem kZ.mono {a:Nat->Prop}(h:kZ w W n a X v m)(f:m<=k):kZ w W n a X v k:=by
 obtain⟨b,c,d,g,e⟩:=h;exact⟨b,c,d,aR,e⟩
theorem kZ.below {b:Nat->Prop}(h:kZ w W n b X v m)(a:dB W u)(g:∀c,b c->c<w.heap.size):kZ w u n b X v m:=by
 obtain⟨i,j,d,k,l,o,e,p⟩:=h;have:=d.lt;exact⟨i,j,d.below a,k,l.below a e,o.trans (a.mono aR),Nat.lt_of_lt_of_le e a.size,λc f=>(a.block c (aP (g c f))).trans (p c f)⟩
theorem kZ.step {w:World}{d:Nat->Prop}(j:kZ w W n d X v k){e:List Lit}{f:List Bool}(l:fV u n (λc=>d c\/c=w.heap.size) e f){m:Nat}(o:e.length<=m)
 (g:Below n W u) (h:∀c,(d c\/c=w.heap.size)->u.heap[c]?=W.heap[c]?):kZ w u n d X v m:=by
 obtain⟨_,_,_,_,a,p,q,r⟩:=j;have b:=h w.heap.size (.inr rfl);refine⟨e,f,l,o,?_,p.trans g,Nat.lt_of_lt_of_le q g.size,λc i=>(h c (.inl i)).trans (r c i)⟩;exact⟨(World.cell?_of_block (a:=dA w.heap.size 0) b).trans a.text,(World.cell?_of_block (a:=dA w.heap.size 1) b).trans a.op,(World.cell?_of_block (a:=dA w.heap.size 2) b).trans a.sort,(World.cell?_of_block (a:=dA w.heap.size 3) b).trans a.sym,(World.cell?_of_block (a:=dA w.heap.size 4) b).trans a.args⟩
theorem kZ.note {b:Nat->Prop}(h:kZ w W n b X v m)(i:dB W u)(d:∀c,b c->c<w.heap.size)(l:Lit)(x:m<=1000) :
 dH 206 #[dK n 0,.agg #[.bool l.neg,.int .u8 l.kind,dw l.a,dw l.b]] u λe f=>e=dF (dM #[])/\kZ w f n b X v (m+1):=by
 have g:=h.below i d;have j:=g;obtain⟨k,o,p,y,z,A,B,C⟩:=g;refine(wP n _ k o l u p aR (λc a=>by rcases a with a|a;have:=d c a;omega;omega)).mono ?_;rintro e f ⟨q,r,s⟩;obtain⟨rfl,D,E,t,F⟩:=q.ab9;exact⟨rfl,j.step t aR r s⟩
theorem EW (a:dB w W):(∀b o,b<w.heap.size->W.cell? (dA b o)=w.cell? (dA b o))/\(∀b o,b<w.heap.size->W.frozen? (dA b o)=w.frozen? (dA b o)):=
 ⟨λb o h=>a.cell (p:=dA b o) h,λb o h=>a.frozen (p:=dA b o) h⟩
theorem fI.Jl {z:Lit}(h:fI w n 0 z)(l:Lit) :
 fI ((((w.setCell (dA n 0) (.bool l.neg)).setCell (dA n 1) (.int .u8 l.kind)).setCell (dA n 2) (dw l.a)).setCell (dA n 3) (dw l.b)) n 0 l:=by
 obtain⟨d,a,b,c⟩:=h;simp only[Nat.zero_add]at a b c;refine⟨?_,?_,?_,?_⟩
 ·rw[ax aW,ax aW,ax aW];exact aC d
 ·simp only[Nat.zero_add];rw[ax aW,ax aW];exact aC ((ax aW).trans a)
 ·simp only[Nat.zero_add];rw[ax aW];exact aC ((ax aW).trans ((ax aW).trans b))
 ·simp only[Nat.zero_add];exact aC ((ax aW).trans ((ax aW).trans ((ax aW).trans c)))
theorem uz {wr:World}(a:Below wr.drew.heap.size wr.drew w)(l:Lit)(t:TypeId):∃b,Value.pointer (some (dA w.heap.size 0))=dK b 0/\fI (w.alloc (.cells #[.bool l.neg,.int .u8 l.kind,dw l.a,dw l.b] t)) b 0 l/\dB wr (w.alloc (.cells #[.bool l.neg,.int .u8 l.kind,dw l.a,dw l.b] t)):=
 ⟨_,rfl,⟨aW,aW,aW,aW⟩,(Below.lN a).alloc (Below.lN a).size _⟩
theorem vY {wr:World}(a:Below ((wr.alloc (.cells #[dP,.int .u8 0,dw 0,dw 0] e)).drew).heap.size ((wr.alloc (.cells #[dP,.int .u8 0,dw 0,dw 0] e)).drew) w)(l:Lit) :
 ∃b,Value.pointer (some (dA wr.heap.size 0))=dK b 0/\fI ((((w.setCell (dA wr.heap.size 0) (.bool l.neg)).setCell (dA wr.heap.size 1) (.int .u8 l.kind)).setCell (dA wr.heap.size 2) (dw l.a)).setCell (dA wr.heap.size 3) (dw l.b)) b 0 l/\
  dB wr ((((w.setCell (dA wr.heap.size 0) (.bool l.neg)).setCell (dA wr.heap.size 1) (.int .u8 l.kind)).setCell (dA wr.heap.size 2) (dw l.a)).setCell (dA wr.heap.size 3) (dw l.b)):=by
 have c:fI ((wr.alloc (.cells #[dP,.int .u8 0,dw 0,dw 0] e)).drew) wr.heap.size 0 Lit.zero:=⟨amU,amU,amU,amU⟩;have d:=c.below a aW;have f:dB wr w:=(((Below.refl wr.heap.size wr).alloc ae _).drew).trans (a.mono aW);exact⟨_,rfl,d.Jl l,Below.Jl f ae _ _ _ _⟩
theorem kZ.fin {a:Nat->Prop}(h:kZ w W n a X v m)(y:m<=100):IP W n a 0 100 (dF (dM #[]))/\Below n w W/\(∀c,a c->W.heap[c]?=w.heap[c]?):=by
 obtain⟨e,f,⟨v,g,i,j,k,l,o,p,q,r,s,t⟩,z,A,u,B,x⟩:=h;exact⟨⟨rfl,e,f,⟨v,g,i,j,k,l,o,p,q,λh=>r (.inl h),λb d h=>s b d (.inl h),λb d h=>t b d (.inl h)⟩,aR⟩,u,x⟩
theorem kZ.box {a:Nat->Prop}(h:kZ w W n a X v m):kT W w.heap.size X v:=by
 obtain⟨_,_,_,_,b,_⟩:=h;exact b
theorem ada (N bb f:Nat)(p:Nat->Prop)(r:List fB)(held:List Nat)(cs:List (List Lit))(q:Nat)(j w:World)(O:iE j N bb r held cs)(x:dB j w)(he0:j.heap.size<=f)
 (P:fV w f p [] []) (Q:∀c,p c->c<w.heap.size) (G:q<r.length) (hwf:jQ r) :
 dH 200 #[dK N 0,dK f 0,dw q] w λbn d=>IP d f p 0 100 bn/\Below f w d/\(∀c,p c->d.heap[c]?=w.heap[c]?):=by
 have R:=P.lt;have S:=O.book;obtain⟨vT,T,U⟩:=O.terms;obtain⟨aT,lL,rfl,hcap,hmax,V⟩:=U;unfold maxLen at hmax;obtain⟨bq,rfl,s⟩:=V q G
 have PM:Hid (∀i (hi:i<r.length),y7 j bq (i*5) r[i]):=by
  intro i hi;obtain⟨g',g,hc'⟩:=V i hi;injection g with g;injection g with g;subst g;exact hc' hi
 obtain⟨d1,d2,d3,d4,va,d5,hva⟩:=s G;have W:=hwf q G;generalize hT:r[q]=t at *;clear V s hT;obtain⟨y,l,rfl,LQ,agS,afj⟩:=hva;unfold maxLen at agS
 have H:Hid (∀i (hi:i<t.args.length),∃a,y=some (dA a 0)/\j.dQ a i=some (dw t.args[i])/\t.args[i]<r.length):=by
  intro i hi;obtain⟨a,I,u⟩:=afj i hi;exact⟨a,I,u hi,Nat.lt_trans (W.args _ aW) G⟩
 have HW:Hid (∀wr,Below f w wr->dB j wr):=λwr h=>x.trans (h.mono he0);have lp:=aj S;have lb:=aj T;have B:=aj d1;have h0:=x.dL S lp;have h1:=x.dL T lb;have e1:=x.dL d1 B;have e2:=x.dL d2 B;have e3:=x.dL d3 B;have e4:=x.dL d4 B;have e5:=x.dL d5 B;have z:=dn Q;have qB:=W.few
 have aeM:kZ w (w.alloc (.cells #[dD t.text,dw t.op,dw t.sort,dw t.sym,.slice y t.args.length l] 177)) f p t (.slice y t.args.length l) 0:=by
  obtain⟨va,vo,q1,q2,q3,q4,q5,q6,q7,q8,q9,q10⟩:=P.below (af.alloc ae (.cells #[dD t.text,dw t.op,dw t.sort,dw t.sym,.slice y t.args.length l] 177));obtain⟨va',vo',r1,r2,r3,r4,r5,r6,r7,r8,r9,Kh⟩:=P;have b:=(Below.refl w.heap.size w).alloc ae (.cells #[dD t.text,dw t.op,dw t.sort,dw t.sym,.slice y t.args.length l] 177);refine⟨[],[],⟨va',vo',(b.dL r1 R),(b.dL r2 R),λo=>(b.gq (r3 o) R),ownsRow_below r4 b,ownsRow_below r5 b,r6,r7,?_,?_,?_⟩,aW,⟨aW,aW,aW,aW,aW⟩,(b.mono aR),aW,λc s=>b.block c (Q c s)⟩
  ·intro h;rcases h with h|h;exact r8 h;exact aR
  ·intro e C h;rcases h with h|h;exact r9 e C h;have:=(r4.lt e C).2;exact aR
  ·intro e C h;rcases h with h|h;exact Kh e C h;have:=(r5.lt e C).2;exact aR
 have uG:=dn aeM;clear afj Q aeM;go_enter func200,ntmps200
 go_upto_if 26 with fail
 go_cut [] (fun v=>kZ w v f p t (.slice y t.args.length l) 1)
 case first=>
  go_wp2_with fail
  all_goals first
   | (go_meet
      ·exact uG.o.mono aR)
   | (refine(xO q _).dX λJ b=>?_
      go_wp2_with fail;refine(uG.o.note (b.fO) z.o ⟨false,84,q,0⟩ aR).dX λK m=>?_;go_wp2;go_meet
      ·exact m)
 case rest=>
  have AR:=dn hcut;clear hcut h0 h1 e1 e2 e3 e4 e5;go_wp2_with fail
  go_loopw [8] (fun i wr=>∃k:Nat,i=dw k/\k<=t.args.length/\kZ w wr f p t (.slice y t.args.length l) (1+k*5)) (fun i _=>t.args.length-(intOf i).toNat)
  ·exact⟨0,rfl,aR,AR.o⟩
  case round=>
   obtain⟨k,rfl,hk,D⟩:=hrel;have L:=dn D;obtain⟨ats,on,acn,hal,nJ,X,hsz,hkeep⟩:=D;have A:=HW.o wr X;obtain⟨x1,x2,x3,x4,x5⟩:=nJ
   by_cases hlt:k<t.args.length
   ·obtain⟨a,rfl,Y,hxl⟩:=H.o k hlt;have y0:=A.dL S lp;have y1:=A.dL T lb;have y2:=A.eT Y;have y3:=(PM.o _ hxl).sort;have y4:=A.dL y3 B;generalize hs':r[t.args[k]].sort=sk at *;clear y3 hs' acn X hkeep
    go_upto_if 54 with (go_quiet (fail))
    have aeK:=L.o.below (below_drewN af nq) z.o;have Z:=dn aeK;clear aeK;go_cut [] (fun v=>kZ w v f p t (dJ a t.args.length l) (1+k*5+1))
    case first=>
     go_wp2_with fail
     all_goals first
      | (go_meet
         ·exact Z.o.mono aR)
      | (go_at_call 249
         refine(xO t.args[k] _).dX λJ b=>?_;go_wp2_with fail;refine(Z.o.note (b.fO) z.o ⟨false,84,t.args[k],0⟩ aR).dX λK m=>?_;go_wp2;go_meet
         ·exact m)
      | (go_at_call 204
         refine(xP q t.args[k] _).dX λJ b=>?_;go_wp2_with fail;refine(Z.o.note (b.fO) z.o ⟨false,69,min q t.args[k],max q t.args[k]⟩ aR).dX λK m=>?_;go_wp2;go_meet
         ·exact m)
    case rest=>
     have jl:=dn hcut;clear hcut x1 x2 x3 x4 x5 y0 y1 y2 y4;go_wp2_with fail
     go_loopw [11] (fun i wr=>∃n:Nat,i=dw n/\n<=t.args.length/\kZ w wr f p t (dJ a t.args.length l) (1+k*5+1+n)) (fun i _=>t.args.length-(intOf i).toNat)
     ·exact⟨0,rfl,aR,jl.o⟩
     case round=>
      obtain⟨n,rfl,hj,D⟩:=hrel;have mO:=dn D;obtain⟨aiG,on2,si,alr,agV,Hz,hsz2,Xa⟩:=D;have E:=HW.o wr Hz;obtain⟨x1,x2,x3,x4,x5⟩:=agV
      by_cases hjlt:n<t.args.length
      ·obtain⟨gA',F,afo,akN⟩:=H.o n hjlt;injection F with F
       injection F with F;subst F;have z1:=E.eT Y;have z2:=E.eT afo;have Hy:=si.below (af.drew)
       have ait:∀c,(p c\/c=w.heap.size)->c<wr.drew.heap.size:=λc s=>by
        rcases s with s|s
        ·have:=z.o c s;show c<wr.heap.size;exact aR
        ·show c<wr.heap.size;exact aR
       have hp3:=E.drew;clear si Hz Xa;go_wp2_with fail;go_region_held3 (fun d=>d.dQ w.heap.size 1=some (dw t.op)/\d.dQ w.heap.size 4=some (dJ a t.args.length l)/\d.dQ a k=some (dw t.args[k])/\d.dQ a n=some (dw t.args[n])) (go_keep) (first|(go_at_call 250;refine(ZA N bb f _ r held cs aiG on2 t.op t.args[k] t.args[n] j _ O hp3 Hy aR ait hxl).mono ?_;rintro bn d ⟨hn,hb',hk'⟩;obtain⟨rfl,alG,on4,hn4,hl4⟩:=hn;have hfin:=mO.o.step hn4 (m:=1+k*5+1+(n+1)) aR ((af.drew).trans hb') hk';have k1:=hfin.box.op;have k2:=hfin.box.args;have TY:=E.trans (((af.drew).trans hb').mono (aP E.size));have k3:=TY.eT Y;have k4:=(TY.eT afo)))
       all_goals
        clear hn4 hb' hk' Hy hp3;go_wp2;go_roundw
        ·exact⟨n+1,bL,aR,hfin⟩
        ·exact aph
      ·clear si Hz Xa;go_wp2;go_roundw
       ·exact⟨k+1,bL,aR,mO.o.mono aR⟩
       ·exact aph
   ·have xq:Hid (t.op=10\/t.op=11->∃a u0 u1,y=some (dA a 0)/\t.args.length=2/\a<wr.heap.size/\wr.dQ a 0=some (dw (u0:Nat))/\wr.dQ a 1=some (dw (u1:Nat))):=by
     intro ho;have U:=W.two (by rcases ho with h|h<;>simp[h]);obtain⟨a,I,c0,_⟩:=H.o 0 aR;obtain⟨gA',g,c1,_⟩:=H.o 1 aR;rw[I]at g;injection g with g;injection g with g;subst g;exact⟨a,_,_,I,U,Nat.lt_of_lt_of_le (aj c0) A.size,(A.eT c0),(A.eT c1)⟩
    clear acn X hkeep
    by_cases M:t.op=10
    ·obtain⟨a,u0,u1,rfl,hl2,aau,z0,z1⟩:=xq.o (.inl M);have rH:((t.op:Int)==10)=true:=bM;have hyy:((t.op:Int)==11)=false:=ak aR;clear M;have n1:wr.heap.size≠w.heap.size:=aR;have n2:=n1.symm;have n3:wr.heap.size≠a:=aR;have n4:=n3.symm;go_upto_region 18 with fail
     go_cut [12] (fun bg v=>∃e,bg=dK e 0/\fI v e 0 ⟨false,76,u0,u1⟩/\dB wr v)
     case first=>
      go_region_held3 (fun d=>d.dQ w.heap.size 4=some (dJ a t.args.length l)/\d.dQ a 0=some (dw u0)/\d.dQ a 1=some (dw u1)) (go_keep) (first|(go_at_call 205;refine(qU u0 u1 _).dX fun J b=>?_;obtain⟨u,Hw⟩:=EW b;have k1:=u w.heap.size 4 aX;have k2:=u a 0 aX;have k3:=u a 1 aX))
      all_goals
       go_wp2;go_meet
       ·first|exact uz b ⟨false,76,u0,u1⟩ _|exact vY b ⟨false,76,u0,u1⟩
     case rest=>
      obtain⟨e,rfl,⟨c1,c2,c3,c4⟩,hbl⟩:=hcut;simp only[Nat.zero_add]at c2 c3 c4;go_wp2_with fail;refine(L.o.note hbl z.o ⟨false,76,u0,u1⟩ aR).dX λK m=>?_;have q2:=m.box.op;go_wp2;go_end0;exact m.fin aR
    ·by_cases h11:t.op=11
     ·obtain⟨a,u0,u1,rfl,hl2,aau,z0,z1⟩:=xq.o (.inr h11);have rH:((t.op:Int)==10)=false:=ak aR;have hyy:((t.op:Int)==11)=true:=bM;clear M h11;have n1:wr.heap.size≠w.heap.size:=aR;have n2:=n1.symm;have n3:wr.heap.size≠a:=aR;have n4:=n3.symm;go_upto_region 21 with fail
      go_cut [13] (fun bg v=>∃e,bg=dK e 0/\fI v e 0 ⟨false,76,u1,u0⟩/\dB wr v)
      case first=>
       go_region_held3 (fun d=>d.dQ w.heap.size 4=some (dJ a t.args.length l)/\d.dQ a 0=some (dw u0)/\d.dQ a 1=some (dw u1)) (go_keep) (first|(go_at_call 205;refine(qU u1 u0 _).dX fun J b=>?_;obtain⟨u,Hw⟩:=EW b;have k1:=u w.heap.size 4 aX;have k2:=u a 0 aX;have k3:=u a 1 aX))
       all_goals
        go_wp2;go_meet
        ·first|exact uz b ⟨false,76,u1,u0⟩ _|exact vY b ⟨false,76,u1,u0⟩
      case rest=>
       obtain⟨e,rfl,⟨c1,c2,c3,c4⟩,hbl⟩:=hcut;simp only[Nat.zero_add]at c2 c3 c4;go_wp2_with fail;refine(L.o.note hbl z.o ⟨false,76,u1,u0⟩ aR).dX λK m=>?_;have q2:=m.box.op;go_wp2;go_end0;exact m.fin aR
     ·have rH:((t.op:Int)==10)=false:=ak aR;have hyy:((t.op:Int)==11)=false:=ak aR;clear M h11;go_wp2;go_end0;exact L.o.fin aR
structure IU (w:World)(pb bb:Nat)(ts:List fB)(a:Nat)(t:fB)(g lL:Nat)(aA:eu)(mY:Nat):Prop where
 ahH:ts.length<=lL
 ahE:lL<=2 ^ 63-1
 book:w.cell? (dA pb 0)=some (dK bb 0)
 terms:w.cell? (dA bb 1)=some (dJ g ts.length lL)
 text:w.cell? (dA g (a*5))=some (dD t.text)
 op:w.cell? (dA g (a*5+1))=some (dw t.op)
 sort:w.cell? (dA g (a*5+2))=some (dw t.sort)
 sym:w.cell? (dA g (a*5+3))=some (dw t.sym)
 args:w.cell? (dA g (a*5+4))=some (.slice aA t.args.length mY)
 aeA:t.args.length<=mY
 aex:mY<=2 ^ 63-1
 arg:∀i (hi:i<t.args.length),∃gA,aA=some (dA gA 0)/\gA<w.heap.size/\w.cell? (dA gA i)=some (dw t.args[i])
 all:∀i (hi:i<ts.length),y7 w g (i*5) ts[i]
theorem iE.look {b:List fB}{held:List Nat}{q:List (List Lit)}(h:iE w n m b held q){c:Nat}(j:c<b.length):∃g d e f,IU w n m b c b[c] g d e f:=by
 obtain⟨H,r,s⟩:=h.terms;obtain⟨I,d,rfl,t,k,l⟩:=s;unfold maxLen at k;obtain⟨g,rfl,u⟩:=l c j;obtain⟨v,x,y,z,J,A,B⟩:=u j;obtain⟨e,f,rfl,C,o,D⟩:=B;unfold maxLen at o;refine⟨g,d,e,f,t,k,h.book,r,v,x,y,z,A,C,o,?_,?_⟩
 ·intro i hi;obtain⟨E,F,p⟩:=D i hi;exact⟨E,F,aj (p hi),p hi⟩
 ·intro i hi;obtain⟨K,a,G⟩:=l i hi;injection a with a;injection a with a;subst a;exact G hi
theorem IU.two {g:List fB}(h:IU w n m g k X i j a N)(l:X.args.length=2) :
 ∃b u0 u1,a=some (dA b 0)/\b<w.heap.size/\X.args=[u0,u1]/\w.cell? (dA b 0)=some (dw (u0:Nat))/\w.cell? (dA b 1)=some (dw (u1:Nat)):=by
 obtain⟨b,d,o,p⟩:=h.arg 0 aR;obtain⟨r,c,_,q⟩:=h.arg 1 aR;rw[d]at c;injection c with c
 injection c with c;subst c;refine⟨b,X.args[0],X.args[1],d,o,?_,p,q⟩;apply List.ext_getElem
 ·simp[l]
 ·intro e f s
  match e,f with
  | 0,_=>rfl
  | 1,_=>rfl
  | e+2,f=>omega
theorem jm.form (h:jm w v P):∃c a,v=.slice c P.length a/\P.length<=a/\a<=2 ^ 63-1/\∀i (hi:i<P.length),∃b,c=some (dA b 0)/\b<w.heap.size/\w.cell? (dA b i)=some (.bool P[i]):=by
 obtain⟨c,a,f,g,d,j⟩:=h;unfold maxLen at d;exact⟨c,a,f,g,d,λi hi=>by obtain⟨b,k,e⟩:=j i hi;exact⟨b,k,aj (e hi),e hi⟩⟩
theorem QP (k H f:Nat)(l:Nat->Prop)(c:List fB)(held:List Nat)(I:List (List Lit))(m:List Lit)(n:List Bool)(d:Nat)(J:Bool)(o:Value)(K:List Bool)(w:World)(p:iE w k H c held I)
 (q:fV w f l m n) (r:jm w o K) (s:d<c.length) (u:jQ c) (v:c[d].op=10) :
 dH 253 #[dK k 0,dK f 0,dw d,.bool J,o] w λx e=>iY x/\dB w e:=by
 obtain⟨ab,cb,rfl,_,_,_⟩:=r.form;obtain⟨bg,lL,aA,z,A⟩:=p.look s;have B:=(u d s).two (by simp[v]);obtain⟨a,u0,u1,rfl,C,L,D,E⟩:=A.two B;obtain⟨r1,r2,M,N,O,P,Q,R,S,Kh,Q5,_,_⟩:=A;generalize T:c[d]=t at *;have rH:((t.op:Int)==10)=true:=bM;have U:=dn q;clear L p u T v q r;go_enter func253,ntmps253;go_upto_region 1 with fail
 go_cut [11] (fun y b=>y=dK w.heap.size 0/\kT b w.heap.size t (dJ a t.args.length z)/\dB w b/\w.heap.size<b.heap.size)
 case first=>
  go_wp2;go_meet
  ·exact⟨rfl,⟨aW,aW,aW,aW,by simp[B]⟩,ai,aW⟩
 case rest=>
  obtain⟨rfl,F,g,hsz⟩:=hcut;have pM:=dn F;obtain⟨V,W,X,Y,Z⟩:=F;have z0':=g.dL D C;have z1':=g.dL E C;have n1:wc.heap.size≠w.heap.size:=aR;have n2:=n1.symm;have n3:wc.heap.size≠a:=aR;have n4:=n3.symm;have ae6:a<wc.heap.size:=aR;clear M N O P Q R S D E;go_upto_region 4 with fail
  go_cut [12] (fun y b=>∃h,y=dK h 0/\fI b h 0 ⟨false,76,u0,u1⟩/\dB wc b)
  case first=>
   go_region_held3 (fun e=>e.dQ w.heap.size 4=some (dJ a t.args.length z)/\e.dQ a 0=some (dw u0)/\e.dQ a 1=some (dw u1)) (go_keep) (first|(go_at_call 205;refine(qU u0 u1 _).dX fun w1 i=>?_;obtain⟨j,Hw⟩:=EW i;have k1:=j w.heap.size 4 aX;have k2:=j a 0 aX;have k3:=j a 1 aX))
   all_goals
    go_wp2;go_meet
    ·first|exact uz i ⟨false,76,u0,u1⟩ _|exact vY i ⟨false,76,u0,u1⟩
  case rest=>
   rename World=>wd;obtain⟨h,rfl,⟨c1,c2,c3,c4⟩,hbl⟩:=hcut;simp only[Nat.zero_add]at c2 c3 c4;have G:=g.dW hbl;have si:=U.o.below G;clear V W X Y Z z0' z1';go_wp2_with fail;refine(DR f l m n ⟨false,76,u0,u1⟩ _ si).mono ?_;exact arc
theorem QO (k H f:Nat)(l:Nat->Prop)(c:List fB)(held:List Nat)(I:List (List Lit))(m:List Lit)(n:List Bool)(d:Nat)(J:Bool)(o:Value)(K:List Bool)(w:World)(p:iE w k H c held I)
 (q:fV w f l m n) (r:jm w o K) (s:d<c.length) (u:jQ c) (v:c[d].op=11) :
 dH 253 #[dK k 0,dK f 0,dw d,.bool J,o] w λx e=>iY x/\dB w e:=by
 obtain⟨ab,cb,rfl,_,_,_⟩:=r.form;obtain⟨bg,lL,aA,z,A⟩:=p.look s;have B:=(u d s).two (by simp[v]);obtain⟨a,u0,u1,rfl,C,L,D,E⟩:=A.two B;obtain⟨r1,r2,M,N,O,P,Q,R,S,Kh,Q5,_,_⟩:=A;generalize T:c[d]=t at *;have rH:((t.op:Int)==11)=true:=bM;have hyy:((t.op:Int)==10)=false:=ak aR;have U:=dn q;clear L p u T v q r;go_enter func253,ntmps253;go_upto_region 1 with fail
 go_cut [11] (fun y b=>y=dK w.heap.size 0/\kT b w.heap.size t (dJ a t.args.length z)/\dB w b/\w.heap.size<b.heap.size)
 case first=>
  go_wp2;go_meet
  ·exact⟨rfl,⟨aW,aW,aW,aW,by simp[B]⟩,ai,aW⟩
 case rest=>
  obtain⟨rfl,F,g,hsz⟩:=hcut;have pM:=dn F;obtain⟨V,W,X,Y,Z⟩:=F;have z0':=g.dL D C;have z1':=g.dL E C;have n1:wc.heap.size≠w.heap.size:=aR;have n2:=n1.symm;have n3:wc.heap.size≠a:=aR;have n4:=n3.symm;have ae6:a<wc.heap.size:=aR;clear M N O P Q R S D E;go_upto_region 8 with fail
  go_cut [14] (fun y b=>∃h,y=dK h 0/\fI b h 0 ⟨false,76,u1,u0⟩/\dB wc b)
  case first=>
   go_region_held3 (fun e=>e.dQ w.heap.size 4=some (dJ a t.args.length z)/\e.dQ a 0=some (dw u0)/\e.dQ a 1=some (dw u1)) (go_keep) (first|(go_at_call 205;refine(qU u1 u0 _).dX fun w1 i=>?_;obtain⟨j,Hw⟩:=EW i;have k1:=j w.heap.size 4 aX;have k2:=j a 0 aX;have k3:=j a 1 aX))
   all_goals
    go_wp2;go_meet
    ·first|exact uz i ⟨false,76,u1,u0⟩ _|exact vY i ⟨false,76,u1,u0⟩
  case rest=>
   rename World=>wd;obtain⟨h,rfl,⟨c1,c2,c3,c4⟩,hbl⟩:=hcut;simp only[Nat.zero_add]at c2 c3 c4;have G:=g.dW hbl;have si:=U.o.below G;clear V W X Y Z z0' z1';go_wp2_with fail;refine(DR f l m n ⟨false,76,u1,u0⟩ _ si).mono ?_;exact arc
theorem Ou (h q i:Nat)(r:Nat->Prop)(a:List fB)(held:List Nat)(s:List (List Lit))(u:List Lit)(v:List Bool)(b:Nat)(x:Bool)(j:Value)(c:List Bool)(w:World)(k:iE w h q a held s)
 (_henv:fV w i r u v) (l:jm w j c) (m:b<a.length) (n:jQ a) (y:c.length=a[b].args.length) (o:a[b].op=12) :
 dH 253 #[dK h 0,dK i 0,dw b,.bool x,j] w λz A=>iY z/\dB w A:=by
 obtain⟨F,G,rfl,H,I,f⟩:=l.form;obtain⟨J,K,B,C,g⟩:=k.look m;have p:=n b m;have L:=dn g.all;have M:=dn g.arg;obtain⟨N,O,P,Q,R,S,T,U,V,W,X,_,_⟩:=g;have Y:=p.three o;have Z:c.length=3:=aR;obtain⟨gb,rfl,hgb,q0⟩:=f 0 aR;obtain⟨gb',d,_,q1⟩:=f 1 aR;obtain⟨alz,e,_,q2⟩:=f 2 aR;injection d with d
 injection d with d;subst d;injection e with e;injection e with e;subst e;generalize c[0]=D at *;generalize c[1]=b1 at *;generalize c[2]=b2 at *;generalize E:a[b]=t at *;have k1:((t.op:Int)==10)=false:=ak aR;have k2:((t.op:Int)==11)=false:=ak aR;have k3:((t.op:Int)==12)=true:=bM;clear k n E o _henv l f p y;have hb1:=(Below.refl w.heap.size w).alloc ae (.cells #[dD t.text,dw t.op,dw t.sort,dw t.sym,.slice B t.args.length C] 177);cases D
 all_goals
  go_enter func253,ntmps253;go_wp2;go_ret;exact⟨⟨_,rfl⟩,ai⟩
theorem QQ (p R i:Nat)(q:Nat->Prop)(a:List fB)(held:List Nat)(S:List (List Lit))(r:List Lit)(s:List Bool)(c:Nat)(T:Bool)(u:Value)(e:List Bool)(w:World)(v:iE w p R a held S)
 (x:fV w i q r s) (y:jm w u e) (z:c<a.length) (A:jQ a) (U:e.length=a[c].args.length) (B:a[c].op=8) :
 dH 253 #[dK p 0,dK i 0,dw c,.bool T,u] w λC f=>iY C/\dB w f:=by
 obtain⟨ab,cb,rfl,hcb,hmb,j⟩:=y.form;obtain⟨bn,lL,aA,D,h⟩:=v.look z;have k:=A c z;have E:=k.two (by simp[B]);obtain⟨d,u0,u1,V,F,G,H,I⟩:=h.two E;have W:=dn h.all;have pO:=dn h.arg;obtain⟨r1,r2,J,K,X,Y,Z,r8,r9,Kh,Q5,_,_⟩:=h;have hw2:2<=e.length:=aR;obtain⟨gb,rfl,L,M⟩:=j 0 aR;obtain⟨gb',g,_,N⟩:=j 1 aR;injection g with g
 injection g with g;subst g;have hu0:u0<a.length:=aP (k.args u0 (by rw[G];simp));have O:=(W.o u0 hu0).sort;generalize a[u0].sort=l at *;generalize e[0]=b0 at *;generalize e[1]=b1 at *;generalize hT:a[c]=t at *;subst V;have k1:((t.op:Int)==10)=false:=ak aR;have k2:((t.op:Int)==11)=false:=ak aR;have k3:((t.op:Int)==12)=false:=ak aR;have k4:((t.op:Int)==8)=true:=bM;have PL:=dn x;have ak6:2<=t.args.length:=aR;clear v A hT B x y j k U G E;go_enter func253,ntmps253;go_upto_region 1 with fail;go_cut [11] (fun bg m=>bg=dK w.heap.size 0/\kT m w.heap.size t (dJ d t.args.length D)/\dB w m/\w.heap.size<m.heap.size)
 case first=>
  exact aqA
 case rest=>
  obtain⟨rfl,nJ,b,hsz⟩:=hcut;obtain⟨x1,x2,x3,x4,x5⟩:=nJ;have z0':=b.dL H F;have z1':=b.dL I F;have y0:=b.eT J;have y1:=b.eT K;have y2:=b.eT O;have q0':=b.dL M L;have q1':=b.dL N L;clear J K X Y Z r8 r9 H I O M N
  go_upto_if 99 with (go_quiet (fail))
  have n:=below_drewN b nq
  by_cases P:l=1
  ·have ahQ:((l:Int)==1)=true:=bM;clear P;go_wp2_with fail;go_quiet (fail);go_wp2;go_ret;exact⟨⟨_,rfl⟩,below_drewN n _⟩
  ·have ahQ:((l:Int)==1)=false:=ak aR;clear P;have si:=PL.o.below n.drew;have i1:(0:Int)<(t.args.length:Int):=aR;have i2:(1:Int)<(t.args.length:Int):=aR;have i3:0<t.args.length:=aR;have i4:1<t.args.length:=aR;go_wp2_with fail;go_region_held3 (fun f=>f.dQ w.heap.size 4=some (dJ d t.args.length D)/\f.dQ d 0=some (dw u0)/\f.dQ d 1=some (dw u1)) (go_keep) (first|(go_at_call 252;refine(zV i q r s u0 u1 _ si).mono ?_;rintro C w1 ⟨⟨yb,rfl⟩,Q⟩;obtain⟨o,Hw⟩:=EW Q;have k1:=o w.heap.size 4 aX;have k2:=o d 0 aX;have k3:=o d 1 aX))
   all_goals
    go_wp2;go_ret;exact⟨⟨_,rfl⟩,n.dW (Below.lN Q)⟩
theorem LF (q R m:Nat)(r:Nat->Prop)(a:List fB)(held:List Nat)(S:List (List Lit))(s:List Lit)(u:List Bool)(b:Nat)(T:Bool)(x:Value)(z:List Bool)(w:World)(A:iE w q R a held S)
 (B:fV w m r s u) (C:jm w x z) (D:b<a.length) (E:jQ a) (_hlw:z.length=a[b].args.length) (U:a[b].op≠8/\a[b].op≠10/\a[b].op≠11/\a[b].op≠12) :
 dH 253 #[dK q 0,dK m 0,dw b,.bool T,x] w λF c=>iY F/\dB w c:=by
 obtain⟨ab,cb,rfl,hcb,hmb,V⟩:=C.form;obtain⟨bn,lL,W,G,n⟩:=A.look D;have H:=E b D;have rF:=dn n.all;have I:=dn n.arg;obtain⟨r1,r2,X,Y,Z,r6,r7,r8,r9,Kh,Q5,_,_⟩:=n;have qB:=H.few;generalize hT:a[b]=t at *;have k1:((t.op:Int)==10)=false:=ak aR;have k2:((t.op:Int)==11)=false:=ak aR;have k3:((t.op:Int)==12)=false:=ak aR;have k4:((t.op:Int)==8)=false:=ak aR;have PL:=dn B;have HL:Hid (True=True):=rfl;clear A E hT U B C V H _hlw;go_enter func253,ntmps253;go_upto_region 1 with fail
 go_cut [11] (fun y d=>y=dK w.heap.size 0/\kT d w.heap.size t (.slice W t.args.length G)/\dB w d/\w.heap.size<d.heap.size)
 case first=>
  exact aqA
 case rest=>
  obtain⟨rfl,J,K,L⟩:=hcut;have M:=dn J;obtain⟨x1,x2,x3,x4,x5⟩:=J;clear X Y Z r6 r7 r8 r9;go_wp2_with fail
  go_loopw [17,18] (fun v i wr=>∃(k:Nat) (e:Bool),v=.bool e/\i=dw k/\k<=t.args.length/\dB wc wr) (fun _ i _=>t.args.length-(intOf i).toNat)
  ·exact⟨0,false,rfl,rfl,aR,af⟩
  case round=>
   obtain⟨k,e,rfl,rfl,hk,o⟩:=hrel;have b5:=(M.o.below o L).args
   by_cases hlt:k<t.args.length
   ·obtain⟨f,hgA,N,cA⟩:=I.o k hlt;subst hgA;go_wp2_with fail
    go_loopw [17,19] (fun v i wr=>∃(j:Nat) (e:Bool),v=.bool e/\i=dw j/\j<=k/\dB wc wr) (fun _ i _=>k-(intOf i).toNat)
    ·exact⟨0,e,rfl,rfl,aR,o⟩
    case round=>
     obtain⟨j,O,rfl,rfl,hj,g⟩:=hrel
     by_cases hjlt:j<k
     ·obtain⟨gA',h,_,Rs⟩:=I.o j aR;injection h with h
      injection h with h;subst h;have l:=K.dW g;have f5:=(M.o.below g L).args;have f0:=l.dL cA N;have f1:=l.dL Rs N;have hs3:=g.size;have P:=PL.o.below l.drew;have i1:(0:Int)<=(k:Int):=aR;have i2:(k:Int)<(t.args.length:Int):=aR;have i3:(0:Int)<=(j:Int):=aR;have i4:(j:Int)<(t.args.length:Int):=aR;go_upto_region 27 with fail;go_cut [20] (fun y d=>(∃bg:Bool,y=.bool bg)/\dB wr d)
      case first=>
       go_region_held3 (fun c=>c.dQ w.heap.size 4=some (dJ f t.args.length G)/\c.dQ f k=some (dw t.args[k])/\c.dQ f j=some (dw t.args[j])) (go_keep) (first|(go_at_call 252;refine(zV m r s u t.args[k] t.args[j] _ P).mono ?_;rintro F w1 ⟨⟨yb,rfl⟩,Q⟩;obtain⟨p,Hw⟩:=EW Q;have k1:=p w.heap.size 4 aX;have k2:=p f k aX;have k3:=p f j aX))
       all_goals
        go_wp2;go_meet
        ·exact⟨⟨_,rfl⟩,Below.lN Q⟩
      case rest=>
       obtain⟨⟨yb,rfl⟩,hbc⟩:=hcut;have hbn:=g.dW hbc;clear f5 f0 f1 P;cases O
       all_goals
        go_wp2;go_roundw
        ·exact⟨j+1,_,rfl,bL,aR,hbn⟩
        ·exact aph
     ·go_wp2;go_roundw
      ·exact⟨k+1,O,rfl,bL,aR,g⟩
      ·exact aph
   ·have l:=K.dW o;go_wp2;go_ret;exact⟨⟨_,rfl⟩,l⟩
theorem Ov (c g d:Nat)(h:Nat->Prop)(a:List fB)(held:List Nat)(i:List (List Lit))(j:List Lit)(k:List Bool)(b:Nat)(x:Bool)(e:Value)(f:List Bool)(w:World)(l:iE w c g a held i)
 (m:fV w d h j k) (n:jm w e f) (o:b<a.length) (p:jQ a) (q:f.length=a[b].args.length) :
 dH 253 #[dK c 0,dK d 0,dw b,.bool x,e] w λv y=>iY v/\dB w y:=by
 by_cases r:a[b].op=10
 ·exact QP c g d h a held i j k b x e f w l m n o p r
 ·by_cases s:a[b].op=11
  ·exact QO c g d h a held i j k b x e f w l m n o p s
  ·by_cases t:a[b].op=12
   ·exact Ou c g d h a held i j k b x e f w l m n o p q t
   ·by_cases u:a[b].op=8
    ·exact QQ c g d h a held i j k b x e f w l m n o p q u
    ·exact LF c g d h a held i j k b x e f w l m n o p q ⟨u,r,s,t⟩
theorem aac (E bb j:Nat)(u:Nat->Prop)(l:List fB)(held:List Nat)(cs:List (List Lit))(v:List Lit)(x:List Bool)(b:Nat)(w:World)(R:iE w E bb l held cs)
 (S:fV w j u v x) (T:b<l.length) (U:jQ l) (hso:l[b].sort=1\/l[b].op=12) :
 dH 202 #[dK E 0,dK j 0,dw b] w λm n=>iY m/\dB w n:=by
 obtain⟨bC,lL,aA,mY,hlk⟩:=R.look T;have V:=U b T
 have PO:Hid (∀(W:Bool) (F:Value) (G:List Bool) (n:World),dB w n->jm n F G->G.length=l[b].args.length->dH 253 #[dK E 0,dK j 0,dw b,.bool W,F] n λm w''=>iY m/\dB n w''):=
  λW F G n hb hbs hl=>Ov E bb j u l held cs v x b W F G n (R.below hb) (S.below hb) hbs T U hl
 have X:=dn hlk.arg;obtain⟨r1,r2,r3,r4,r5,r6,r7,r8,r9,Kh,Q5,_,_⟩:=hlk;have Y:=dn S;generalize hT:l[b]=t at *;have qB:=V.few;have uH:=dn hso;have H:=dn V;clear R U hT S V hso;obtain⟨i0,hi,hz0,hz1,hz2⟩:=info_parts Ei;go_enter func202,ntmps202;go_upto_region 1 with fail
 go_cut [7] (fun bA Z=>bA=dK w.heap.size 0/\kT Z w.heap.size t (.slice aA t.args.length mY)/\dB w Z/\w.heap.size<Z.heap.size)
 case first=>
  exact aqA
 case rest=>
  obtain⟨rfl,nJ,hbel,z⟩:=hcut;have I:=dn nJ;clear r3 r4 r5 r6 r7 r8 r9 nJ;go_wp2_with fail
  go_loopw [8,9] (fun bg i wr=>∃(k:Nat) (a:List Bool),i=dw k/\k<=t.args.length/\a.length=k/\wr.ownsRow wc.heap.size 4 1 bg k (a.map Value.bool)/\dB wc wr) (fun _ i _=>t.args.length-(intOf i).toNat)
  ·exact⟨0,[],rfl,aR,rfl,World.ownsRow_nil _ _ _ _,af⟩
  case round=>
   obtain⟨k,a,rfl,hk,hbl,hown,r⟩:=hrel;have HOWN:=dn hown;have BH:=dn hbl;have b5:=(I.o.below r z).args;have g:=hbel.dW r;clear hown hbl
   by_cases hlt:k<t.args.length
   ·obtain⟨gA,hgA,J,cA⟩:=X.o k hlt;subst hgA;have Rs:=g.dL cA J;generalize t.args[k]=bn at *;go_wp2_with fail;refine(xO bn _).dX λw1 c=>?_;have A:=c.alloc c.size (.cells #[dP,.int .u8 84,dw bn,dw 0] 168);have p:=Y.o.below (g.dW A);go_wp2_with fail;refine(DR j u v x ⟨false,84,bn,0⟩ _ p).mono ?_;rintro m y ⟨⟨K,rfl⟩,hb2⟩;have q:dB wr y:=A.trans (hb2.mono (by simp;have:=c.size;omega));have Cq:=ownsRow_below HOWN.o q;have hbn:=r.dW q;have hs2:=hbn.size;have hs0:=hbel.size;clear p;go_wp2_with (at_builtin;refine wpList_append_own _ rfl _ _ 265 rfl wc.heap.size 4 i0 (dP) 1 1 underlying265 hi hz0 hz1 hz2 rfl aY _ _ _ rfl (Cq.alloc _) (dA y.heap.size 0) 1 1 [.bool K] rfl rfl (cell_one_new _ _ _) bX bz aR aX ?_;intro v' w3 hown' hgrow _);have D6:dB wc w3:=(hbn.alloc hs2 _).grown hgrow aX (by intro bB hq;exact(Cq.lt bB hq).1);have abH:=dn hown';clear hown' hgrow Cq;go_wp2;go_roundw
    ·exact⟨k+1,a++[K],bL,aR,by have:=BH.o;simp;omega,by rw[Ke];exact abH.o,D6⟩
    ·exact aph
   ·have afq:a.length=t.args.length:=aP BH.o;have HBS:Hid (jm wr u8 a):=jm.fq (by have:=HOWN.o;rw[<-BH.o]at this;exact this);obtain⟨ab,cb,hv8,hcb,hmb,aeE⟩:=HBS.o.form;have abx:=dn aeE;have aj8:=dn afq;have akD:t.args.length<=a.length:=aR;subst hv8;have b2:=(I.o.below r z).sort;have b1:=(I.o.below r z).op;have HB2:=dn b2;clear aeE afq
    by_cases L:t.sort=1
    ·have hsb:((t.sort:Int) !=1)=false:=by simp[L]
     clear L;go_wp2_with fail
     go_loopw [13,14,15] (fun bg o i wr3=>∃(s:Nat) (ab1 pQ:Bool),bg=.bool ab1/\o=.bool pQ/\i=dw s/\s<=a.length/\wr3=wr) (fun _ _ i _=>a.length-(intOf i).toNat)
     ·exact⟨0,true,false,rfl,rfl,rfl,aR,rfl⟩
     case round=>
      obtain⟨s,ab1,pQ,rfl,rfl,rfl,hj,rfl⟩:=hrel
      by_cases hjlt:s<a.length
      ·obtain⟨e,h,M,N⟩:=abx.o s hjlt;subst h;generalize a[s]=bA at *;cases ab1<;>cases pQ
       all_goals
        go_wp2;go_roundw
        ·exact⟨s+1,_,_,rfl,rfl,bL,aR,trivial⟩
        ·exact aph
      ·go_wp2_with fail;refine(xO b _).dX λw1 c=>?_;have A:=c.alloc c.size (.cells #[dP,.int .u8 84,dw b,dw 0] 168);have p:=Y.o.below (g.dW A);go_wp2_with fail;refine(DR j u v x ⟨false,84,b,0⟩ _ p).mono ?_;rintro m y ⟨⟨K,rfl⟩,hb2⟩;have q:=A.trans (hb2.mono (by simp;have:=c.size;omega));have f:=g.dW q;have afr:=jm.below HBS.o q
       have B:Hid (∀i (hi:i<a.length),∃e,ab=some (dA e 0)/\e<y.heap.size/\y.dQ e i=some (.bool a[i])):=by
        intro i hi;obtain⟨e,h1,h2,h3⟩:=abx.o i hi;exact⟨e,h1,Nat.lt_of_lt_of_le h2 q.size,(q.dL h3 h2)⟩
       have c1:=((I.o.below r z).below q (Nat.lt_of_lt_of_le z r.size)).op;have HB3:=dn afr;clear p b1 b2 b5 afr
       by_cases o1:t.op=1
       ·have e1:((t.op:Int)==1)=true:=bM;clear o1;go_wp2;go_ret;exact⟨⟨_,rfl⟩,f⟩
       ·have e1:((t.op:Int)==1)=false:=ak aR;have O1:=dn o1;clear o1
        by_cases o2:t.op=2
        ·have e2:((t.op:Int)==2)=true:=bM;clear o2;go_wp2;go_ret;exact⟨⟨_,rfl⟩,f⟩
        ·have e2:((t.op:Int)==2)=false:=ak aR;have O2:=dn o2;clear o2
         by_cases O:t.op=3
         ·have e3:((t.op:Int)==3)=true:=bM;have C:=H.o.one (by simp[O]);have l0:0<a.length:=aR;obtain⟨e,h,M,N⟩:=B.o 0 aR;subst h;generalize a[0]=y0 at *;clear O C;go_wp2;go_ret;exact⟨⟨_,rfl⟩,f⟩
         ·have e3:((t.op:Int)==3)=false:=ak aR;have O3:=dn O;clear O
          by_cases o4:t.op=4
          ·have e4:((t.op:Int)==4)=true:=bM;clear o4;go_wp2;go_ret;exact⟨⟨_,rfl⟩,f⟩
          ·have e4:((t.op:Int)==4)=false:=ak aR;have O4:=dn o4;clear o4
           by_cases o5:t.op=5
           ·have e5:((t.op:Int)==5)=true:=bM;clear o5;go_wp2;go_ret;exact⟨⟨_,rfl⟩,f⟩
           ·have e5:((t.op:Int)==5)=false:=ak aR;have O5:=dn o5;clear o5
            by_cases P:t.op=6
            ·have e6:((t.op:Int)==6)=true:=bM;have C:=H.o.two (by simp[P]);have l0:0<a.length:=aR;obtain⟨e,h,M,N⟩:=B.o 0 aR;subst h;have l1:1<a.length:=aR;obtain⟨gb',d,_,q1⟩:=B.o 1 aR;injection d with d
             injection d with d;subst d;generalize a[0]=y0 at *;generalize a[1]=y1 at *;clear P C;go_wp2_with fail;go_quiet (fail);go_wp2;go_ret;exact⟨⟨_,rfl⟩,below_drewN f _⟩
            ·have e6:((t.op:Int)==6)=false:=ak aR;have O6:=dn P;clear P
             by_cases Q:t.op=7
             ·have e7:((t.op:Int)==7)=true:=bM;have C:=H.o.two (by simp[Q]);have l0:0<a.length:=aR;obtain⟨e,h,M,N⟩:=B.o 0 aR;subst h;have l1:1<a.length:=aR;obtain⟨gb',d,_,q1⟩:=B.o 1 aR;injection d with d
              injection d with d;subst d;generalize a[0]=y0 at *;generalize a[1]=y1 at *;clear Q C;cases y0
              all_goals
               go_wp2;go_ret;exact⟨⟨_,rfl⟩,f⟩
             ·have e7:((t.op:Int)==7)=false:=ak aR;have O7:=dn Q;clear Q
              by_cases o13:t.op=13
              ·have e13:((t.op:Int)==13)=true:=bM;clear o13;go_wp2;go_ret;exact⟨⟨_,rfl⟩,f⟩
              ·have e13:((t.op:Int)==13)=false:=ak aR;have O13:=dn o13;clear o13;have hcw:=PO.o K _ a y f HB3.o aj8.o;go_wp2_with fail;refine hcw.mono ?_;rintro m w4 ⟨⟨yb,rfl⟩,hb4⟩;go_wp2;go_ret;exact⟨⟨_,rfl⟩,f.dW hb4⟩
    ·have hsb:((t.sort:Int) !=1)=true:=amW;have h12:t.op=12:=by rcases uH.o with bq|bq;exact absurd bq L;exact bq
     have hl3:=H.o.three h12;obtain⟨gA,hgA,J,c1⟩:=X.o 1 aR;obtain⟨gA',D,_,c2⟩:=X.o 2 aR;subst hgA;injection D with D
     injection D with D;subst D;obtain⟨e,h,M,N⟩:=abx.o 0 aR;subst h;have c1':=g.dL c1 J;have c2':=g.dL c2 J;generalize t.args[1]=u1 at *;generalize t.args[2]=u2 at *;generalize a[0]=b0 at *;have p:=Y.o.below g;have l1:2<t.args.length:=aR;have l2:0<a.length:=aR;clear L h12 hl3;cases b0
     ·go_wp2_with fail;refine(zV j u v x b u2 _ p).mono ?_;rintro m w1 ⟨⟨yb,rfl⟩,c⟩;go_wp2;go_ret;exact⟨⟨_,rfl⟩,g.dW c⟩
     ·go_wp2_with fail;refine(zV j u v x b u1 _ p).mono ?_;rintro m w1 ⟨⟨yb,rfl⟩,c⟩;go_wp2;go_ret;exact⟨⟨_,rfl⟩,g.dW c⟩
theorem fV.new (w:World)(t:TypeId):fV (w.alloc (.cells #[dE,dE] t)) w.heap.size (λ_=>False) [] []:=
 ⟨dE,dE,aW,aW,al7,World.ownsRow_nil _ _ _ _,World.ownsRow_nil _ _ _ _,by intro b a;simp[Value.ownBlock]at a,rfl,λh=>h,λ_ _ h=>h,λ_ _ h=>h⟩
theorem QK (o y:Nat)(j:List fB)(held:List Nat)(z:List (List Lit))(i:Nat)(K:Value)(L:List Lit)(w:World)(q:iE w o y j held z)(M:fK w K L)(A:i<j.length)(u:jQ j) :
 dH 148 #[dK o 0,dw i,K] w λf g=>iY f/\dB w g:=by
 obtain⟨bn,lL,N,O,hlk⟩:=q.look A;obtain⟨r1,r2,r3,r4,r5,r6,r7,r8,r9,Kh,Q5,_,_⟩:=hlk;have HP:=dn q;have rW:=dn M;have KZ:=dn u
 have ai3:Hid (∀W e,dB w W->w.heap.size<=e->fV W e (λ_=>False) [] []->dH 200 #[dK o 0,dK e 0,dw i] W λf g=>IP g e (λ_=>False) 0 100 f/\Below e W g/\(∀P,False->g.heap[P]?=W.heap[P]?)):=
  λW e B he C=>ada o y e (λ_=>False) j held z i w W q B he C (λ_ l=>l.elim) A u
 have ahf:Hid (j[i].sort=1\/j[i].op=12->∀W e a c,dB w W->fV W e (λ_=>False) a c->dH 202 #[dK o 0,dK e 0,dw i] W λf g=>iY f/\dB W g):=
  λk W e a c B C=>aac o y e (λ_=>False) j held z a c i W (q.below B) C A u k
 generalize hT:j[i]=t at *;obtain⟨al,Az,rfl,EP,xQ,_⟩:=M;clear q u hT
 by_cases k:t.sort=1\/t.op=12
 ·go_enter func148,ntmps148;have HKP:=dn (ahf.o k);have Q:dB w (w.alloc (.cells #[dD t.text,dw t.op,dw t.sort,dw t.sym,.slice N t.args.length O] 177)):=ai
  have hkk:((t.sort:Int) !=1)=false\/(((t.sort:Int) !=1)=true/\((t.op:Int) !=12)=false):=by
   by_cases R:t.sort=1
   ·exact .inl (by simp[R])
   ·refine .inr ⟨amW,?_⟩;rcases k with l|l
    ·exact absurd l R
    ·simp[l]
  clear k;rcases hkk with S|⟨S,k2⟩
  all_goals
   go_upto_region 4 with fail;have hcut:=Q;have v:∃wc,wc=(w.alloc (.cells #[dD t.text,dw t.op,dw t.sort,dw t.sym,.slice N t.args.length O] 177)):=⟨_,rfl⟩;obtain⟨wc,v⟩:=v;rw[<-v]at hcut ⊢;clear v Q;have T:=fV.new wc 267;have U:=hcut.alloc hcut.size (.cells #[dE,dE] 267);have x:=hcut.size;have ahm:=dn T;clear r3 r4 r5 r6 r7 r8 r9 T;go_wp2_with fail;refine(ai3.o _ wc.heap.size U x ahm.o).mono ?_;rintro f w1 ⟨⟨rfl,a,c,V,hal⟩,hb3,_⟩;have hbt:=U.trans (hb3.mono x);have ahl:=dn V;clear V;go_wp2_with fail
   go_loopg [9] (2 ^ a.length-jr c) (fun gk bg wr=>∃(h:Bool) (c:List Bool),bg=.bool h/\fV wr wc.heap.size (fun _=>False) a c/\dB w wr/\gk=if h then 2 ^ a.length-jr c else 0)
   ·exact⟨true,c,rfl,ahl.o,hbt,rfl⟩
   case round=>
    obtain⟨h,p,rfl,X,D,Y⟩:=hrel;have Z:=dn X;have xD:=dn Y;clear X Y;cases h
    ·go_wp2;go_ret;exact⟨⟨_,rfl⟩,D⟩
    ·go_wp2_with fail;refine(HKP.o _ _ a p D Z.o).mono ?_;rintro f w2 ⟨⟨kb,rfl⟩,hb4⟩;have acv:=D.dW hb4;have E:=Z.o.below hb4;have hl3:=fK.below rW.o acv;go_wp2_with fail;refine(Kz _ _ a p L _ _ E hl3).mono ?_;rintro f w3 ⟨⟨hbb,rfl⟩,hb5⟩;have F:=acv.dW hb5;have HE4:=dn (E.below hb5);clear E hl3;have jF:=dn (MW _ _ a p _ HE4.o)
     have HR:Hid (∀(b:Bool) (d:List Bool) (g:World),fV g wc.heap.size (λ_=>False) a d->(b=true->jr d=jr p+1)->(if b then 2 ^ a.length-jr d else 0)<gk):=by
      intro b d g h1 h2;have hlt:=Ru p;have hle:p.length=a.length:=by obtain⟨_,_,_,_,_,_,_,_,h7,_⟩:=HE4.o;exact h7.symm
      rw[hle]at hlt;have hg:=xD.o;simp only[if_true]at hg;cases b
      ·exact aX
      ·have:=h2 rfl;simp only[if_true];exact aR
     cases kb
     ·go_wp2_with fail;refine jF.o.mono ?_;rintro f m ⟨⟨b,d,rfl,n,r⟩,G,_⟩;have s:=HR.o b d m n r;have H:Hid (∃(h:Bool) (c:List Bool),Value.bool b=.bool h/\fV m wc.heap.size (λ_=>False) a c/\dB w m/\(if b then 2 ^ a.length-jr d else 0)=if h then 2 ^ a.length-jr c else 0):=⟨b,d,rfl,n,F.trans (G.mono x),rfl⟩;have I:=dn s;generalize (if b then 2 ^ a.length-jr d else 0)=J at *;clear n r s;go_wp2_with fail
      go_roundg J
      case measure=>exact I.o
      case rel=>exact H.o
     ·cases hbb
      ·go_wp2;go_ret;exact⟨⟨_,rfl⟩,F⟩
      ·go_wp2_with fail;refine jF.o.mono ?_;rintro f m ⟨⟨b,d,rfl,n,r⟩,G,_⟩;have s:=HR.o b d m n r;have H:Hid (∃(h:Bool) (c:List Bool),Value.bool b=.bool h/\fV m wc.heap.size (λ_=>False) a c/\dB w m/\(if b then 2 ^ a.length-jr d else 0)=if h then 2 ^ a.length-jr c else 0):=⟨b,d,rfl,n,F.trans (G.mono x),rfl⟩;have I:=dn s;generalize (if b then 2 ^ a.length-jr d else 0)=J at *;clear n r s;go_wp2_with fail
       go_roundg J
       case measure=>exact I.o
       case rel=>exact H.o
 ·go_enter func148,ntmps148;have S:((t.sort:Int) !=1)=true:=by rw[bne_iff_ne];intro l;exact k (.inl aR)
  have k2:((t.op:Int) !=12)=true:=by rw[bne_iff_ne];intro l;exact k (.inr aR)
  clear k;go_wp2;go_ret;exact⟨⟨_,rfl⟩,ai⟩
theorem fI.block {o:Nat}{l:Lit}(h:fI w n o l)(a:W.heap[n]?=w.heap[n]?):fI W n o l:=
 ⟨(World.cell?_of_block (a:=dA n o) a).trans h.neg,(World.cell?_of_block (a:=dA n (o+1)) a).trans h.kind,(World.cell?_of_block (a:=dA n (o+2)) a).trans h.a,(World.cell?_of_block (a:=dA n (o+3)) a).trans h.b⟩
theorem fV.agY (h:fV w n (λ_=>False) [] [])(b:Nat->Prop)(d:w.cell? (dA n 0)=some (dE))(e:w.cell? (dA n 1)=some (dE))(f:¬b n):fV w n b [] []:=by
 obtain⟨i,j,_,_,g,_⟩:=h;exact⟨_,_,d,e,g,World.ownsRow_nil _ _ _ _,World.ownsRow_nil _ _ _ _,anX,rfl,f,anX,anX⟩
theorem fV.forget {a:Nat->Prop}(h:fV w n a J P):fV w n (λ_=>False) J P:=by
 obtain⟨b,c,d,e,f,g,i,j,k,_⟩:=h;exact⟨b,c,d,e,f,g,i,j,k,λh=>h,λ_ _ h=>h,λ_ _ h=>h⟩
theorem y8.fresh {b:Nat->Prop}{l:Lit}(d:y8 w n b J P l h)(e:∀x∈J,kP x l=false):h=dF (dM #[])/\fV w n b (J++[l]) (P++[false]):=by
 obtain⟨f,a⟩:=d;rcases a with ⟨_,x,g,c⟩|a
 ·rw[e x g]at c;cases c
 ·exact⟨f,a⟩
theorem WI (pb a b:Nat)(Y:Value)(Z:List Lit)(w:World)(hls:fK w Y Z)(hab:a<b) :
 dH 149 #[dK pb 0,dw a,dw b,Y] w λg j=>iY g/\dB w j:=by
 have rW:=dn hls;obtain⟨al,Az,rfl,EP,xQ,_⟩:=hls;have J:=(Below.refl w.heap.size w).alloc ae (.cells #[dE,dE] 267);have Jb:=dn (fV.new w 267);obtain⟨W,o⟩:∃W,W=w.alloc (.cells #[dE,dE] 267):=⟨_,rfl⟩;have hc0:W.cell? (dA w.heap.size 0)=some (dE):=by rw[o];simp
 have hc1:W.cell? (dA w.heap.size 1)=some (dE):=by rw[o];simp
 have hWs:W.heap.size=w.heap.size+1:=by rw[o];simp
 have HM:Hid (∀x K:Nat,min x K=x\/K<=x):=λx K=>aR;rw[<-o]at J Jb;go_enter func149,ntmps149;go_upto_region 2 with fail
 rw[<-o];clear o;have afv:w.heap.size<W.heap.size:=aR;have zi:=dn hWs;clear hWs;go_wp2_with fail;refine(xP a b _).mono ?_;rw[Nat.min_eq_left aR,Nat.max_eq_right aR];rintro g k ⟨rfl,y⟩;have hs1:=y.size;have L:=y.alloc y.size (.cells #[dP,.int .u8 69,dw a,dw b] 168);have lH:Hid (fI (k.alloc (.cells #[dP,.int .u8 69,dw a,dw b] 168)) k.heap.size 0 ⟨false,69,a,b⟩):=⟨aW,aW,aW,aW⟩;obtain⟨M,z⟩:∃M,M=k.alloc (.cells #[dP,.int .u8 69,dw a,dw b] 168):=⟨_,rfl⟩;have Ue:k.heap.size<M.heap.size:=by rw[z];simp
 rw[<-z]at L lH;go_upto_region 3 with fail;rw[<-z];clear z;go_wp2_with fail;refine(qU a b _).dX λl A=>?_;have hs2:=A.size;have B:=A.alloc A.size (.cells #[dP,.int .u8 76,dw a,dw b] 168);have jl:Hid (fI (l.alloc (.cells #[dP,.int .u8 76,dw a,dw b] 168)) l.heap.size 0 ⟨false,76,a,b⟩):=⟨aW,aW,aW,aW⟩;obtain⟨N,C⟩:∃N,N=l.alloc (.cells #[dP,.int .u8 76,dw a,dw b] 168):=⟨_,rfl⟩;have aiw:l.heap.size<N.heap.size:=by rw[C];simp
 rw[<-C]at B jl;go_upto_region 4 with fail;rw[<-C];clear C;go_wp2_with fail;refine(qU b a _).dX λp D=>?_;have hs3:=D.size;have r:=D.alloc D.size (.cells #[dP,.int .u8 76,dw b,dw a] 168);have oQ:Hid (fI (p.alloc (.cells #[dP,.int .u8 76,dw b,dw a] 168)) p.heap.size 0 ⟨false,76,b,a⟩):=⟨aW,aW,aW,aW⟩;obtain⟨m,E⟩:∃m,m=p.alloc (.cells #[dP,.int .u8 76,dw b,dw a] 168):=⟨_,rfl⟩;have als:p.heap.size<m.heap.size:=by rw[E];simp
 rw[<-E]at r oQ;go_upto_region 5 with fail;rw[<-E];clear E;have t1:fI m k.heap.size 0 ⟨false,69,a,b⟩:=((lH.o.below B Ue).below r aR);have F:fI m l.heap.size 0 ⟨false,76,a,b⟩:=jl.o.below r aiw;have G:=oQ.o;have s:dB W m:=(L.trans (B.mono aR)).trans (r.mono aR);have hbw:dB w m:=J.trans (s.mono aR);have Hy:fV m w.heap.size (λh=>h=k.heap.size\/h=l.heap.size\/h=p.heap.size) [] []:=(Jb.o.below s).agY _ ((s.dL hc0 afv)) ((s.dL hc1 afv)) aR;have ahk:=dn Hy;have T2:=dn F;have T3:=dn G;have jG:=dn hbw;obtain⟨c1,c2,c3,c4⟩:=t1;simp only[Nat.zero_add]at c2 c3 c4;have akW:w.heap.size<k.heap.size/\k.heap.size<l.heap.size/\l.heap.size<p.heap.size:=aR;clear F G Hy hc0 hc1 J y A D L B r s hbw;go_wp2_with fail;refine(wP _ _ [] [] ⟨false,69,a,b⟩ _ ahk.o aW (by intro h hc;omega)).mono ?_;rintro g w4 ⟨n,O,P⟩;obtain⟨rfl,acm⟩:=n.fresh aW;have ahj:=dn acm;have F:=T2.o.block (P _ (.inr (.inl rfl)));have HT3:=dn (T3.o.block (P _ (.inr (.inr rfl))));have hs4:=O.size;have rz:=dn (jG.o.trans O);obtain⟨d1,d2,d3,d4⟩:=F;simp only[Nat.zero_add]at d2 d3 d4;clear n acm O P c1 c2 c3 c4;go_wp2_with fail;refine(wP _ _ _ _ ⟨false,76,a,b⟩ _ ahj.o aW (by intro h hc;omega)).mono ?_;rintro g w5 ⟨n,q,hk5⟩;obtain⟨rfl,ack⟩:=n.fresh (by simp[kP]);have ahi:=dn ack;have G:=HT3.o.block (hk5 _ (.inr (.inr rfl)));have hs5:=q.size;have BI:=dn (rz.o.trans q);obtain⟨f1,f2,f3,f4⟩:=G;simp only[Nat.zero_add]at f2 f3 f4;clear n ack q hk5 d1 d2 d3 d4;go_wp2_with fail;refine(wP _ _ _ _ ⟨false,76,b,a⟩ _ ahi.o aW (by intro h hc;omega)).mono ?_;rintro g w6 ⟨n,H,hk6⟩;obtain⟨rfl,acj⟩:=n.fresh (by simp[kP];omega);have Q:=dn acj.forget;have hbt:=BI.o.trans H;clear n acj H hk6 f1 f2 f3 f4;obtain⟨c,R⟩:∃c:List Lit,c=[]++[⟨false,69,a,b⟩]++[⟨false,76,a,b⟩]++[⟨false,76,b,a⟩]:=⟨_,rfl⟩;have hal:c.length=3:=by rw[R];rfl
 have Lc:=dn hal;rw[<-R]at Q;obtain⟨e,hon⟩:∃e:List Bool,e=[]++[false]++[false]++[false]:=⟨_,rfl⟩;rw[<-hon]at Q;clear R hal hon;have FZ:=dn hbt;clear hbt;go_wp2_with fail
 go_loopg [13] (2 ^ c.length-jr e) (fun gk bg wr=>∃(b:Bool) (e:List Bool),bg=.bool b/\fV wr w.heap.size (fun _=>False) c e/\dB w wr/\gk=if b then 2 ^ c.length-jr e else 0)
 ·exact⟨true,e,rfl,Q.o,FZ.o,rfl⟩
 case round=>
  obtain⟨bm,d,rfl,si,S,uk⟩:=hrel;have HE2:=dn si;have xD:=dn uk;clear si uk;cases bm
  ·go_wp2;go_ret;exact⟨⟨_,rfl⟩,S⟩
  ·have hl3:=fK.below rW.o S;go_wp2_with fail;refine(Kz _ _ c d Z _ _ HE2.o hl3).mono ?_;rintro g T ⟨⟨hbb,rfl⟩,q⟩;have acu:=S.dW q;have U:=dn (HE2.o.below q);clear hl3;have jF:Hid (∀t,dH 201 #[dK w.heap.size 0] (T.drewN t) λg j=>OQ j w.heap.size (λ_=>False) c d g/\Below w.heap.size (T.drewN t) j/\(∀h,False->j.heap[h]?=(T.drewN t).heap[h]?)):=λt=>MW _ _ c d _ (U.o.below (below_drewN af t))
   have HR:Hid (∀(f:Bool) (i:List Bool) (j:World),fV j w.heap.size (λ_=>False) c i->(f=true->jr i=jr d+1)->(if f then 2 ^ c.length-jr i else 0)<gk):=by
    intro f i j h1 h2;have hlt:=Ru d;have hle:d.length=c.length:=by obtain⟨_,_,_,_,_,_,_,_,h7,_⟩:=U.o;exact h7.symm
    rw[hle]at hlt;have hg:=xD.o;simp only[if_true]at hg;cases f
    ·exact aX
    ·have:=h2 rfl;simp only[if_true];exact aR
   obtain⟨va,vo,q1,q2,q3,q4,q5,q6,q7,_⟩:=U.o;have ho3:d.length=3:=by rw[<-q7];exact Lc.o
   have uL:=jm.fq q5;obtain⟨ab,cb,hvo,hcb,hmb,I⟩:=uL.form;subst hvo;obtain⟨gb,hgb,_,y0⟩:=I 0 aR;obtain⟨gb1,u,_,y1⟩:=I 1 aR;obtain⟨gb2,v,_,y2⟩:=I 2 aR;subst hgb;injection u with u
   injection u with u;subst u;injection v with v;injection v with v;subst v;have i0:(0:Int)<(d.length:Int):=aR;have i1:(1:Int)<(d.length:Int):=aR;have i2:(2:Int)<(d.length:Int):=aR;generalize d[0]=b0 at *;generalize d[1]=b1 at *;generalize d[2]=b2 at *;clear q1 q3 q4 q5 q6 q7 uL I ho3;cases b0<;>cases b1<;>cases b2<;>cases hbb
   all_goals
    go_wp2_with fail;go_quiet (fail);go_wp2_with fail
    first
     | (go_ret
        exact⟨⟨_,rfl⟩,below_drewN acu _⟩)
     | (refine(jF.o _).mono ?_
        rintro g V ⟨⟨f,i,rfl,X,hv5⟩,H,_⟩;have hg':=HR.o f i V X hv5;have HF:Hid (∃(b:Bool) (e:List Bool),Value.bool f=.bool b/\fV V w.heap.size (λ_=>False) c e/\dB w V/\(if f then 2 ^ c.length-jr i else 0)=if b then 2 ^ c.length-jr e else 0):=⟨f,i,rfl,X,(below_drewN acu _).trans H,rfl⟩;have HG:=dn hg';generalize (if f then 2 ^ c.length-jr i else 0)=gn at *;clear X hv5 hg';go_wp2_with fail
        go_roundg gn
        case measure=>exact HG.o
        case rel=>exact HF.o)
theorem Bw (a:List Bool)(i:Nat)(h:i<a.length)(b:a[i]=false):(a.set i true).count true=a.count true+1:=by
 induction a generalizing i with
 | nil=>simp at h
 | cons d a c=>
  cases i with
  | zero=>
   simp only[List.getElem_cons_zero]at b;subst b;exact aW
  | succ i=>
   simp only[List.getElem_cons_succ]at b;have:=c i anv b;simp only[List.set_cons_succ,List.count_cons];exact aR
theorem Ap {row:Option Nat}(a:w.grownBy W row)(b:W.grownBy u row):w.grownBy u row:=
 ⟨b.os.trans a.os,b.tape.trans a.tape,b.output.trans a.output,Nat.le_trans a.size b.size,λk c d=>(b.block k (Nat.lt_of_lt_of_le c a.size) d).trans (a.block k c d)⟩
theorem Uf (a:World)(row:Option Nat):a.grownBy a row:=⟨rfl,rfl,rfl,ae,λ_ _ _=>rfl⟩
theorem Fz {row:Option Nat}(h:dB w W):w.grownBy W row:=⟨h.os,h.tape,h.output,h.size,λk a _=>h.block k a⟩
def kV (w0 ws:World)(gr cap:Nat)(V5:List Bool)(m:Bool)(wr:World):Prop:=
 ∃rs:List Bool,wr.ownsRow 0 4 1 (dJ gr V5.length cap) V5.length (rs.map Value.bool)/\rs.length=V5.length/\V5.count true<=rs.count true/\(m=true->V5.count true<rs.count true)/\dB w0 wr/\ws.grownBy wr (some gr)
theorem kV.set {wr:World}{a:List Bool}{c:Bool}(d:wr.ownsRow 0 4 1 (dJ n P.length m) P.length (a.map Value.bool))(e:a.length=P.length)(l:P.count true<=a.count true)(f:dB w wr)(g:W.grownBy wr (some n))(h:w.heap.size<=n)
 {i:Nat} (hi:i<a.length) (b:a[i]=false):kV w W n m P c (wr.setCell (dA n i) (fu)):=by
 obtain⟨j,k⟩:=d.stored i (fu);refine⟨a.set i true,?_,anm,?_,?_,f.setCell h _,Ap g k⟩
 ·rw[List.map_set];exact j
 ·rw[Bw a i hi b];exact aR
 ·intro _;rw[Bw a i hi b];exact aR
theorem kV.cell {wr:World}(a:wr.ownsRow 0 4 1 (dJ n k m) k (P.map Value.bool))(b:P.length=k){i:Nat}(hi:i<P.length):wr.cell? (dA n i)=some (.bool P[i])/\wr.frozen? (dA n i)=false:=by
 refine⟨?_,a.frozenAt i⟩;rw[a.cellAt i aR];simp[hi]
theorem qy (a:n<k)(b:m<k):n*k+m<k*k:=by
 have:(n+1)*k<=k*k:=Nat.mul_le_mul_right _ a;rw[Nat.add_mul]at this;exact aR
theorem XF (H U:Nat)(p:List fB)(held:List Nat)(V:List (List Lit))(g j:Nat)(e:List Bool)(k w:World)(I:iE k H U p held V)(J:k.heap.size<=g)(q:kV k w g j e false w)(K:e.length=p.length*p.length)(L:p.length<=1000) :
 dH 207 #[dK H 0,dJ g e.length j] w λW X=>(∃m:Bool,W=dF (.bool m)/\kV k w g j e m X):=by
 have Y:=dn q;obtain⟨l,f,h,o,r,Z,_⟩:=q
 have hcapb:e.length<=j/\j<=2 ^ 63-1:=by
  rcases f.2 with ⟨v,_⟩|⟨g',c',cur,v,_,_,h6,M,_⟩
  ·cases v
  ·injection v with h8 h9 h10;subst h10;unfold maxLen at M;exact⟨h6,M⟩
 have x:=I.below Z;have r3:=x.book;obtain⟨vT,r4,hT⟩:=x.terms;obtain⟨aT,lL,rfl,acr,acg,Bo⟩:=hT;clear Bo I x;generalize p.length=n at *;have hnn:n*n<=1000000:=Nat.mul_le_mul L L;have d:=dn K;have hrl:e.length<=1000000:=aR;clear f h o r K;go_enter func207,ntmps207;go_wp2_with fail
 go_loopw [6,7] (fun s i wr=>∃(m:Bool) (a:Nat),s=.bool m/\i=dw a/\a<=n/\kV k w g j e m wr) (fun _ i _=>n-(intOf i).toNat)
 ·exact⟨false,0,rfl,rfl,aR,Y.o⟩
 case round=>
  obtain⟨m,a,rfl,rfl,ha,q⟩:=hrel;have N:=dn q;clear q
  by_cases y:a<n
  ·go_wp2_with fail
   go_loopw [6,8] (fun s i wr=>∃(m:Bool) (b:Nat),s=.bool m/\i=dw b/\b<=n/\kV k w g j e m wr) (fun _ i _=>n-(intOf i).toNat)
   ·exact⟨m,0,rfl,rfl,aR,N.o⟩
   case round=>
    obtain⟨z,b,rfl,rfl,hb,O⟩:=hrel;have A:=dn O
    by_cases B:b<n
    ·obtain⟨l,f,h,o,r,t,u⟩:=O;have i1:=qy y B;have i2:=qy B y;obtain⟨P,_⟩:=kV.cell f h (i:=a*n+b) (aP d.o);obtain⟨Q,R⟩:=kV.cell f h (i:=b*n+a) (aP d.o);have C:Hid (l[b*n+a]'(aP d.o)=false->kV k w g j e true (wr.oq g (b*n+a) (fu))):=λD=>kV.set f h o t u J (aP d.o) D;have j1:(0:Int)<=(a:Int)*(n:Int):=bQ;have j2:(a:Int)*(n:Int)+(b:Int)<1000000:=bQ;have j3:(0:Int)<=(b:Int)*(n:Int):=bQ;have j4:(b:Int)*(n:Int)+(a:Int)<1000000:=bQ;have j5:(a:Int)*(n:Int)+(b:Int)<(e.length:Int):=am5;have j6:(b:Int)*(n:Int)+(a:Int)<(e.length:Int):=am5;generalize l[a*n+b]'(aP d.o)=x1 at *;generalize l[b*n+a]'(aP d.o)=x2 at *;clear f h o r t u;cases x1
     ·go_wp2;go_roundw
      ·exact⟨z,b+1,rfl,bL,aR,A.o⟩
      ·exact aph
     ·cases x2
      all_goals
       go_wp2_with fail
       go_loopw [6,9] (fun s i wr=>∃(m:Bool) (c:Nat),s=.bool m/\i=dw c/\c<=n/\kV k w g j e m wr) (fun _ i _=>n-(intOf i).toNat)
       ·first|exact⟨z,0,rfl,rfl,aR,A.o⟩|exact⟨true,0,rfl,rfl,aR,C.o rfl⟩|exact⟨true,0,rfl,rfl,aR,C.o⟩|exact⟨true,0,rfl,rfl,aR,C.o trivial⟩
       case round=>
        obtain⟨E,c,rfl,rfl,hc,S⟩:=hrel;have F:=dn S
        by_cases T:c<n
        ·clear P Q R;obtain⟨l,f,h,o,r,t,u⟩:=S;have i3:=qy B T;have i4:=qy y T;obtain⟨P,_⟩:=kV.cell f h (i:=b*n+c) (aP d.o);obtain⟨Q,R⟩:=kV.cell f h (i:=a*n+c) (aP d.o);have G:Hid (l[a*n+c]'(aP d.o)=false->kV k w g j e true (wr.oq g (a*n+c) (fu))):=λD=>kV.set f h o t u J (aP d.o) D;have k2:(b:Int)*(n:Int)+(c:Int)<1000000:=bQ;have k4:(a:Int)*(n:Int)+(c:Int)<1000000:=bQ;have k5:(b:Int)*(n:Int)+(c:Int)<(e.length:Int):=am5;have k6:(a:Int)*(n:Int)+(c:Int)<(e.length:Int):=am5;generalize l[b*n+c]'(aP d.o)=x3 at *;generalize l[a*n+c]'(aP d.o)=x4 at *;clear f h o r t u;cases x3
         ·go_wp2;go_roundw
          ·exact⟨E,c+1,rfl,bL,aR,F.o⟩
          ·exact aph
         ·cases x4
          ·go_wp2;go_roundw
           ·first|exact⟨true,c+1,rfl,bL,aR,G.o rfl⟩|exact⟨true,c+1,rfl,bL,aR,G.o⟩|exact⟨true,c+1,rfl,bL,aR,G.o trivial⟩
           ·exact aph
          ·go_wp2;go_roundw
           ·exact⟨E,c+1,rfl,bL,aR,F.o⟩
           ·exact aph
        ·go_wp2;go_roundw
         ·exact⟨E,b+1,rfl,bL,aR,F.o⟩
         ·exact aph
    ·go_wp2;go_roundw
     ·exact⟨z,a+1,rfl,bL,aR,A.o⟩
     ·exact aph
  ·go_wp2;go_ret;exact⟨m,rfl,N.o⟩
theorem kV.below {wr:World}{b:Bool}(h:kV w W n m P b wr)(a:dB wr u):kV w W n m P b u:=by
 obtain⟨c,d,e,f,g,i,j⟩:=h;exact⟨c,ownsRow_below d a,e,f,g,i.dW a,Ap j (Fz a)⟩
def BK (ts:List fB):Prop:=∀i j (hi:i<ts.length) (hj:j<ts.length),ts[i].op=13->ts[j].op=13->ts[i].sym=ts[j].sym->ts[i].args.length=ts[j].args.length
theorem adx (F A:Nat)(a:List fB)(held:List Nat)(cs:List (List Lit))(j r:Nat)(l:List Bool)(m w:World)(L:iE m F A a held cs)(hgr:m.heap.size<=j)(B:kV m w j r l false w)(hn:l.length=a.length*a.length)(hts:a.length<=1000)(hwf:jQ a)(has:BK a) :
 dH 208 #[dK F 0,dJ j l.length r] w λbq w'=>(∃n:Bool,bq=dF (.bool n)/\kV m w j r l n w'):=by
 have HST:=dn B;obtain⟨G,s,u,H,M,hb0,_⟩:=B
 have hcapb:l.length<=r/\r<=2 ^ 63-1:=by
  rcases s.2 with ⟨h,_⟩|⟨g',c',cur,h,_,_,h6,h7,_⟩
  ·cases h
  ·injection h with h8 h9 h10;subst h10;unfold maxLen at h7;exact⟨h6,h7⟩
 have N:=L.below hb0;have r3:=N.book;obtain⟨vT,r4,hT⟩:=N.terms;obtain⟨aT,lL,rfl,acr,acg,Bo⟩:=hT;have acJ:Hid (∀i (hi:i<a.length),∃O lL P mY,IU m F A a i a[i] O lL P mY):=λi hi=>L.look hi;have KZ:=dn hwf;have HAS:=dn has;have hnn:a.length*a.length<=1000000:=Nat.mul_le_mul hts hts;have t:=dn hn;have hrl:l.length<=1000000:=aR;clear s u H M hn Bo L N hwf has;go_enter func208,ntmps208;go_wp2_with fail
 go_loopw [6,7] (fun Q i wr=>∃(n:Bool) (f:Nat),Q=.bool n/\i=dw f/\f<=a.length/\kV m w j r l n wr) (fun _ i _=>a.length-(intOf i).toNat)
 ·exact⟨false,0,rfl,rfl,aR,HST.o⟩
 case round=>
  obtain⟨n,f,rfl,rfl,ha,B⟩:=hrel;have H1:=dn B;clear B
  by_cases C:f<a.length
  ·go_wp2_with fail
   go_loopw [6,8] (fun Q i wr=>∃(n:Bool) (d:Nat),Q=.bool n/\i=dw d/\d<=a.length/\kV m w j r l n wr) (fun _ i _=>a.length-(intOf i).toNat)
   ·exact⟨n,0,rfl,rfl,aR,H1.o⟩
   case round=>
    obtain⟨I,d,rfl,rfl,hb,xc⟩:=hrel;have R:=dn xc
    by_cases D:d<a.length
    ·obtain⟨G,s,u,H,M,e,s6⟩:=xc;obtain⟨O,cT,P,cA,g⟩:=acJ.o f C;obtain⟨g',cT',aB,cB,o⟩:=acJ.o d D;have p:=aj g.op;have ae6:=aj o.op;have y0:=e.eT g.book;have S:=e.eT g.terms;have J:=e.dL o.terms (aj g.terms);rw[S]at J;injection J with J
     injection J with E _ y3;injection E with E;injection E with E;subst E y3;have a1:=e.dL g.text p;have a2:=e.dL g.op p;have a3:=e.dL g.sort p;have a4:=e.dL g.sym p;have a5:=e.dL g.args p;have b1:=e.dL o.text p;have b2:=e.dL o.op p;have b3:=e.dL o.sort p;have b4:=e.dL o.sym p;have b5:=e.dL o.args p;have hgs:O<wr.heap.size:=Nat.lt_of_lt_of_le p e.size;have hps:F<wr.heap.size:=aj y0;have hbs:A<wr.heap.size:=aj S;have hrs:j<wr.heap.size:=(s.lt j rfl).2;have i1:=qy C D;obtain⟨c1,f1⟩:=kV.cell s u (i:=f*a.length+d) (aP t.o);have j1:(0:Int)<=(f:Int)*(a.length:Int):=bQ;have j2:(f:Int)*(a.length:Int)+(d:Int)<1000000:=bQ;have j5:(f:Int)*(a.length:Int)+(d:Int)<(l.length:Int):=by rw[t.o,<-Int.natCast_mul];omega
     have hlA:=g.aeA;have hmA:=g.aex;have hlB:=o.aeA;have hmB:=o.aex;have H9:=g.ahH;have hTM:=g.ahE;have HB2:Hid (∀X Y,kV m w j r l I ((wr.alloc X).alloc Y)):=λX Y=>R.o.below (((Below.refl wr.heap.size wr).alloc ae X).alloc aW Y);have HXL:=dn (HAS.o f d C D);have pO:=dn g.arg;have aho:=dn o.arg;have HW1:=dn (KZ.o f C);have HW2:=dn (KZ.o d D);have pV:=dn e;have ag4:Hid (G[f*a.length+d]'(aP t.o)=false->∀W,dB wr W->kV m w j r l true (W.oq j (f*a.length+d) (fu))):=λhf W y=>kV.set (ownsRow_below s y) u H (e.dW y) (Ap s6 (Fz y)) hgr (aP t.o) hf;have HRC:Hid (∀i,i<a.length*a.length->∃A:Bool,∀W,dB wr W->W.dQ j i=some (.bool A)/\W.uV j i=false):=λi hi=>⟨G[i]'(aP t.o),λW y=>⟨(y.dL (kV.cell s u (aP t.o)).1 hrs),(y.gq (kV.cell s u (aP t.o)).2 hrs)⟩⟩;generalize G[f*a.length+d]'(aP t.o)=x1 at *;generalize a[f]=b at *;generalize a[d]=c at *;clear s u H M e s6 g o
     by_cases v:x1=true\/b.op≠13\/c.op≠13\/b.sym≠c.sym
     ·have hdec:x1=true\/(x1=false/\((b.op:Int) !=13)=true)\/(x1=false/\((b.op:Int) !=13)=false/\((c.op:Int) !=13)=true)\/(x1=false/\((b.op:Int) !=13)=false/\((c.op:Int) !=13)=false/\((b.sym:Int) !=(c.sym:Int))=true):=by
       cases x1
       ·by_cases T:b.op=13
        ·by_cases h2:c.op=13
         ·refine .inr (.inr (.inr ⟨rfl,by simp[T],by simp[h2],?_⟩));rw[bne_iff_ne];rcases v with h|h|h|h
          ·cases h
          ·exact absurd T h
          ·exact absurd h2 h
          ·exact aR
         ·exact .inr (.inr (.inl ⟨rfl,by simp[T],amW⟩))
        ·exact .inr (.inl ⟨rfl,amW⟩)
       ·exact .inl rfl
      clear v;rcases hdec with h|⟨h,U⟩|⟨h,U,q2⟩|⟨h,U,q2,q3⟩
      all_goals
       subst h;go_wp2;go_roundw
       ·exact⟨I,d+1,rfl,bL,aR,HB2.o _ _⟩
       ·exact aph
     ·have hx1:x1=false:=by cases x1;rfl;exact absurd (.inl rfl) v
      have V:b.op=13:=by by_cases h:b.op=13;exact h;exact absurd (.inr (.inl h)) v
      have Z:c.op=13:=by by_cases h:c.op=13;exact h;exact absurd (.inr (.inr (.inl h))) v
      have hsy:b.sym=c.sym:=by by_cases h:b.sym=c.sym;exact h;exact absurd (.inr (.inr (.inr h))) v
      have hlen:=HXL.o V Z hsy;have hlen1:b.args.length<=c.args.length:=aR;have U:((b.op:Int) !=13)=false:=by simp[V]
      have q2:((c.op:Int) !=13)=false:=by simp[Z]
      have q3:((b.sym:Int) !=(c.sym:Int))=false:=by simp[hsy]
      have ag5:=dn (ag4.o hx1);subst hx1;clear v V Z hsy hlen;go_wp2_with fail
      go_loopw [11,12] (fun al i q=>∃(k:Nat) (K:Bool),al=.bool K/\i=dw k/\k<=b.args.length/\kT q wr.heap.size b (.slice P b.args.length cA)/\kT q (wr.heap.size+1) c (.slice aB c.args.length cB)/\dB wr q) (fun _ i _=>b.args.length-(intOf i).toNat)
      case atStart=>
       refine⟨0,true,rfl,rfl,aR,⟨aW,aW,aW,aW,aW⟩,⟨aW,aW,aW,aW,aW⟩,((Below.refl wr.heap.size wr).alloc ae _).alloc aW _⟩
      case round=>
       rename World=>q;obtain⟨k,K,rfl,rfl,hk,hbx,hby,x⟩:=hrel;have qJ:=dn hbx;have R3:=dn hby;have z5:=hbx.args;have v5:=hby.args;have hbw0:=pV.o.dW x;clear hbx hby y0 S a1 a2 a3 a4 a5 b1 b2 b3 b4 b5 c1 f1
       by_cases ah4:k<b.args.length
       ·obtain⟨gA,hgA,aau,kA⟩:=pO.o k ah4;obtain⟨gB,hgB,aid,kB⟩:=aho.o k aR;subst hgA hgB;have kA':=hbw0.dL kA aau;have kB':=hbw0.dL kB aid;have hu:b.args[k]<a.length:=Nat.lt_trans (HW1.o.args _ aW) C;have hv:c.args[k]<a.length:=Nat.lt_trans (HW2.o.args _ aW) D;have i3:=qy hu hv;obtain⟨rb,z⟩:=HRC.o _ i3;have d1:=(z q x).1;generalize b.args[k]=bg at *;generalize c.args[k]=bn at *;have k1:(0:Int)<=(bg:Int)*(a.length:Int):=bQ;have k2:(bg:Int)*(a.length:Int)+(bn:Int)<1000000:=bQ;have k3:(bg:Int)*(a.length:Int)+(bn:Int)<(l.length:Int):=by rw[t.o,<-Int.natCast_mul];omega
        have l1:(k:Int)<(b.args.length:Int):=aR;have l2:(k:Int)<(c.args.length:Int):=aR;have l3:(0:Int)<=(k:Int):=aR;clear z kA kB;cases K
        all_goals
         go_wp2_with fail;go_quiet (fail);go_wp2;go_roundw
         ·exact⟨k+1,_,rfl,bL,aR,qJ.o.below (below_drewN af _) (aj qJ.o.op),R3.o.below (below_drewN af _) (aj R3.o.op),below_drewN x _⟩
         ·exact aph
       ·obtain⟨rb,z⟩:=HRC.o _ i1;have d1:=(z q x).1;have d2:=(z q x).2;have hset:=ag5.o q x;have hkeep:=R.o.below x;have Pg:=dn hset;have ahg:=dn hkeep;clear hset hkeep z;cases K
        ·go_wp2;go_roundw
         ·exact⟨I,d+1,rfl,bL,aR,ahg.o⟩
         ·exact aph
        ·go_wp2;go_roundw
         ·exact⟨true,d+1,rfl,bL,aR,Pg.o⟩
         ·exact aph
    ·go_wp2;go_roundw
     ·exact⟨I,f+1,rfl,bL,aR,R.o⟩
     ·exact aph
  ·go_wp2;go_ret;exact⟨n,rfl,H1.o⟩
