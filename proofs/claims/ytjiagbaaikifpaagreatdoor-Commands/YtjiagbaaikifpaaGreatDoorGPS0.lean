import Derived.Test.YtjiagbaaikifpaaGreatDoorGDoc8
import Derived.Test.YtjiagbaaikifpaaGreatDoorGPL0
set_option maxRecDepth 100000
set_option maxHeartbeats 16000000
namespace Go.Proofs.YtjiagbaaikifpaaGreatDoor
open Go.RowKit Go.Proofs.Tryz
variable {E e:TypeId}{O o:Own}{V v y:Value}{W u w:World}{a:eu}{b:List Value}{i j k m n:Nat}{l:List Nat}
theorem IB:(prog.info? 226).map (λi=>(i.zero,i.size,i.bytes))=some (some (.agg #[dw 0,dw 0,dw 0,dE,dw 0]),5,56):=bR
theorem KW:(prog.info? 197).map (λi=>(i.zero,i.size,i.bytes))=some (some (.agg #[eB,dE,dw 0]),3,48):=bR
theorem KX:(prog.info? 133).map (λi=>(i.zero,i.size,i.bytes))=some (some (.agg #[dw 0,dw 0,dw 0]),3,24):=bR
def qZ (w':World)(base:Nat)(ty:TypeId)(sz:Nat)(xs:List (List Value))(e:Ending):Prop:=∃u,e=dF u/\w'.ownsRow base ty sz u xs.length xs.flatten
theorem VF {b:Type}{a:List b}(h:n<a.length):a.take (n+1)=a.take n++[a[n]]:=by
 rw[List.take_add_one,aF h];rfl
theorem zD {a:List (List Value)}(h:n<a.length):(a.take (n+1)).flatten=(a.take n).flatten++a[n]:=by
 rw[VF h,List.flatten_append];exact aW
theorem take_same {a:Type}{xs:List a}{m n:Nat}(b:m<=xs.length)(c:m<=n)(d:¬(m<n/\m<xs.length)):xs.take m=xs.take n/\m=(xs.take n).length:=by
 by_cases h:n<=xs.length
 ·have:m=n:=aR;subst this;exact⟨rfl,aX⟩
 ·rw[List.take_of_length_le aR,List.take_of_length_le aR];exact⟨rfl,aR⟩
theorem Di (v:Value)(a:List (List Value))(n:Nat)(w:World)(A:Row w 1 v a)(p:∀x∈a,∃b:Nat,x=[dw (b:Int)])(d:a.length<=2 ^ 63-1)(hn:n<=1000000000) :
 dH 185 #[v,dw n] w λB q=>qZ q w.heap.size 3 1 (a.take n) B/\dB w q:=by
 obtain⟨C,D,E,F,G⟩:=info_parts nk;obtain⟨ao,cap,rfl,H,I,r,s⟩:=A;unfold maxLen at I;have J:=dn s;have K:=dn p;have H3:=dn r;clear s p r;obtain⟨L,e⟩:=aK a.length;rw[e]at H d ⊢;have f:=dn e;clear e;go_enter func185,ntmps185;go_wp2_with fail
 go_loopw [5,6] (fun M g wr=>∃(m:Nat),g=dw (m:Nat)/\m<=L/\m<=n/\wr.ownsRow w.heap.size 3 1 M m (a.take m).flatten/\dB w wr) (fun _ g _=>L-(intOf g).toNat)
 ·exact aqj
 case round=>
  obtain⟨m,rfl,N,O,h,c⟩:=hrel;have i:=dn h;have t:=dn c;obtain⟨P,Q,rfl,hv1,hv2⟩:=ik h;have R:=c.size;clear h
  by_cases j:m<n/\m<L
  ·obtain⟨hlt1,S⟩:=j;have k:m<a.length:=by rw[f.o];exact S
   obtain⟨b,l⟩:=K.o a[m] aW;obtain⟨bn,rfl,u⟩:=J.o m k;have T:=c.eT (u 0 aR (dw (b:Int)) (by rw[l];rfl));rw[show m*1+0=m by omega]at T
   have U:Hid ((a.take (m+1)).flatten=(a.take m).flatten++[dw (b:Int)]):=by
    show _=_;rw[zD k,l]
   clear u l c k;go_wp2_with (at_builtin;refine dU rfl (.tmp 18) (.tmp 23) 57 rfl w.heap.size 3 C (dw 0) 1 8 underlying57 D E F G rfl aY (.slice P m Q) m (a.take m).flatten rfl (by exact i.o.alloc _) (dA wr.heap.size 0) 1 [dw (b:Int)] rfl rfl bP bX bz aR aX ?_;intro V W o y z X Y;have Z:Hid (dB w o):=(t.o.alloc R _).grown z aX (λx d=>(i.o.lt x d).1))
   have tJ:Hid (o.ownsRow w.heap.size 3 1 (dJ V (m+1) W) (m+1) (a.take (m+1)).flatten):=by
    show o.ownsRow _ _ _ _ _ _;rw[U.o];exact y
   clear y z X Y;go_wp2;go_roundw
   ·exact⟨m+1,rfl,aR,aR,tJ.o,Z.o⟩
   ·exact aph
  ·have HE:=dn (take_same (xs:=a) (m:=m) (n:=n) (by rw[f.o];exact N) O (by rw[f.o];exact j));have hcase:n<=m\/(m<n/\L<=m):=aR;clear j;rcases hcase with bg|⟨bg,h'⟩<;>
   ·go_wp2;go_ret;exact⟨⟨_,rfl,by obtain⟨e1,e2⟩:=HE.o;rw[<-e2,<-e1];exact i.o⟩,t.o⟩
theorem oW (w:World)(a:List Value)(b:TypeId):∀j u,a[j]?=some u->(w.alloc (.cells a.toArray b)).cell? (((dA w.heap.size 0):Addr).add j)=some u:=by
 intro j u h;have c:=heap_alloc_new w (.cells a.toArray b);have e:((dA w.heap.size 0):Addr).add j=(dA w.heap.size j):=aob;rw[e,cell_of_row _ w.heap.size j a.toArray b (0,0) c];exact anv
theorem JG (y:Value)(a:List (List Value))(n:Nat)(w:World)(H:Row w 5 y a)(z:∀x∈a,∃(d e f:Nat) (g:eu) (l h s:Nat),x=[dw (d:Int),dw (e:Int),dw (f:Int),.slice g l h,dw (s:Int)])(j:a.length<=2 ^ 63-1)(hn:n<=1000000000) :
 dH 181 #[y,dw n] w λI A=>qZ A w.heap.size 226 5 (a.take n) I/\dB w A:=by
 obtain⟨J,K,M,N,O⟩:=info_parts IB;obtain⟨ao,cap,rfl,P,Q,B,C⟩:=H;unfold maxLen at Q;have R:=dn C;have S:=dn z;have H3:=dn B;clear C z B;obtain⟨L,k⟩:=aK a.length;rw[k]at P j ⊢;have o:=dn k;clear k;go_enter func181,ntmps181;go_wp2_with fail
 go_loopw [5,6] (fun s p wr=>∃(m:Nat),p=dw (m:Nat)/\m<=L/\m<=n/\wr.ownsRow w.heap.size 226 5 s m (a.take m).flatten/\dB w wr) (fun _ p _=>L-(intOf p).toNat)
 ·exact aqj
 case round=>
  obtain⟨m,rfl,T,U,q,b⟩:=hrel;have r:=dn q;have D:=dn b;obtain⟨V,W,rfl,hv1,hv2⟩:=ik q;have X:=b.size;clear q
  by_cases t:m<n/\m<L
  ·obtain⟨hlt1,Y⟩:=t;have u:m<a.length:=by rw[o.o];exact Y
   obtain⟨d,e,f,g,l,h,s,c⟩:=S.o a[m] aW;obtain⟨bn,rfl,i⟩:=R.o m u;have Z:=b.eT (i 0 aR (dw (d:Int)) am7);rw[show m*5+0=m*5 by omega]at Z;have c1:=b.eT (i 1 aR (dw (e:Int)) am7);have c2:=b.eT (i 2 aR (dw (f:Int)) am7);have c3:=b.eT (i 3 aR (.slice g l h) am7);have c4:=b.eT (i 4 aR (dw (s:Int)) am7)
   have HT:Hid ((a.take (m+1)).flatten=(a.take m).flatten++[dw (d:Int),dw (e:Int),dw (f:Int),.slice g l h,dw (s:Int)]):=by
    show _=_;rw[zD u,c]
   clear i c b u;go_wp2_with (at_builtin;refine dU rfl (.tmp 18) (.tmp 23) 56 rfl w.heap.size 226 J (.agg #[dw 0,dw 0,dw 0,dE,dw 0]) 5 56 underlying56 K M N O rfl aY (.slice V m W) m (a.take m).flatten rfl (by exact r.o.alloc _) (dA wr.heap.size 0) 1 [dw (d:Int),dw (e:Int),dw (f:Int),.slice g l h,dw (s:Int)] rfl rfl (by exact oW _ [dw (d:Int),dw (e:Int),dw (f:Int),.slice g l h,dw (s:Int)] _) (by intro bq E;simp only[List.mem_cons,List.not_mem_nil,or_false]at E;rcases E with rfl|rfl|rfl|rfl|rfl<;>rfl) bz aR aX ?_;intro ga fD v F G hg1 hg2;have HB3:Hid (dB w v):=(D.o.alloc X _).grown G aX (λx j=>(r.o.lt x j).1))
   have tJ:Hid (v.ownsRow w.heap.size 226 5 (dJ ga (m+1) fD) (m+1) (a.take (m+1)).flatten):=by
    show v.ownsRow _ _ _ _ _ _;rw[HT.o];exact F
   clear F G hg1 hg2;exact aqs
  ·have HE:=dn (take_same (xs:=a) (m:=m) (n:=n) (by rw[o.o];exact T) U (by rw[o.o];exact t));have hcase:n<=m\/(m<n/\L<=m):=aR;clear t;rcases hcase with bg|⟨bg,h'⟩<;>
   ·go_wp2;go_ret;exact⟨⟨_,rfl,by obtain⟨e1,e2⟩:=HE.o;rw[<-e2,<-e1];exact r.o⟩,D.o⟩
theorem Gv (v:Value)(a:List (List Value))(n:Nat)(w:World)(F:Row w 3 v a)(t:∀x∈a,∃(y:dN) (b:eu) (l c s:Nat),x=[dD y,.slice b l c,dw (s:Int)])(g:a.length<=2 ^ 63-1)(hn:n<=1000000000) :
 dH 184 #[v,dw n] w λG u=>qZ u w.heap.size 197 3 (a.take n) G/\dB w u:=by
 obtain⟨H,I,J,K,M⟩:=info_parts KW;obtain⟨ao,cap,rfl,N,O,z,A⟩:=F;unfold maxLen at O;have P:=dn A;have Q:=dn t;have H3:=dn z;clear A t z;obtain⟨L,h⟩:=aK a.length;rw[h]at N g ⊢;have i:=dn h;clear h;go_enter func184,ntmps184;go_wp2_with fail
 go_loopw [5,6] (fun s j wr=>∃(m:Nat),j=dw (m:Nat)/\m<=L/\m<=n/\wr.ownsRow w.heap.size 197 3 s m (a.take m).flatten/\dB w wr) (fun _ j _=>L-(intOf j).toNat)
 ·exact aqj
 case round=>
  obtain⟨m,rfl,R,S,k,d⟩:=hrel;have o:=dn k;have B:=dn d;obtain⟨T,U,rfl,hv1,hv2⟩:=ik k;have V:=d.size;clear k
  by_cases p:m<n/\m<L
  ·obtain⟨hlt1,W⟩:=p;have q:m<a.length:=by rw[i.o];exact W
   obtain⟨y,b,l,c,s,e⟩:=Q.o a[m] aW;obtain⟨bn,rfl,f⟩:=P.o m q;have X:=d.eT (f 0 aR (dD y) ant);rw[show m*3+0=m*3 by omega]at X;have c1:=d.eT (f 1 aR (.slice b l c) ant);have c2:=d.eT (f 2 aR (dw (s:Int)) ant)
   have Y:Hid ((a.take (m+1)).flatten=(a.take m).flatten++[dD y,.slice b l c,dw (s:Int)]):=by
    show _=_;rw[zD q,e]
   clear f e d q;go_wp2_with (at_builtin;refine dU rfl (.tmp 18) (.tmp 23) 55 rfl w.heap.size 197 H (.agg #[eB,dE,dw 0]) 3 48 underlying55 I J K M rfl aY (.slice T m U) m (a.take m).flatten rfl aol (dA wr.heap.size 0) 1 [dD y,.slice b l c,dw (s:Int)] rfl rfl (by exact oW _ [dD y,.slice b l c,dw (s:Int)] _) (by intro bq C;simp only[List.mem_cons,List.not_mem_nil,or_false]at C;rcases C with rfl|rfl|rfl<;>rfl) bz aR aX ?_;intro Z fD r D E hg1 hg2;have HB3:Hid (dB w r):=(B.o.alloc V _).grown E aX (λx g=>(o.o.lt x g).1))
   have tJ:Hid (r.ownsRow w.heap.size 197 3 (dJ Z (m+1) fD) (m+1) (a.take (m+1)).flatten):=by
    show r.ownsRow _ _ _ _ _ _;rw[Y.o];exact D
   clear D E hg1 hg2;exact aqs
  ·have HE:=dn (take_same (xs:=a) (m:=m) (n:=n) (by rw[i.o];exact R) S (by rw[i.o];exact p));have hcase:n<=m\/(m<n/\L<=m):=aR;clear p;rcases hcase with bg|⟨bg,h'⟩<;>
   ·go_wp2;go_ret;exact⟨⟨_,rfl,by obtain⟨e1,e2⟩:=HE.o;rw[<-e2,<-e1];exact o.o⟩,B.o⟩
theorem JH (v:Value)(a:List (List Value))(n:Nat)(w:World)(D:Row w 3 v a)(s:∀x∈a,∃b c d:Nat,x=[dw (b:Int),dw (c:Int),dw (d:Int)])(h:a.length<=2 ^ 63-1)(hn:n<=1000000000) :
 dH 183 #[v,dw n] w λE t=>qZ t w.heap.size 133 3 (a.take n) E/\dB w t:=by
 obtain⟨F,G,H,I,J⟩:=info_parts KX;obtain⟨ao,cap,rfl,K,M,u,y⟩:=D;unfold maxLen at M;have N:=dn y;have O:=dn s;have H3:=dn u;clear y s u;obtain⟨L,i⟩:=aK a.length;rw[i]at K h ⊢;have j:=dn i;clear i;go_enter func183,ntmps183;go_wp2_with fail
 go_loopw [5,6] (fun P k wr=>∃(m:Nat),k=dw (m:Nat)/\m<=L/\m<=n/\wr.ownsRow w.heap.size 133 3 P m (a.take m).flatten/\dB w wr) (fun _ k _=>L-(intOf k).toNat)
 ·exact aqj
 case round=>
  obtain⟨m,rfl,Q,R,l,e⟩:=hrel;have o:=dn l;have z:=dn e;obtain⟨S,T,rfl,hv1,hv2⟩:=ik l;have U:=e.size;clear l
  by_cases p:m<n/\m<L
  ·obtain⟨hlt1,V⟩:=p;have q:m<a.length:=by rw[j.o];exact V
   obtain⟨b,c,d,f⟩:=O.o a[m] aW;obtain⟨bn,rfl,g⟩:=N.o m q;have W:=e.eT (g 0 aR (dw (b:Int)) aoi);rw[show m*3+0=m*3 by omega]at W;have c1:=e.eT (g 1 aR (dw (c:Int)) aoi);have c2:=e.eT (g 2 aR (dw (d:Int)) aoi)
   have X:Hid ((a.take (m+1)).flatten=(a.take m).flatten++[dw (b:Int),dw (c:Int),dw (d:Int)]):=by
    show _=_;rw[zD q,f]
   clear g f e q;go_wp2_with (at_builtin;refine dU rfl (.tmp 18) (.tmp 23) 58 rfl w.heap.size 133 F (.agg #[dw 0,dw 0,dw 0]) 3 24 underlying58 G H I J rfl aY (.slice S m T) m (a.take m).flatten rfl aol (dA wr.heap.size 0) 1 [dw (b:Int),dw (c:Int),dw (d:Int)] rfl rfl (by exact oW _ [dw (b:Int),dw (c:Int),dw (d:Int)] _) (by intro bq A;simp only[List.mem_cons,List.not_mem_nil,or_false]at A;rcases A with rfl|rfl|rfl<;>rfl) bz aR aX ?_;intro Y Z r B C hg1 hg2;have HB3:Hid (dB w r):=(z.o.alloc U _).grown C aX (λx h=>(o.o.lt x h).1))
   have tJ:Hid (r.ownsRow w.heap.size 133 3 (dJ Y (m+1) Z) (m+1) (a.take (m+1)).flatten):=by
    show r.ownsRow _ _ _ _ _ _;rw[X.o];exact B
   clear B C hg1 hg2;exact aqs
  ·have HE:=dn (take_same (xs:=a) (m:=m) (n:=n) (by rw[j.o];exact Q) R (by rw[j.o];exact p));have hcase:n<=m\/(m<n/\L<=m):=aR;clear p;rcases hcase with bg|⟨bg,h'⟩<;>
   ·go_wp2;go_ret;exact⟨⟨_,rfl,by obtain⟨e1,e2⟩:=HE.o;rw[<-e2,<-e1];exact o.o⟩,z.o⟩
def tY (w:World)(own:Own)(c:List Value)(t:Doc.Term):Prop:=∃av,c=[dw (Doc.eG t.op:Nat),dw t.sym,dw (Doc.fP t:Nat),av,dw t.sort]/\fG w own av t.args
theorem sS:II tY:=λ_ _ _ _ a _ _ ⟨b,c,d⟩=>⟨b,c,d.step a⟩
structure dI (w:World)(own:Own)(k sb:Nat)(S:Doc.dO):Prop where
 mine:own sb=k
 obj:∃cur,w.heap[sb]?=some (.cells cur 62 (0,0))
 fr:∀o,w.frozen? (dA sb o)=false
 syms:∃v,w.cell? (dA sb 0)=some v/\eU w own k 197 3 (yE w own) v S.syms
 terms:∃v,w.cell? (dA sb 1)=some v/\eU w own k 226 5 (tY w own) v S.terms
 held:∃v,w.cell? (dA sb 2)=some v/\eU w own k 3 1 (Al w own) v S.held
 levels:∃v,w.cell? (dA sb 3)=some v/\eU w own k 133 3 (DN w own) v S.levels
theorem dI.lt {own:Own}{S:Doc.dO}(h:dI w own n m S):m<w.heap.size:=by
 exact aqw
theorem dI.step {w:World}{own:Own}{S:Doc.dO}(h:dI w own n m S)(c:∀b,b<w.heap.size->own b=0\/own b=n->W.heap[b]?=w.heap[b]?/\O b=own b):dI W O n m S:=by
 obtain⟨i,u,j⟩:=h.syms;obtain⟨k,x,l⟩:=h.terms;obtain⟨p,y,q⟩:=h.held;obtain⟨r,z,s⟩:=h.levels;have d:=c m h.lt (.inr h.mine);have e:∀o v,w.cell? (dA m o)=some v->W.cell? (dA m o)=some v:=λo v A=>(World.cell?_of_block (w:=w) (a:=dA m o) d.1).trans A;have f:∀b,b<w.heap.size->own b=0->W.heap[b]?=w.heap[b]?/\O b=0:=λb a h=>⟨(c b a (.inl h)).1,by rw[(c b a (.inl h)).2,h]⟩;have g:∀{t:Type} {B:TypeId} {C:Nat} {D:List Value->t->Prop} {v:Value} {E:List t},eU w own n B C D v E->∀b,v.ownBlock=some b->W.heap[b]?=w.heap[b]?/\O b=own b:=λh b a=>c b (h.type b a).2.1 (.inr (h.type b a).1);refine⟨by rw[d.2];exact h.mine,?_,λo=>(World.frozen?_of_block (w:=w) (a:=dA m o) d.1).trans (h.fr o),⟨i,e 0 i u,j.step mD f (g j)⟩,⟨k,e 1 k x,l.step sS f (g l)⟩,⟨p,e 2 p y,q.step qV f (g q)⟩,⟨r,e 3 r z,s.step tZ f (g s)⟩⟩;obtain⟨F,G⟩:=h.obj;exact⟨F,by rw[d.1];exact G⟩
theorem dI.below {own:Own}{S:Doc.dO}(h:dI w own n m S)(a:dB w W):dI W own n m S:=h.step (λb c _=>⟨a.block b c,rfl⟩)
theorem dI.fr' {own:Own}{S:Doc.dO}(h:dI w own n k S)(a:Fr own o m w W)(d:m≠0)(e:n≠m):dI W o n k S:=
 h.step (λb c f=>⟨a.block b c aR,a.ext b c⟩)
theorem mE {d f:Type}{own:Own}{g:TypeId}{C:World->Own->List Value->d->Prop}{D:List Value->f->Prop}{h:List d}{r:List f}{s:Array Value}
 (t:II C) (H:n≠0) (a:ky w W own o n m k v V) (u:w.heap[m]?=some (.cells s g (0,0))) (x:eU w own n E j D v r) (l:eU w own n e i (C w own) y h) (z:e≠E) (A:e≠g):eU W o n e i (C W o) y h:=by
 refine l.step t (λb c B=>⟨a.fr.block b c aR,by rw[a.fr.ext b c,B]⟩) (λb c=>?_);obtain⟨_,p,I,q⟩:=l.type b c;refine⟨a.other b p (iH q u A) ?_,a.fr.ext b p⟩;intro F;obtain⟨_,_,J,G⟩:=x.type b F;exact iH q G z rfl
theorem dI.vg {own:Own}{S:Doc.dO}(h:dI w own n m S){v c:Value}(i:w.cell? (dA m 0)=some v)(a:ky w W own O n m 0 v c)(d:n≠0){f:List Doc.Sym}(j:eU W O n 197 3 (yE W O) c f):dI W O n m { S with syms:=f }:=by
 obtain⟨k,g,e⟩:=h.syms;obtain⟨l,p,q⟩:=h.terms;obtain⟨r,s,t⟩:=h.held;obtain⟨u,x,y⟩:=h.levels;obtain rfl:v=k:=an1;obtain⟨z,b⟩:=h.obj;exact⟨alY,a.type z _ b,λo=>(a.frozen o).trans (h.fr o),⟨c,a.cell,j⟩,⟨l,(a.cells 1 aR).trans p,mE sS d a b e q aY aY⟩,⟨r,(a.cells 2 aR).trans s,mE qV d a b e t aY aY⟩,⟨u,(a.cells 3 aR).trans x,mE tZ d a b e y aY aY⟩⟩
theorem dI.sD {own:Own}{S:Doc.dO}(h:dI w own n m S){v c:Value}(i:w.cell? (dA m 1)=some v)(a:ky w W own O n m 1 v c)(d:n≠0){f:List Doc.Term}(j:eU W O n 226 5 (tY W O) c f):dI W O n m { S with terms:=f }:=by
 obtain⟨k,l,p⟩:=h.syms;obtain⟨q,g,e⟩:=h.terms;obtain⟨r,s,t⟩:=h.held;obtain⟨u,x,y⟩:=h.levels;obtain rfl:v=q:=an1;obtain⟨z,b⟩:=h.obj;exact⟨alY,a.type z _ b,λo=>(a.frozen o).trans (h.fr o),⟨k,(a.cells 0 aR).trans l,mE mD d a b e p aY aY⟩,⟨c,a.cell,j⟩,⟨r,(a.cells 2 aR).trans s,mE qV d a b e t aY aY⟩,⟨u,(a.cells 3 aR).trans x,mE tZ d a b e y aY aY⟩⟩
theorem dI.vk {own:Own}{S:Doc.dO}(h:dI w own n m S){v c:Value}(i:w.cell? (dA m 2)=some v)(a:ky w W own O n m 2 v c)(d:n≠0){f:List Nat}(j:eU W O n 3 1 (Al W O) c f):dI W O n m { S with held:=f }:=by
 obtain⟨k,l,p⟩:=h.syms;obtain⟨q,r,s⟩:=h.terms;obtain⟨t,g,e⟩:=h.held;obtain⟨u,x,y⟩:=h.levels;obtain rfl:v=t:=an1;obtain⟨z,b⟩:=h.obj;exact⟨alY,a.type z _ b,λo=>(a.frozen o).trans (h.fr o),⟨k,(a.cells 0 aR).trans l,mE mD d a b e p aY aY⟩,⟨q,(a.cells 1 aR).trans r,mE sS d a b e s aY aY⟩,⟨c,a.cell,j⟩,⟨u,(a.cells 3 aR).trans x,mE tZ d a b e y aY aY⟩⟩
theorem dI.qm {w2:World}{own own':Own}{S:Doc.dO}(h:dI w own n m S){v c:Value}(i:w.cell? (dA m 3)=some v)(a:ky w w2 own own' n m 3 v c)(d:n≠0){f:List (Nat × Nat × Nat)}(j:eU w2 own' n 133 3 (DN w2 own') c f):dI w2 own' n m { S with levels:=f }:=by
 obtain⟨k,l,p⟩:=h.syms;obtain⟨q,r,s⟩:=h.terms;obtain⟨t,u,x⟩:=h.held;obtain⟨y,g,e⟩:=h.levels;obtain rfl:v=y:=an1;obtain⟨z,b⟩:=h.obj;exact⟨alY,a.type z _ b,λo=>(a.frozen o).trans (h.fr o),⟨k,(a.cells 0 aR).trans l,mE mD d a b e p aY aY⟩,⟨q,(a.cells 1 aR).trans r,mE sS d a b e s aY aY⟩,⟨t,(a.cells 2 aR).trans u,mE qV d a b e x aY aY⟩,⟨c,a.cell,j⟩⟩
def DJ (own:Own)(v:Value)(k:Nat):Own:=λb=>if v.ownBlock=some b then k else own b
theorem lJ {own:Own}{f:Nat}{e:TypeId}{sz n:Nat}{v':Value}{ys:List Value}(q:eD own w)(r:own k=m)(s:k<w.heap.size)(c:dB w W)(t:w.cell? (dA k f)=some v)(d:W.ownsRow w.heap.size e sz v' n ys) :
 ky w (W.setCell (dA k f) v') own (DJ own v' m) m k f v v'/\(W.setCell (dA k f) v').ownsRow 0 e sz v' n ys/\∀b,v'.ownBlock=some b->DJ own v' m b=m:=by
 have u:=c.size;have i:∀b,b≠k->(W.setCell (dA k f) v').heap[b]?=W.heap[b]?:=λb a=>aD a;have g:W.heap[k]?=w.heap[k]?:=c.block k s;have j:(W.setCell (dA k f) v').heap.size=W.heap.size:=amn;refine⟨⟨⟨c.os,c.tape,c.output,by rw[j];exact u,?_,?_,?_⟩,?_,?_,?_,?_,?_⟩,?_,?_⟩
 ·intro b a x;rw[i b (λh=>x (by rw[h];exact r))];exact c.block b a
 ·intro b a;unfold DJ;rw[if_neg];intro h;have:=(d.lt b h).1;exact aR
 ·intro b a;rw[j]at a;unfold DJ;rw[if_neg (by intro h;have:=(d.lt b h).2;omega)];exact q b aR
 ·exact aC ((World.cell?_of_block (w:=w) (a:=dA k f) g).trans t)
 ·intro y z;rw[ax (λh=>z amM)];exact World.cell?_of_block (w:=w) (a:=dA k y) g
 ·intro o;rw[World.frozen?_setCell];exact World.frozen?_of_block (w:=w) (a:=dA k o) g
 ·intro b a A _;rw[i b A];exact c.block b a
 ·intro l F h;exact lg (g.trans h)
 ·refine⟨d.1,?_⟩;rcases d.2 with h|⟨p,B,l,C,G,D,E⟩
  ·exact .inl h
  ·exact .inr ⟨p,B,l,C,Nat.zero_le _,by rw[i p aR];exact D,E⟩
 ·intro b a;unfold DJ;rw[if_pos a]
structure BB (w:World)(g o:Nat)(t:Doc.Term):Prop where
 op:w.cell? (dA g o)=some (dw (Doc.eG t.op:Nat))
 sym:w.cell? (dA g (o+1))=some (dw t.sym)
 num:w.cell? (dA g (o+2))=some (dw (Doc.fP t:Nat))
 args:∃av,w.cell? (dA g (o+3))=some av/\eX w av t.args
 sort:w.cell? (dA g (o+4))=some (dw t.sort)
theorem BB.below {o:Nat}{t:Doc.Term}(h:BB w n o t)(a:dB w W):BB W n o t:=by
 have b:=aj h.op;obtain⟨c,d,e⟩:=h.args;exact⟨(a.dL h.op b),(a.dL h.sym b),(a.dL h.num b),⟨c,(a.dL d b),e.below a⟩,(a.dL h.sort b)⟩
def CQ (w:World)(v:Value)(ts:List Doc.Term):Prop:=gu v ts.length (λg i=>∀h:i<ts.length,BB w g (i*5) ts[i])
theorem CQ.below {a:List Doc.Term}(h:CQ w v a)(b:dB w W):CQ W v a:=gu.imp h λ_ _ _ c hi=>(c hi).below b
structure rV (w:World)(sb:Nat)(ss:List Doc.Sym)(ts:List Doc.Term):Prop where
 syms:∃v,w.cell? (dA sb 0)=some v/\Ej w v ss
 terms:∃v,w.cell? (dA sb 1)=some v/\CQ w v ts
theorem rV.below {b:List Doc.Sym}{c:List Doc.Term}(h:rV w n b c)(a:dB w W):rV W n b c:=by
 obtain⟨v,d,e⟩:=h.syms;obtain⟨u,f,g⟩:=h.terms;exact⟨⟨v,(a.eT d),e.below a⟩,⟨u,(a.eT f),g.below a⟩⟩
theorem SG {own:Own}{o:Nat}{t:Doc.Term}(h:tY w own b t)(a:∀j u,j<5->b[j]?=some u->w.cell? (dA n (o+j))=some u):BB w n o t:=by
 obtain⟨c,rfl,d⟩:=h;exact⟨a 0 _ aR rfl,a 1 _ aR rfl,a 2 _ aR rfl,⟨c,a 3 _ aR rfl,d.ints⟩,a 4 _ aR rfl⟩
theorem dI.book {own:Own}{S:Doc.dO}(h:dI w own n m S):rV w m S.syms S.terms:=by
 obtain⟨d,e,f⟩:=h.syms;obtain⟨g,i,j⟩:=h.terms;refine⟨⟨d,e,gu.imp f.sl λk l hi a _=>?_⟩,g,i,gu.imp j.sl λk l hi a _=>?_⟩
 ·obtain⟨o,_,b,c⟩:=a.2 hi;exact Mk b c
 ·obtain⟨o,_,b,c⟩:=a.2 hi;exact SG b c
theorem BV {a:List Doc.Sym}{l:List Doc.Term}(m:rV w n a l):∃c b,w.cell? (dA n 0)=some (.slice c a.length b)/\a.length<=b/\b<=2 ^ 63-1/\
 ∀i (hi:i<a.length),∃g d e,c=some (dA g 0)/\g<w.heap.size/\∀W,dB w W->W.cell? (dA g (i*3))=some (dD a[i].name)/\W.cell? (dA g (i*3+1))=some (.slice d a[i].args.length e)/\W.cell? (dA g (i*3+2))=some (dw a[i].sort)/\eX W (.slice d a[i].args.length e) a[i].args:=by
 obtain⟨x,o,p⟩:=m.syms;obtain⟨c,b,rfl,q,r,s⟩:=p;refine⟨c,b,o,q,by unfold maxLen at r;omega,λi hi=>?_⟩;obtain⟨g,t,u⟩:=s i hi;have f:=u hi;obtain⟨y,v,j⟩:=f.args;obtain⟨d,e,rfl,_⟩:=id j;refine⟨g,d,e,t,aj f.name,λW h=>?_⟩;have k:=f.below h;exact⟨k.name,(h.eT v),k.sort,j.below h⟩
theorem vU {m:List Doc.Sym}{a:List Doc.Term}(o:rV w n m a):∃c b,w.cell? (dA n 1)=some (.slice c a.length b)/\a.length<=b/\b<=2 ^ 63-1/\
 ∀i (hi:i<a.length),∃g d e,c=some (dA g 0)/\g<w.heap.size/\∀W,dB w W->W.cell? (dA g (i*5))=some (dw (Doc.eG a[i].op:Nat))/\W.cell? (dA g (i*5+1))=some (dw a[i].sym)/\W.cell? (dA g (i*5+2))=some (dw (Doc.fP a[i]:Nat))/\W.cell? (dA g (i*5+3))=some (.slice d a[i].args.length e)/\W.cell? (dA g (i*5+4))=some (dw a[i].sort)/\eX W (.slice d a[i].args.length e) a[i].args:=by
 obtain⟨y,p,q⟩:=o.terms;obtain⟨c,b,rfl,r,s,t⟩:=q;refine⟨c,b,p,r,by unfold maxLen at s;omega,λi hi=>?_⟩;obtain⟨g,u,v⟩:=t i hi;have h:=v hi;obtain⟨z,x,k⟩:=h.args;obtain⟨d,e,rfl,_⟩:=id k;have l:=aj h.op;refine⟨g,d,e,u,l,λW j=>?_⟩;have f:=h.below j;exact⟨f.op,f.sym,f.num,(j.dL x l),f.sort,k.below j⟩
theorem GJ (f:Nat)(a:List Doc.Sym)(m:List Doc.Term)(x:dN)(w:World)(g:rV w f a m) :
 dH 123 #[dK f 0,dD x] w λn o=>n=dF (dw (placeOf (Doc.gD a x)))/\dB w o:=by
 have y:=gU;obtain⟨z,A,B,C,D,h⟩:=BV g;have p:=dn h;have q:Hid (Doc.gD a x=jw (λs:Doc.Sym=>s.name==x) a 0):=(um _ _).symm;generalize Doc.gD a x=r at *;clear g h;go_enter func123,ntmps123;go_wp2_with fail
 go_loopw [12] (fun i wr=>∃k:Nat,i=dw k/\k<=a.length/\r=jw (fun s:Doc.Sym=>s.name==x) a k/\dB w wr) (fun i _=>a.length-(intOf i).toNat)
 ·exact⟨0,rfl,aR,q.o,af⟩
 case round=>
  obtain⟨k,rfl,E,j,b⟩:=hrel;have c:=dn j;have t:=dn b;clear j
  by_cases d:k<a.length
  ·obtain⟨F,u,v,rfl,G,e⟩:=p.o k d;obtain⟨H,I,J,_⟩:=e wr b;obtain⟨K,L,M,_⟩:=e (wr.alloc (.cells #[eB,dE,dw 0] 197)) (b.fO);have l:Hid (dB w (wr.alloc (.cells #[dD a[k].name,.slice u a[k].args.length v,dw a[k].sort] 197))):=b.fO;clear e b;cases hq:(a[k].name==x)
   ·go_wp2;go_roundw
    ·exact⟨k+1,bL,aR,by rw[c.o];exact uq d hq,l.o⟩
    ·exact aph
   ·go_wp2;go_ret;exact⟨fM (by rw[c.o,wM (p:=λs:Doc.Sym=>s.name==x) d hq];rfl),l.o⟩
  ·clear b;go_wp2;go_ret;exact⟨fM (by rw[c.o,wN aR];rfl),t.o⟩
theorem xY (h:Nat)(a:List Doc.Sym)(m:List Doc.Term)(i:Nat)(w:World)(j:rV w h a m)(hi:i<a.length) :
 ∃b c,eX w (.slice b a[i].args.length c) a[i].args/\∀W,dB w W->dH 133 #[dK h 0,dw i] W λn o=>n=dF (.agg #[dD a[i].name,.slice b a[i].args.length c,dw a[i].sort])/\dB W o:=by
 obtain⟨q,r,e,s,t,k⟩:=BV j;obtain⟨u,b,c,rfl,l,f⟩:=k i hi;refine⟨b,c,(f w af).2.2.2,λW d=>?_⟩;obtain⟨v,x,y,_⟩:=f (W.alloc (.cells #[eB,dE,dw 0] 197)) (d.fO);have g:=aj e;have z:=d.dL e g;have A:=Nat.lt_of_lt_of_le g d.size;have B:=Nat.lt_of_lt_of_le l d.size;have p:Hid (dB W (W.alloc (.cells #[dD a[i].name,.slice b a[i].args.length c,dw a[i].sort] 197))):=ai;clear k f j g d e l;go_enter func133,ntmps133;go_wp2;exact dR (.agg #[dD a[i].name,.slice b a[i].args.length c,dw a[i].sort]) (by simp[results,results133,go_sem]) rfl ⟨rfl,p.o⟩
theorem tC (h:Nat)(m:List Doc.Sym)(a:List Doc.Term)(i:Nat)(w:World)(j:rV w h m a)(hi:i<a.length) :
 ∃b c,eX w (.slice b a[i].args.length c) a[i].args/\∀W,dB w W->dH 179 #[dK h 0,dw i] W λn o=>n=dF (.agg #[dw (Doc.eG a[i].op:Nat),dw a[i].sym,dw (Doc.fP a[i]:Nat),.slice b a[i].args.length c,dw a[i].sort])/\dB W o:=by
 obtain⟨q,r,e,s,t,k⟩:=vU j;obtain⟨u,b,c,rfl,l,f⟩:=k i hi;refine⟨b,c,(f w af).2.2.2.2.2,λW d=>?_⟩;obtain⟨v,x,y,z,A,_⟩:=f (W.alloc (.cells #[dw 0,dw 0,dw 0,dE,dw 0] 226)) (d.fO);have g:=aj e;have B:=d.dL e g;have C:=Nat.lt_of_lt_of_le g d.size;have D:=Nat.lt_of_lt_of_le l d.size;have p:Hid (dB W (W.alloc (.cells #[dw (Doc.eG a[i].op:Nat),dw a[i].sym,dw (Doc.fP a[i]:Nat),.slice b a[i].args.length c,dw a[i].sort] 226))):=ai;clear k f j g d e l;go_enter func179,ntmps179;go_wp2;exact dR (.agg #[dw (Doc.eG a[i].op:Nat),dw a[i].sym,dw (Doc.fP a[i]:Nat),.slice b a[i].args.length c,dw a[i].sort]) (by simp[results,results179,go_sem]) rfl ⟨rfl,p.o⟩
theorem Gz (x:dN)(w:World):dH 125 #[dD x] w λe d=>e=dF (dw (Doc.gJ x:Nat))/\d=w:=by
 have g:=gU
 by_cases a:x=Doc.zz
 ·subst a;exact aqB
 ·by_cases b:x=Doc.Dv
  ·subst b;exact aqB
  ·by_cases c:x=Doc.wU
   ·subst c;exact aqB
   ·have h:(x==[66,111,111,108])=false:=ak a;have i:(x==[73,110,116])=false:=ak b;have j:(x==[85])=false:=ak c;have f:Hid (Doc.gJ x=0):=by show Doc.gJ x=0;unfold Doc.gJ;rw[if_neg a,if_neg b,if_neg c]
    clear a b c;go_enter func125,ntmps125;go_wp2;go_ret;exact⟨fM (by rw[f.o];rfl),rfl⟩
theorem LM (s:Nat)(w:World)(h:s=1\/s=2\/s=3):dH 186 #[dw s] w λe a=>e=dF (dD (Doc.jc s))/\a=w:=by
 rcases h with rfl|rfl|rfl
 all_goals
  go_enter func186,ntmps186;go_wp2;go_ret;exact⟨rfl,rfl⟩
theorem DK (a:List Nat):(a.map (λb:Nat=>[Value.int .i64 (b:Int)])).flatten=ja a:=by
 induction a with
 | nil=>rfl
 | cons b a c=>simp only[List.map_cons,List.flatten_cons,c,ja,List.map_cons];rfl
theorem eX.row (h:eX w v l):Row w 1 v (l.map (λa:Nat=>[Value.int .i64 (a:Int)])):=by
 obtain⟨d,e,rfl,f,g,j⟩:=h;refine⟨d,e,aW,ana,g,?_,λi hi=>?_⟩
 ·intro x k;obtain⟨a,_,rfl⟩:=List.mem_map.1 k;rfl
 ·have b:i<l.length:=di;obtain⟨m,n,o⟩:=j i b;refine⟨m,n,λp q u c=>?_⟩;obtain rfl:p=0:=aR;simp at c;rw[show i*1+0=i by omega,<-c];exact o b
theorem gF (h:eX w (.slice a n m) l):∀i z,l[i]?=some z->∃g,a=some (dA g 0)/\w.cell? (dA g i)=some (dw (z:Nat)):=by
 exact apE
def E5 (w':World)(base:Nat)(xs:List Nat)(e:Ending):Prop:=∃ao cap,e=dF (.slice ao xs.length cap)/\xs.length<=cap/\cap<=2 ^ 63-1/\w'.ownsRow base 3 1 (.slice ao xs.length cap) xs.length (ja xs)
theorem Ir (v:Value)(a:List Nat)(w:World)(h:eX w v a)(c:a.length<=1000000) :
 dH 177 #[v] w λe d=>E5 d w.heap.size a e/\dB w d:=by
 have g:=dn (Di v _ a.length w h.row (by intro x c;obtain⟨i,_,rfl⟩:=List.mem_map.1 c;exact⟨i,rfl⟩) aoy aR);obtain⟨q,r,rfl,s,j,_⟩:=h;unfold maxLen at j;go_enter func177,ntmps177;go_wp2_with fail;refine g.o.mono ?_;rintro e t ⟨⟨u,rfl,b⟩,f⟩;have k:=dn f;rw[List.take_of_length_le aW,DK,List.length_map]at b;obtain⟨l,m,rfl,n,o⟩:=ik b;have p:=dn b;clear b f;go_wp2;go_ret;exact⟨⟨l,m,rfl,n,o,p.o⟩,k.o⟩
def Ck (a1 b1 c1 a2 b2 c2:Nat)(l1 l2:List Nat):Bool:=decide (a1=a2/\b1=b2/\c1=c2/\l1=l2)
theorem XX (c d e v i l m x:Nat)(a b:List Nat)(o p:eu)(q r:Nat)(w:World)(Q:eX w (.slice o a.length q) a)(R:eX w (.slice p b.length r) b) :
 dH 294 #[.agg #[dw c,dw d,dw e,.slice o a.length q,dw v],.agg #[dw i,dw l,dw m,.slice p b.length r,dw x]] w λbg w'=>bg=dF (.bool (Ck c d e i l m a b))/\dB w w':=by
 have S:dB w ((w.alloc (.cells #[dw c,dw d,dw e,.slice o a.length q,dw v] 226)).alloc (.cells #[dw i,dw l,dw m,.slice p b.length r,dw x] 226)):=ai.alloc aW _;have s:=dn S;have T:=dn (λW (f:dB w W)=>gF (Q.below f));have U:=dn (λW (f:dB w W)=>gF (R.below f));obtain⟨ao1,afO,D,k1,m1,j1⟩:=Q;obtain⟨KS,cap2,E,k2,m2,j2⟩:=R;injection D with D _ Ii
 injection E with E _ e2';subst D Ii E e2';unfold maxLen at m1 m2;clear S j1 j2
 have u:Hid (∀z:Bool,(z=true↔c=i/\d=l/\e=m/\a=b)->Ck c d e i l m a b=z):=λz V=>by
  unfold Ck;cases z
  ·exact decide_eq_false (λh=>by have:=V.2 h;cases this)
  ·exact decide_eq_true (V.1 rfl)
 generalize Ck c d e i l m a b=res at *
 by_cases y:c=i
 ·by_cases f:d=l
  ·by_cases F:e=m
   ·subst y f F
    by_cases A:a.length=b.length
    ·have t:((a.length:Int) !=(b.length:Int))=false:=by rw[A];simp
     obtain⟨n,G⟩:=aK a.length;have H:b.length=n:=aR;rw[G]at k1 t s ⊢;rw[H]at k2 t s ⊢;have X:=dn G;have Y:=dn H;clear A G H t;go_enter func294,ntmps294;go_wp2_with fail
     have pM:Hid (∀W,Below (w.heap.size+1+1) ((w.alloc (.cells #[dw c,dw d,dw e,.slice o n q,dw v] 226)).alloc (.cells #[dw c,dw d,dw e,.slice p n r,dw x] 226)) W->W.dQ w.heap.size 3=some (.slice o n q)/\W.dQ (w.heap.size+1) 3=some (.slice p n r)):=λW f=>
      ⟨(f.cell (p:=dA w.heap.size 3) aZ).trans aW,(f.cell (p:=dA (w.heap.size+1) 3) dh).trans aW⟩
     have HTR:Hid (∀W,Below (w.heap.size+1+1) ((w.alloc (.cells #[dw c,dw d,dw e,.slice o n q,dw v] 226)).alloc (.cells #[dw c,dw d,dw e,.slice p n r,dw x] 226)) W->dB w W):=λW f=>s.o.trans (f.mono aR)
     go_loopw [35] (fun I wr=>∃k:Nat,I=dw k/\k<=n/\(∀j,j<k->a[j]?=b[j]?)/\Below (w.heap.size+1+1) ((w.alloc (.cells #[dw c,dw d,dw e,.slice o n q,dw v] 226)).alloc (.cells #[dw c,dw d,dw e,.slice p n r,dw x] 226)) wr) (fun I _=>n-(intOf I).toNat)
     ·exact⟨0,rfl,aR,(by intro j J;omega),af⟩
     case round=>
      obtain⟨k,rfl,hk,Z,B⟩:=hrel;have HS:=dn Z;have qJ:=dn B;have C:=dn (HTR.o wr B);obtain⟨x1,x2⟩:=pM.o wr B;clear Z B
      by_cases hlt:k<n
      ·have y1:k<a.length:=by rw[X.o];exact hlt
       have y2:k<b.length:=by rw[Y.o];exact hlt
       obtain⟨K,L⟩:∃M,a[k]?=some M:=⟨_,aF y1⟩;obtain⟨N,O⟩:∃M,b[k]?=some M:=⟨_,aF y2⟩;obtain⟨g1,rfl,d1⟩:=T.o _ C.o k K L;obtain⟨g2,rfl,d2⟩:=U.o _ C.o k N O;have HZ1:=dn L;have HZ2:=dn O;clear L O y1 y2
       by_cases P:K=N
       ·subst P;go_wp2_with fail;go_quiet (fail);go_wp2;go_roundw
        case rel=>exact⟨k+1,bL,aR,(λj J=>by
         by_cases hjk:j=k
         ·rw[hjk,HZ1.o,HZ2.o]
         ·exact HS.o j aR),below_drewN qJ.o _⟩
        case measure=>exact aph
       ·have tz:((K:Int) !=(N:Int))=true:=aX;have g:=dn (u.o false ⟨λh=>an3,λh=>by have:=HZ1.o;rw[h.2.2.2,HZ2.o]at this;injection this with this;exact absurd this.symm P⟩);clear P;go_wp2_with fail;go_quiet (fail);go_wp2;go_ret;exact⟨dS g.o.symm,below_drewN C.o _⟩
      ·have g:=dn (u.o true ⟨λ_=>⟨trivial,trivial,trivial,List.ext_getElem? (λj=>by
        by_cases J:j<k
        ·exact HS.o j J
        ·rw[List.getElem?_eq_none (by rw[X.o];omega),List.getElem?_eq_none (by rw[Y.o];omega)])⟩,λ_=>rfl⟩)
       go_wp2;go_ret;exact⟨dS g.o.symm,C.o⟩
    ·have t:((a.length:Int) !=(b.length:Int))=true:=aX;have g:=dn (u.o false ⟨λh=>an3,λh=>absurd (congrArg List.length h.2.2.2) A⟩);generalize a.length=n1 at *;generalize b.length=n2 at *;clear A T U;exact ap3
   ·have t:((e:Int) !=(m:Int))=true:=aX;have g:=dn (u.o false ⟨λh=>an3,λh=>absurd h.2.2.1 F⟩);subst y f;clear F;exact ap3
  ·have t:((d:Int) !=(l:Int))=true:=aX;have g:=dn (u.o false ⟨λh=>an3,λh=>absurd h.2.1 f⟩);subst y;clear f;exact ap3
 ·have t:((c:Int) !=(i:Int))=true:=aX;have g:=dn (u.o false ⟨λh=>an3,λh=>absurd h.1 y⟩);clear y;exact ap3
def uh (t u:Doc.Term):Bool:=Ck (Doc.eG t.op) t.sym (Doc.fP t) (Doc.eG u.op) u.sym (Doc.fP u) t.args u.args
theorem Qq (r:Nat)(H:List Doc.Sym)(a:List Doc.Term)(t:Doc.Term)(A:eu)(p:Nat)(w:World)(s:rV w r H a)(v:eX w (.slice A t.args.length p) t.args) :
 dH 291 #[dK r 0,.agg #[dw (Doc.eG t.op:Nat),dw t.sym,dw (Doc.fP t:Nat),.slice A t.args.length p,dw t.sort]] w λI J=>I=dF (dw (placeOf (jw (uh t) a 0)))/\dB w J:=by
 obtain⟨T,U,K,V,X,x⟩:=vU s;have Y:=aj K;have L:=dn x;have M:=dn v;obtain⟨d,e⟩:=aK (jw (uh t) a 0);rw[e];have N:=dn e;have O:Hid (∀u,Ck (Doc.eG t.op) t.sym (Doc.fP t) (Doc.eG u.op) u.sym (Doc.fP u) t.args u.args=uh t u):=λ_=>rfl;have y:dB w (w.alloc (.cells #[dw (Doc.eG t.op:Nat),dw t.sym,dw (Doc.fP t:Nat),.slice A t.args.length p,dw t.sort] 226)):=ai;have P:=dn y
 have f:Hid (∀W,Below (w.heap.size+1) (w.alloc (.cells #[dw (Doc.eG t.op:Nat),dw t.sym,dw (Doc.fP t:Nat),.slice A t.args.length p,dw t.sort] 226)) W->(W.dQ w.heap.size 0=some (dw (Doc.eG t.op:Nat))/\W.dQ w.heap.size 1=some (dw t.sym)/\W.dQ w.heap.size 2=some (dw (Doc.fP t:Nat))/\W.dQ w.heap.size 3=some (.slice A t.args.length p)/\W.dQ w.heap.size 4=some (dw t.sort))/\dB w W/\w.heap.size+1<=W.heap.size):=λW h=>
  ⟨⟨(h.cell (p:=dA w.heap.size 0) (Nat.lt_succ_self _)).trans aW,(h.cell (p:=dA w.heap.size 1) (Nat.lt_succ_self _)).trans aW,(h.cell (p:=dA w.heap.size 2) (Nat.lt_succ_self _)).trans aW,(h.cell (p:=dA w.heap.size 3) (Nat.lt_succ_self _)).trans aW,(h.cell (p:=dA w.heap.size 4) (Nat.lt_succ_self _)).trans aW⟩,P.o.trans (h.mono aR),by have:=h.size;simpa using this⟩
 clear s x v y e;generalize Doc.eG t.op=g at *;generalize Doc.fP t=i at *;go_enter func291,ntmps291;go_wp2_with fail
 go_loopw [12] (fun j wr=>∃k:Nat,j=dw k/\k<=a.length/\jw (uh t) a k=d/\Below (w.heap.size+1) (w.alloc (.cells #[dw (g:Nat),dw t.sym,dw (i:Nat),.slice A t.args.length p,dw t.sort] 226)) wr) (fun j _=>a.length-(intOf j).toNat)
 ·exact⟨0,rfl,aR,N.o,af⟩
 case round=>
  obtain⟨k,rfl,Z,z,l⟩:=hrel;have m:=dn z;have Q:=dn l;obtain⟨⟨b0,b1,b2,b3,b4⟩,B,R⟩:=f.o wr l;have b:=dn B;clear z l B
  by_cases n:k<a.length
  ·obtain⟨bg,o,q,rfl,hgl,c⟩:=L.o k n;obtain⟨q0,q1,q2,q3,q4,_⟩:=c wr b.o;obtain⟨r0,r1,r2,r3,r4,_⟩:=c (wr.alloc (.cells #[dw 0,dw 0,dw 0,dE,dw 0] 226)) (b.o.fO);have C:Hid (dB w (wr.alloc (.cells #[dw (Doc.eG a[k].op:Nat),dw a[k].sym,dw (Doc.fP a[k]:Nat),.slice o a[k].args.length q,dw a[k].sort] 226))):=b.o.fO;have D:=dn (XX g t.sym i t.sort (Doc.eG a[k].op) a[k].sym (Doc.fP a[k]) a[k].sort t.args a[k].args A o p q _ (M.o.below C.o) (c _ C.o).2.2.2.2.2);rw[O.o]at D;have E:Hid (∀W,Below (wr.heap.size+1) (wr.alloc (.cells #[dw (Doc.eG a[k].op:Nat),dw a[k].sym,dw (Doc.fP a[k]:Nat),.slice o a[k].args.length q,dw a[k].sort] 226)) W->Below (w.heap.size+1) (w.alloc (.cells #[dw (g:Nat),dw t.sym,dw (i:Nat),.slice A t.args.length p,dw t.sort] 226)) W):=λW h=>(Q.o.alloc R _).trans (h.mono aR);obtain⟨⟨x0,x1,x2,x3,x4⟩,_,_⟩:=f.o _ (E.o _ af);have WZ:w.heap.size<wr.heap.size:=aR;clear c;go_wp2_with fail;refine D.o.dX λS F=>?_;have G:=dn (E.o S (F.mono aW));clear F;cases hq:uh t a[k]
   ·go_wp2;go_roundw
    ·exact⟨k+1,bL,aR,by rw[<-m.o];exact(uq n hq).symm,G.o⟩
    ·exact aph
   ·go_wp2;go_ret;exact⟨fM (by rw[<-m.o,wM (p:=uh t) n hq];rfl),(f.o _ G.o).2.1⟩
  ·go_wp2;go_ret;exact⟨fM (by rw[<-m.o,wN aR];rfl),b.o⟩
theorem find_congr {b:Type}{p q:b->Bool}:∀(l:List b),(∀a∈l,p a=q a)->l.findIdx? p=l.findIdx? q:=by
 intro l
 induction l with
 | nil=>intro _;rfl
 | cons a l c=>
  intro h;rw[List.findIdx?_cons,List.findIdx?_cons,h a List.mem_cons_self,c (λd e=>h d (List.mem_cons_of_mem _ e))]
theorem WO {b:List Doc.Sym}{a:List Doc.Term}{t:Doc.Term}(c:Doc.iB b a)(d:Doc.rU b a a.length t):Doc.place a t.text=jw (uh t) a 0:=by
 rw[um];refine find_congr a (λu f=>?_);have h:=Doc.UG c d f;unfold Doc.Alike at h;unfold uh Ck
 by_cases e:t.text=u.text
 ·rw[decide_eq_true (h.1 e)];exact anm
 ·rw[decide_eq_false (λx=>e (h.2 x))];simp;exact λx=>e x.symm
def Em (w w':World)(own:Own)(k sb:Nat)(S:Doc.dO)(R:Except Nat (List Doc.Term × Nat))(e:Ending):Prop:=
 ∃own',Fr own own' k w w'/\match R with
  | .ok r=>e=dF (dw r.2)/\dI w' own' k sb { S with terms:=r.1 }
  | .error _=>e=dF (dw (-1))/\dI w' own' k sb S
def oD (t:Doc.Term)(po pn:Nat)(av:Value):List Value:=[dw (po:Int),dw t.sym,dw (pn:Int),av,dw t.sort]
theorem Ql (w:World)(t:Doc.Term)(a b:Nat)(c:eu)(m d:Nat)(e:TypeId)(n:Nat)(f:n=w.heap.size):∀j u,(oD t a b (.slice c m d))[j]?=some u->((w.alloc (.cells #[dw (a:Int),dw t.sym,dw (b:Int),.slice c m d,dw t.sort] e)).drew).cell? (((dA n 0):Addr).add j)=some u:=by
 subst f;exact λj u h=>oW w (oD t a b (.slice c m d)) e j u h
theorem Wh (t:Doc.Term)(b c:Nat)(d:eu)(m e:Nat):∀u∈oD t b c (.slice d m e),u.oneCell'=true:=by
 intro u a;simp only[oD,List.mem_cons,List.not_mem_nil,or_false]at a;rcases a with rfl|rfl|rfl|rfl|rfl<;>rfl
structure ad5 (w:World)(own:Own)(wx:World)(t:Doc.Term)(po pn:Nat)(ao:eu)(cap:Nat):Prop where
 ek:dB w wx
 c0:wx.cell? (dA w.heap.size 0)=some (dw (po:Int))
 c1:wx.cell? (dA w.heap.size 1)=some (dw t.sym)
 c2:wx.cell? (dA w.heap.size 2)=some (dw (pn:Int))
 c3:wx.cell? (dA w.heap.size 3)=some (.slice ao t.args.length cap)
 c4:wx.cell? (dA w.heap.size 4)=some (dw t.sort)
 lt:w.heap.size<wx.heap.size
 ro:fG wx own (.slice ao t.args.length cap) t.args
theorem Ba {own:Own}(h:w.ownsRow n 3 1 v l.length (ja l))(c:∀b,n<=b->own b=0):fG w own v l:=by
 rw[<-DK]at h;refine gu.imp (yj h aW (by intro x d;obtain⟨e,_,rfl⟩:=List.mem_map.1 d;rfl)) λg i hi a=>⟨c g a.1,λhi=>?_⟩;have:=a.2 di 0 aR (dw (l[i]:Int)) aW;rw[show i*1+0=i by omega]at this;exact this
theorem abw (a k:Nat)(own:Own)(S:Doc.dO)(t:Doc.Term)(A:eu)(p:Nat)(w:World)(G:dI w own k a S)(hfr:eD own w)(hk:k≠0)(P:Doc.iB S.syms S.terms)(ht:Doc.rU S.syms S.terms S.terms.length t)(H:eX w (.slice A t.args.length p) t.args)(hlen:t.args.length<=1000) :
 dH 275 #[dK a 0,.agg #[dw (Doc.eG t.op:Nat),dw t.sym,dw (Doc.fP t:Nat),.slice A t.args.length p,dw t.sort]] w λn w'=>Em w w' own k a S (Doc.note S.terms t) n:=by
 obtain⟨i0,hi,hz0,hz1,hz2⟩:=info_parts IB;have hn:=P.many
 have acI:Hid (Doc.note S.terms t=match jw (uh t) S.terms 0 with|some k=>.ok (S.terms,k)|none=>if S.terms.length=80 then .error 9 else .ok (S.terms++[t],S.terms.length)):=by
  show _=_;unfold Doc.note;rw[WO P ht];cases jw (uh t) S.terms 0<;>rfl
 have I:dB w (w.alloc (.cells #[dw (Doc.eG t.op:Nat),dw t.sym,dw (Doc.fP t:Nat),.slice A t.args.length p,dw t.sort] 226)):=ai;have i:=dn (Qq a S.syms S.terms t A p _ (G.book.below I) (H.below I));have J:=dn G;have z:=dn hfr;have Q:=dn I;have YJ:=dn H;have HPC:Hid (∀W T (K:Value),fG W T K t.args->tY W T (oD t (Doc.eG t.op) (Doc.fP t) K) t):=λW T K h=>⟨K,rfl,h⟩;have U:=G.lt;obtain⟨ao',cap',V,k1,k2,_⟩:=id H;injection V with V _ Ii
 subst V Ii;unfold maxLen at k2;generalize Doc.note S.terms t=R at *;generalize Doc.eG t.op=B at *;generalize Doc.fP t=C at *;clear G hfr I H P ht;cases hp:jw (uh t) S.terms 0 with
 | some X=>
  have HRR:R=.ok (S.terms,X):=by have h:=acI.o;rw[hp]at h;exact h
  have D:=dn HRR;rw[hp]at i;clear hp HRR;have Y:Hid (placeOf (some X)=(X:Int)):=rfl;rw[Y.o]at i;go_enter func275,ntmps275;go_wp2_with fail;refine i.o.dX λb c=>?_;have e:Hid (dB w b):=Q.o.trans (c.mono aW);exact aq4
 | none=>
  have HR1:Hid (R=if S.terms.length=80 then .error 9 else .ok (S.terms++[t],S.terms.length)):=by have h:=acI.o;rw[hp]at h;exact h
  rw[hp]at i;clear hp;have Y:Hid (placeOf none=-1):=rfl;rw[Y.o]at i;obtain⟨vT,o,l⟩:=J.o.terms;obtain⟨q,r,rfl,hcap,hmax⟩:=l.form;have Z:=dn o;clear l o
  by_cases L:S.terms.length=80
  ·have o80:(80:Int)<=(S.terms.length:Int):=aR;have D:Hid (R=.error 9):=by show _=_;rw[HR1.o,if_pos L]
   clear L;go_enter func275,ntmps275;go_wp2_with fail;refine i.o.dX λb c=>?_;have e:Hid (dB w b):=Q.o.trans (c.mono aW);have TW:=e.o.dL Z.o U;exact aq4
  ·have o80:(S.terms.length:Int)<80:=aR;have D:Hid (R=.ok (S.terms++[t],S.terms.length)):=by show _=_;rw[HR1.o,if_neg L]
   clear L;go_enter func275,ntmps275;go_wp2_with fail;refine i.o.dX λb c=>?_;have e:Hid (dB w b):=Q.o.trans (c.mono aW);have TW:=e.o.dL Z.o U;have hs1:=c.size;simp only[World.size_alloc]at hs1;have bg:∀j u,(w.alloc (.cells #[dw (B:Nat),dw t.sym,dw (C:Nat),.slice A t.args.length p,dw t.sort] 226)).cell? (dA w.heap.size j)=some u->b.cell? (dA w.heap.size j)=some u:=λj u h=>(c.dL h aW);have d3:=bg 3 (.slice A t.args.length p) aW;have HY:=dn bg;have hf1:∀j,b.frozen? (dA w.heap.size j)=false:=λj=>(c.frozen (p:=dA w.heap.size j) aW).trans aW;have Jd:=dn (Ir (.slice A t.args.length p) t.args b (YJ.o.below e.o) aR);clear c bg;go_wp2_with fail;refine Jd.o.mono ?_;rintro n M ⟨⟨f,g,rfl,l1,l2,hown2⟩,s⟩;have hs2:=s.size;have e3:=s.dL d3 aZ;have f3:=s.gq (hf1 3) aZ
   have d:Hid (ad5 w own (M.setCell (dA w.heap.size 3) (.slice f t.args.length g)) t B C f g):=by
    have N:∀j u,3≠j->(w.alloc (.cells #[dw (B:Nat),dw t.sym,dw (C:Nat),.slice A t.args.length p,dw t.sort] 226)).cell? (dA w.heap.size j)=some u->(M.setCell (dA w.heap.size 3) (.slice f t.args.length g)).cell? (dA w.heap.size j)=some u:=λj u hj h=>by
     rw[ax (λh=>hj amM)];exact(s.dL (HY.o j u h) aZ)
    refine⟨(e.o.trans (s.mono aR)).setCell ae _,N 0 _ aR aW,N 1 _ aR aW,N 2 _ aR aW,aC e3,N 4 _ aR aW,by simp[World.setCell];omega,?_⟩;have h3:(M.setCell (dA w.heap.size 3) (.slice f t.args.length g)).ownsRow b.heap.size 3 1 (.slice f t.args.length g) t.args.length (ja t.args):=ownsRow_setCell_below hown2 aZ _;exact Ba h3 (λv E=>z.o v aR)
   clear hown2 s hf1 d3 Jd;go_upto_region 5 with fail;generalize hW:M.setCell (dA w.heap.size 3) (.slice f t.args.length g)=m at *;have x:=J.o.below d.o.ek;have JA:eD own m:=λv E=>z.o v (Nat.le_trans d.o.ek.size E);obtain⟨vT,o,l⟩:=x.terms
   obtain rfl:Value.slice q S.terms.length r=vT:=by
    have:=d.o.ek.dL Z.o U;rw[o]at this;injection this with this
    exact this.symm
   have hlt3:=x.lt;have b0:=d.o.c0;have b1:=d.o.c1;have b2:=d.o.c2;have b3:=d.o.c3;have b4:=d.o.c4;have blt:=d.o.lt;obtain⟨O,x1,x2,x3,x4⟩:=id l;have uE:=dn x1;have vC:=x.fr
   have mP:Hid ((Value.slice q S.terms.length r).ownBlock≠some a):=by
    intro h;obtain⟨_,_,c1,hc1⟩:=l.type a h;obtain⟨c2,hc2⟩:=x.obj;exact iH hc1 hc2 aY rfl
   have HX:=dn (show iw (tY m own) O S.terms/\(∀bq∈O,bq.length=5) from⟨x2,x3⟩);have Ab:=dn l;have mO:=dn x;have abR:=dn JA;have PN:=dn o;clear x1 x2 x3 x4 l x JA TW hW e3 f3;go_cut [] (fun wy=>∃bn cap y,ky m wy own y k a 1 (.slice q S.terms.length r) (dJ bn (S.terms.length+1) cap)/\wy.ownsRow 0 226 5 (dJ bn (S.terms.length+1) cap) (S.terms.length+1) (O.flatten++oD t B C (.slice f t.args.length g))/\y bn=k)
   case first=>
    go_region_law (refine jC rfl (.tmp 28) (.tmp 30) 56 rfl 0 226 i0 (.agg #[dw 0,dw 0,dw 0,dE,dw 0]) 5 56 underlying56 hi hz0 hz1 hz2 rfl aY (.slice q S.terms.length r) S.terms.length O.flatten cO amO (dA m.heap.size 0) 1 (oD t B C (.slice f t.args.length g)) cO rfl (by exact Ql _ t _ _ _ _ _ _ _ aW) (Wh _ _ _ _ _ _) bz aR aW ?_;intro ga fD b hown' hgrow hg1 hg2;have q1:b.cell? (dA a 1)=some (.slice q S.terms.length r):=((eY hgrow (a:=dA a 1) aX (fun n=>mP.o n.symm)).trans (dV _ _ (dA a 1) aX)).trans o;have q2:b.frozen? (dA a 1)=false:=((fo hgrow (a:=dA a 1) aX (fun n=>mP.o n.symm)).trans (eF _ _ (dA a 1) aX)).trans (vC 1))
    all_goals
     have hap:=qF (n:=S.terms.length+1) Ab.o abR.o mO.o.mine mO.o.lt mP.o (ai.drew) PN.o hown' hgrow hg2;go_wp2;go_meet
     ·exact⟨ga,fD,_,hap.1,hap.2.1,amQ⟩
   case rest=>
    obtain⟨ga,fD,y,hst,hown3,uk⟩:=hcut;have hcell:=hst.cell;have F:=dn hst;have HOWN:=dn hown3;have xD:=dn uk;clear hst hown3 uk vC b0 b1 b2 b3 b4;go_wp2;go_ret;rw[D.o];have hro:fG wc y (.slice f t.args.length g) t.args:=d.o.ro.fr F.o.fr hk;refine⟨y,(Fr.of_below k z.o d.o.ek).trans F.o.fr,?_,mO.o.sD PN.o F.o hk ?_⟩
    ·first|rfl|exact fM aW
    ·exact eU.snoc (w:=m) (C:=tY m own) (v:=.slice q S.terms.length r) ⟨uE.o,HX.o.1,HX.o.2⟩ HOWN.o (λbA bB h=>sS m wc own y (λv E h0=>⟨F.o.fr.block v E aR,by rw[F.o.fr.ext v E,h0]⟩) bA bB h) (HPC.o _ _ _ hro) rfl xD.o
def nP (w w':World)(own:Own)(k sb:Nat)(S:Doc.dO):Prop:=∃own',Fr own own' k w w'/\dI w' own' k sb S
theorem nP.lift {own:Own}{S:Doc.dO}(a:eD own w)(b:dB w W)(h:nP W u own n m S):nP w u own n m S:=by
 obtain⟨c,d,e⟩:=h;exact⟨c,(Fr.of_below n a b).trans d,e⟩
theorem nP.same {own:Own}{S:Doc.dO}(h:dI w own n m S)(b:eD own w)(a:dB w W):nP w W own n m S:=⟨own,Fr.of_below n b a,h.below a⟩
theorem wV {a:Type}{own:Own}{S:Doc.dO}{C:List Value->a->Prop}{b:List a}(c:dI w own n m S)(h:eU w own n e k C v b)(d:e≠62):v.ownBlock≠some m:=by
 intro f;obtain⟨_,_,j,g⟩:=h.type m f;obtain⟨l,i⟩:=c.obj;exact iH g i d rfl
theorem Vm (a k n:Nat)(own:Own)(S:Doc.dO)(w:World)(b:dI w own k a S)(h:eD own w)(C:k≠0) :
 dH 180 #[dK a 0,dw n] w λe D=>e=dF (.bool (decide (S.held.length<12)))/\nP w D own k a (if S.held.length<12 then { S with held:=S.held++[n] } else S):=by
 obtain⟨E,hi,F,G,H⟩:=info_parts nk;obtain⟨Q,o,c⟩:=b.held;obtain⟨i,j,rfl,R,T⟩:=c.form;have p:=b.lt;have d:=dn b;have q:=dn h;have I:=dn c
 by_cases f:S.held.length<12
 ·rw[if_pos f,decide_eq_true f];obtain⟨l,r,s,t,J⟩:=id c;have u:=dn r;have v:=dn (show iw (Al w own) l S.held/\(∀K∈l,K.length=1) from⟨s,t⟩);have m:=dn (wV b c aY);have L:=b.fr 2;have x:=dn o;clear r s t J c b h;go_enter func180,ntmps180;go_wp2_with (at_builtin;refine dU rfl (.tmp 15) (.tmp 17) 57 rfl 0 3 E (dw 0) 1 8 underlying57 hi F G H rfl aY (.slice i S.held.length j) S.held.length l.flatten rfl (by exact u.o.alloc _) (dA w.heap.size 0) 1 [dw (n:Int)] rfl rfl bP bX bz aR aW ?_;intro U V y z g M A;have W:y.cell? (dA a 2)=some (.slice i S.held.length j):=((eY g (a:=dA a 2) aX (λe=>m.o e.symm)).trans (((Below.refl w.heap.size w).alloc ae _).cell (p:=dA a 2) p)).trans o;have X:y.frozen? (dA a 2)=false:=((fo g (a:=dA a 2) aX (λe=>m.o e.symm)).trans (((Below.refl w.heap.size w).alloc ae _).frozen (p:=dA a 2) p)).trans L);have N:=dn (qF (n:=S.held.length+1) I.o q.o d.o.mine d.o.lt m.o ((Below.refl w.heap.size w).alloc ae _) x.o z g A);clear z g M A;go_wp2;go_ret;obtain⟨B,O,_⟩:=N.o;refine⟨rfl,_,B.fr,d.o.vk x.o B C ?_⟩;exact eU.snoc (w:=w) (C:=Al w own) (v:=.slice i S.held.length j) ⟨u.o,v.o.1,v.o.2⟩ O (λY Z P=>P) rfl rfl amQ
 ·rw[if_neg f,decide_eq_false f];clear c b h;go_enter func180,ntmps180;go_wp2;go_ret;exact⟨rfl,nP.same d.o q.o af⟩
theorem eU.first {d:Type}{C D:List Value->d->Prop}{b:List d}{a:List (List Value)}(j:(a.take k).length=i)(c:iw C a b/\(∀x∈a,x.length=m))(l:w.ownsRow 0 e m v i (a.take k).flatten)(p:∀f g,C f g->D f g)(q:∀h,v.ownBlock=some h->o h=n):eU w o n e m D v (b.take k):=by
 have r:=c.1.len;subst j;refine⟨a.take k,?_,(c.1.imp p).take k,λx s=>c.2 x (List.take_subset _ _ s),q⟩;rw[show(b.take k).length=(a.take k).length by simp[r]];exact l
theorem CO {b c:Type}{C:b->c->Prop}{P:b->Prop}{d:List b}{f:List c}(h:iw C d f)(g:∀e i,C e i->P e):∀x∈d,P x:=by
 induction h with
 | nil=>intro x a;cases a
 | cons j _ k=>
  intro x a;rcases List.mem_cons.1 a with rfl|a
  ·exact g _ _ j
  ·exact k x a
theorem Qk {own:Own}{t:Doc.Term}(h:tY w own b t):∃(d e f:Nat) (a:eu) (l c s:Nat),b=[dw (d:Int),dw (e:Int),dw (f:Int),.slice a l c,dw (s:Int)]:=by
 obtain⟨g,rfl,a,c,rfl,_⟩:=h;exact⟨_,_,_,a,_,c,_,rfl⟩
theorem VK {own:Own}{t:Doc.Sym}(h:yE w own b t):∃(y:dN) (a:eu) (l c s:Nat),b=[dD y,.slice a l c,dw (s:Int)]:=by
 obtain⟨d,rfl,a,c,rfl,_⟩:=h;exact⟨_,a,_,c,_,rfl⟩
theorem Dl (g k n:Nat)(own:Own)(S:Doc.dO)(w:World)(a:dI w own k g S)(p:eD own w)(A:k≠0)(R:n<=1000000)(T:S.terms.length<=2 ^ 63-1) :
 dH 128 #[dK g 0,dw n] w λq B=>q=dF (dM #[])/\nP w B own k g { S with terms:=S.terms.take n }:=by
 obtain⟨U,r,h⟩:=a.terms;obtain⟨C,D,rfl,V,W⟩:=h.form;have s:=a.lt;have i:=dn a;have E:=dn p;obtain⟨b,t,c,j,F⟩:=id h;have u:=c.len;have G:=dn (JG (.slice C S.terms.length D) b n w (Row.fq t u.symm j) (CO c (λv l m=>Qk m)) aR aR);have H:=dn (show iw (tY w own) b S.terms/\(∀I∈b,I.length=5) from⟨c,j⟩);have J:=a.fr 1;have x:=dn r;clear t c j F h a p u;go_enter func128,ntmps128;go_wp2_with fail;refine G.o.mono ?_;rintro q X ⟨⟨Y,rfl,d⟩,e⟩;obtain⟨y,o⟩:=aK ((b.take n).length);rw[o]at d;obtain⟨Z,afM,rfl,_,_⟩:=ik d;have K:=dn o;have L:=dn d;have M:=dn e;have q1:=e.dL r s;have q2:=e.gq J s;clear d e o;go_wp2;go_end0;obtain⟨f,N,O⟩:=lJ (f:=1) E.o i.o.mine i.o.lt M.o x.o L.o;refine⟨rfl,_,f.fr,i.o.sD x.o f A ?_⟩;exact eU.first K.o H.o N (λP v m=>sS _ _ _ _ (λl z Q=>⟨f.fr.block l z aR,by rw[f.fr.ext l z,Q]⟩) P v m) O
