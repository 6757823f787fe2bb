import Derived.Test.YtbichedkajfmiaaGreatDoorGDoc8
import Derived.Test.YtbichedkajfmiaaGreatDoorGPL0
import Derived.Test.YtbichedkajfmiaaGreatDoorC
set_option maxRecDepth 100000
set_option maxHeartbeats 16000000
namespace Go.Proofs.YtbichedkajfmiaaGreatDoor
open Go.RowKit
variable {E e:TypeId}{O o:Own}{V v y:Value}{W w:World}{a:Option Addr}{b:List Value}{i j k m n:Nat}{l:List Nat}
theorem Tryz.GZ:(Tryz.prog.info? 238).map (fun i=>(i.zero,i.size,i.bytes))=some (some (.agg #[.int .i64 0,.int .i64 0,.int .i64 0,.slice none 0 0,.int .i64 0]),5,56):=bL
theorem Tryz.Kn:(Tryz.prog.info? 196).map (fun i=>(i.zero,i.size,i.bytes))=some (some (.agg #[.string ⟨#[]⟩,.slice none 0 0,.int .i64 0]),3,48):=bL
theorem Tryz.Ko:(Tryz.prog.info? 133).map (fun i=>(i.zero,i.size,i.bytes))=some (some (.agg #[.int .i64 0,.int .i64 0,.int .i64 0]),3,24):=bL
def oI (w':World)(base:Nat)(ty:TypeId)(sz:Nat)(xs:List (List Value))(e:Ending):Prop:=∃u,e=.returned u/\w'.ownsRow base ty sz u xs.length xs.flatten
theorem Rn {b:Type}{a:List b}(h:n<a.length):a.take (n+1)=a.take n++[a[n]]:=by
 rw[List.take_add_one,aD h];rfl
theorem wY {a:List (List Value)}(h:n<a.length):(a.take (n+1)).flatten=(a.take n).flatten++a[n]:=by
 rw[Rn h,List.flatten_append];exact aP
theorem take_same {a:Type}{xs:List a}{m n:Nat}(b:m<=xs.length)(c:m<=n)(d:¬(m<n/\m<xs.length)):xs.take m=xs.take n/\m=(xs.take n).length:=by
 by_cases h:n<=xs.length
 ·have:m=n:=aO;subst this;exact⟨rfl,aQ⟩
 ·rw[List.take_of_length_le aO,List.take_of_length_le aO];exact⟨rfl,aO⟩
theorem Ay (v:Value)(a:List (List Value))(n:Nat)(w:World)(A:Row w 1 v a)(q:∀x∈a,∃b:Nat,x=[.int .i64 (b:Int)])(e:a.length<=2 ^ 63-1)(hn:n<=1000000000) :
 Calls Tryz.prog 180 #[v,.int .i64 n] w fun B r=>oI r w.heap.size 3 1 (a.take n) B/\Below w.heap.size w r:=by
 obtain⟨C,D,E,F,G⟩:=info_parts Tryz.mI;obtain⟨ao,cap,rfl,H,I,s,t⟩:=A;unfold maxLen at I;have J:=di t;have K:=di q;have H3:=di s;clear t q s;obtain⟨L,f⟩:=aJ a.length;rw[f]at H e ⊢;have g:=di f;clear f;go_enter Tryz.func180,Tryz.ntmps180;go_wp2_with fail
 go_loopw [5,6] (fun M h wr=>∃(m:Nat),h=.int .i64 (m:Nat)/\m<=L/\m<=n/\wr.ownsRow w.heap.size 3 1 M m (a.take m).flatten/\Below w.heap.size w wr) (fun _ h _=>L-(intOf h).toNat)
 case atStart=>exact⟨0,rfl,aO,aO,World.ownsRow_nil _ _ _ _,af⟩
 case round=>
  obtain⟨m,rfl,N,O,i,c⟩:=hrel;have j:=di i;have u:=di c;obtain⟨P,Q,rfl,hv1,hv2⟩:=fM i;have R:=c.size;clear i
  by_cases k:m<n/\m<L
  ·obtain⟨hlt1,S⟩:=k;have l:m<a.length:=by rw[g.o];exact S
   obtain⟨b,d⟩:=K.o a[m] aP;obtain⟨T,rfl,o⟩:=J.o m l;have U:=(c.cell (p:=⟨T,m*1+0,none⟩) (ai (o 0 aO (.int .i64 (b:Int)) aiL))).trans (o 0 aO (.int .i64 (b:Int)) aiL);rw[show m*1+0=m by omega]at U
   have V:Hid ((a.take (m+1)).flatten=(a.take m).flatten++[.int .i64 (b:Int)]):=by
    show _=_;rw[wY l,d]
   clear o d c l;go_wp2_with (at_builtin;refine dD rfl (.tmp 18) (.tmp 23) 57 rfl w.heap.size 3 C (.int .i64 0) 1 8 Tryz.underlying57 D E F G rfl aR (.slice P m Q) m (a.take m).flatten rfl (by exact j.o.alloc _) ⟨wr.heap.size,0,none⟩ 1 [.int .i64 (b:Int)] rfl rfl bM bX aX aO aQ ?_;intro W X p y z Y Z;have HB3:Hid (Below w.heap.size w p):=(u.o.alloc R _).grown z aQ (fun x e=>(j.o.lt x e).1))
   have qw:Hid (p.ownsRow w.heap.size 3 1 (.slice (some ⟨W,0,none⟩) (m+1) X) (m+1) (a.take (m+1)).flatten):=by
    show p.ownsRow _ _ _ _ _ _;rw[V.o];exact y
   clear y z Y Z;exact alo
  ·have HE:=di (take_same (xs:=a) (m:=m) (n:=n) (by rw[g.o];exact N) O (by rw[g.o];exact k));have hcase:n<=m\/(m<n/\L<=m):=aO;clear k;rcases hcase with bg|⟨bg,h'⟩<;>
   ·go_wp2_with fail;go_ret;exact⟨⟨_,rfl,by obtain⟨e1,e2⟩:=HE.o;rw[<-e2,<-e1];exact j.o⟩,u.o⟩
theorem qa (w:World)(a:List Value)(b:TypeId):∀j u,a[j]?=some u->(w.alloc (.cells a.toArray b)).cell? ((⟨w.heap.size,0,none⟩:Addr).add j)=some u:=by
 intro j u h;have c:=heap_alloc_new w (.cells a.toArray b);have e:(⟨w.heap.size,0,none⟩:Addr).add j=⟨w.heap.size,j,none⟩:=ajT;rw[e,cell_of_row _ w.heap.size j a.toArray b (0,0) c];exact ajq
theorem FZ (z:Value)(a:List (List Value))(n:Nat)(w:World)(I:Row w 5 z a)(A:∀x∈a,∃(e f g:Nat) (h:Option Addr) (l i s:Nat),x=[.int .i64 (e:Int),.int .i64 (f:Int),.int .i64 (g:Int),.slice h l i,.int .i64 (s:Int)])(k:a.length<=2 ^ 63-1)(hn:n<=1000000000) :
 Calls Tryz.prog 176 #[z,.int .i64 n] w fun J B=>oI B w.heap.size 238 5 (a.take n) J/\Below w.heap.size w B:=by
 obtain⟨K,M,N,O,P⟩:=info_parts Tryz.GZ;obtain⟨ao,cap,rfl,Q,R,C,D⟩:=I;unfold maxLen at R;have S:=di D;have T:=di A;have H3:=di C;clear D A C;obtain⟨L,o⟩:=aJ a.length;rw[o]at Q k ⊢;have p:=di o;clear o;go_enter Tryz.func176,Tryz.ntmps176;go_wp2_with fail
 go_loopw [5,6] (fun s q wr=>∃(m:Nat),q=.int .i64 (m:Nat)/\m<=L/\m<=n/\wr.ownsRow w.heap.size 238 5 s m (a.take m).flatten/\Below w.heap.size w wr) (fun _ q _=>L-(intOf q).toNat)
 case atStart=>exact⟨0,rfl,aO,aO,World.ownsRow_nil _ _ _ _,af⟩
 case round=>
  obtain⟨m,rfl,U,V,r,d⟩:=hrel;have t:=di r;have E:=di d;obtain⟨W,X,rfl,hv1,hv2⟩:=fM r;have Y:=d.size;clear r
  by_cases u:m<n/\m<L
  ·obtain⟨hlt1,Z⟩:=u;have v:m<a.length:=by rw[p.o];exact Z
   obtain⟨e,f,g,h,l,i,s,b⟩:=T.o a[m] aP;obtain⟨j,rfl,c⟩:=S.o m v;have c0:=(d.cell (p:=⟨j,m*5+0,none⟩) (ai (c 0 aO (.int .i64 (e:Int)) cO))).trans (c 0 aO (.int .i64 (e:Int)) cO);rw[show m*5+0=m*5 by omega]at c0;have c1:=(d.cell (p:=⟨j,m*5+1,none⟩) (ai (c 1 aO (.int .i64 (f:Int)) cO))).trans (c 1 aO (.int .i64 (f:Int)) cO);have c2:=(d.cell (p:=⟨j,m*5+2,none⟩) (ai (c 2 aO (.int .i64 (g:Int)) cO))).trans (c 2 aO (.int .i64 (g:Int)) cO);have c3:=(d.cell (p:=⟨j,m*5+3,none⟩) (ai (c 3 aO (.slice h l i) cO))).trans (c 3 aO (.slice h l i) cO);have c4:=(d.cell (p:=⟨j,m*5+4,none⟩) (ai (c 4 aO (.int .i64 (s:Int)) cO))).trans (c 4 aO (.int .i64 (s:Int)) cO)
   have HT:Hid ((a.take (m+1)).flatten=(a.take m).flatten++[.int .i64 (e:Int),.int .i64 (f:Int),.int .i64 (g:Int),.slice h l i,.int .i64 (s:Int)]):=by
    show _=_;rw[wY v,b]
   clear c b d v;go_wp2_with (at_builtin;refine dD rfl (.tmp 18) (.tmp 23) 56 rfl w.heap.size 238 K (.agg #[.int .i64 0,.int .i64 0,.int .i64 0,.slice none 0 0,.int .i64 0]) 5 56 Tryz.underlying56 M N O P rfl aR (.slice W m X) m (a.take m).flatten rfl (by exact t.o.alloc _) ⟨wr.heap.size,0,none⟩ 1 [.int .i64 (e:Int),.int .i64 (f:Int),.int .i64 (g:Int),.slice h l i,.int .i64 (s:Int)] rfl rfl (by exact qa _ [.int .i64 (e:Int),.int .i64 (f:Int),.int .i64 (g:Int),.slice h l i,.int .i64 (s:Int)] _) (by intro bn F;simp only[List.mem_cons,List.not_mem_nil,or_false]at F;rcases F with rfl|rfl|rfl|rfl|rfl<;>rfl) aX aO aQ ?_;intro ga eZ y G H hg1 hg2;have HB3:Hid (Below w.heap.size w y):=(E.o.alloc Y _).grown H aQ (fun x k=>(t.o.lt x k).1))
   have qw:Hid (y.ownsRow w.heap.size 238 5 (.slice (some ⟨ga,0,none⟩) (m+1) eZ) (m+1) (a.take (m+1)).flatten):=by
    show y.ownsRow _ _ _ _ _ _;rw[HT.o];exact G
   clear G H hg1 hg2;exact alo
  ·have HE:=di (take_same (xs:=a) (m:=m) (n:=n) (by rw[p.o];exact U) V (by rw[p.o];exact u));have hcase:n<=m\/(m<n/\L<=m):=aO;clear u;rcases hcase with bg|⟨bg,h'⟩<;>
   ·go_wp2_with fail;go_ret;exact⟨⟨_,rfl,by obtain⟨e1,e2⟩:=HE.o;rw[<-e2,<-e1];exact t.o⟩,E.o⟩
theorem DU (v:Value)(a:List (List Value))(n:Nat)(w:World)(G:Row w 3 v a)(u:∀x∈a,∃(y:List UInt8) (c:Option Addr) (l d s:Nat),x=[.string ⟨y.toArray⟩,.slice c l d,.int .i64 (s:Int)])(g:a.length<=2 ^ 63-1)(hn:n<=1000000000) :
 Calls Tryz.prog 179 #[v,.int .i64 n] w fun H z=>oI z w.heap.size 196 3 (a.take n) H/\Below w.heap.size w z:=by
 obtain⟨I,J,K,M,N⟩:=info_parts Tryz.Kn;obtain⟨ao,cap,rfl,O,P,A,B⟩:=G;unfold maxLen at P;have Q:=di B;have R:=di u;have H3:=di A;clear B u A;obtain⟨L,h⟩:=aJ a.length;rw[h]at O g ⊢;have i:=di h;clear h;go_enter Tryz.func179,Tryz.ntmps179;go_wp2_with fail
 go_loopw [5,6] (fun s j wr=>∃(m:Nat),j=.int .i64 (m:Nat)/\m<=L/\m<=n/\wr.ownsRow w.heap.size 196 3 s m (a.take m).flatten/\Below w.heap.size w wr) (fun _ j _=>L-(intOf j).toNat)
 case atStart=>exact⟨0,rfl,aO,aO,World.ownsRow_nil _ _ _ _,af⟩
 case round=>
  obtain⟨m,rfl,S,T,k,f⟩:=hrel;have o:=di k;have C:=di f;obtain⟨U,V,rfl,hv1,hv2⟩:=fM k;have W:=f.size;clear k
  by_cases p:m<n/\m<L
  ·obtain⟨hlt1,X⟩:=p;have q:m<a.length:=by rw[i.o];exact X
   obtain⟨y,c,l,d,s,b⟩:=R.o a[m] aP;obtain⟨r,rfl,e⟩:=Q.o m q;have Y:=(f.cell (p:=⟨r,m*3+0,none⟩) (ai (e 0 aO (.string ⟨y.toArray⟩) cO))).trans (e 0 aO (.string ⟨y.toArray⟩) cO);rw[show m*3+0=m*3 by omega]at Y;have c1:=(f.cell (p:=⟨r,m*3+1,none⟩) (ai (e 1 aO (.slice c l d) cO))).trans (e 1 aO (.slice c l d) cO);have c2:=(f.cell (p:=⟨r,m*3+2,none⟩) (ai (e 2 aO (.int .i64 (s:Int)) cO))).trans (e 2 aO (.int .i64 (s:Int)) cO)
   have Z:Hid ((a.take (m+1)).flatten=(a.take m).flatten++[.string ⟨y.toArray⟩,.slice c l d,.int .i64 (s:Int)]):=by
    show _=_;rw[wY q,b]
   clear e b f q;go_wp2_with (at_builtin;refine dD rfl (.tmp 18) (.tmp 23) 55 rfl w.heap.size 196 I (.agg #[.string ⟨#[]⟩,.slice none 0 0,.int .i64 0]) 3 48 Tryz.underlying55 J K M N rfl aR (.slice U m V) m (a.take m).flatten rfl (by exact o.o.alloc _) ⟨wr.heap.size,0,none⟩ 1 [.string ⟨y.toArray⟩,.slice c l d,.int .i64 (s:Int)] rfl rfl (by exact qa _ [.string ⟨y.toArray⟩,.slice c l d,.int .i64 (s:Int)] _) (by intro bn D;simp only[List.mem_cons,List.not_mem_nil,or_false]at D;rcases D with rfl|rfl|rfl<;>rfl) aX aO aQ ?_;intro ga eZ t E F hg1 hg2;have HB3:Hid (Below w.heap.size w t):=(C.o.alloc W _).grown F aQ (fun x g=>(o.o.lt x g).1))
   have qw:Hid (t.ownsRow w.heap.size 196 3 (.slice (some ⟨ga,0,none⟩) (m+1) eZ) (m+1) (a.take (m+1)).flatten):=by
    show t.ownsRow _ _ _ _ _ _;rw[Z.o];exact E
   clear E F hg1 hg2;exact alo
  ·have HE:=di (take_same (xs:=a) (m:=m) (n:=n) (by rw[i.o];exact S) T (by rw[i.o];exact p));have hcase:n<=m\/(m<n/\L<=m):=aO;clear p;rcases hcase with bg|⟨bg,h'⟩<;>
   ·go_wp2_with fail;go_ret;exact⟨⟨_,rfl,by obtain⟨e1,e2⟩:=HE.o;rw[<-e2,<-e1];exact o.o⟩,C.o⟩
theorem F3 (v:Value)(a:List (List Value))(n:Nat)(w:World)(E:Row w 3 v a)(t:∀x∈a,∃c d e:Nat,x=[.int .i64 (c:Int),.int .i64 (d:Int),.int .i64 (e:Int)])(h:a.length<=2 ^ 63-1)(hn:n<=1000000000) :
 Calls Tryz.prog 178 #[v,.int .i64 n] w fun F u=>oI u w.heap.size 133 3 (a.take n) F/\Below w.heap.size w u:=by
 obtain⟨G,H,I,J,K⟩:=info_parts Tryz.Ko;obtain⟨ao,cap,rfl,M,N,y,z⟩:=E;unfold maxLen at N;have O:=di z;have P:=di t;have H3:=di y;clear z t y;obtain⟨L,i⟩:=aJ a.length;rw[i]at M h ⊢;have j:=di i;clear i;go_enter Tryz.func178,Tryz.ntmps178;go_wp2_with fail
 go_loopw [5,6] (fun Q k wr=>∃(m:Nat),k=.int .i64 (m:Nat)/\m<=L/\m<=n/\wr.ownsRow w.heap.size 133 3 Q m (a.take m).flatten/\Below w.heap.size w wr) (fun _ k _=>L-(intOf k).toNat)
 case atStart=>exact⟨0,rfl,aO,aO,World.ownsRow_nil _ _ _ _,af⟩
 case round=>
  obtain⟨m,rfl,R,S,l,g⟩:=hrel;have o:=di l;have A:=di g;obtain⟨T,U,rfl,hv1,hv2⟩:=fM l;have V:=g.size;clear l
  by_cases p:m<n/\m<L
  ·obtain⟨hlt1,W⟩:=p;have q:m<a.length:=by rw[j.o];exact W
   obtain⟨c,d,e,b⟩:=P.o a[m] aP;obtain⟨r,rfl,f⟩:=O.o m q;have X:=(g.cell (p:=⟨r,m*3+0,none⟩) (ai (f 0 aO (.int .i64 (c:Int)) cO))).trans (f 0 aO (.int .i64 (c:Int)) cO);rw[show m*3+0=m*3 by omega]at X;have c1:=(g.cell (p:=⟨r,m*3+1,none⟩) (ai (f 1 aO (.int .i64 (d:Int)) cO))).trans (f 1 aO (.int .i64 (d:Int)) cO);have c2:=(g.cell (p:=⟨r,m*3+2,none⟩) (ai (f 2 aO (.int .i64 (e:Int)) cO))).trans (f 2 aO (.int .i64 (e:Int)) cO)
   have Y:Hid ((a.take (m+1)).flatten=(a.take m).flatten++[.int .i64 (c:Int),.int .i64 (d:Int),.int .i64 (e:Int)]):=by
    show _=_;rw[wY q,b]
   clear f b g q;go_wp2_with (at_builtin;refine dD rfl (.tmp 18) (.tmp 23) 58 rfl w.heap.size 133 G (.agg #[.int .i64 0,.int .i64 0,.int .i64 0]) 3 24 Tryz.underlying58 H I J K rfl aR (.slice T m U) m (a.take m).flatten rfl (by exact o.o.alloc _) ⟨wr.heap.size,0,none⟩ 1 [.int .i64 (c:Int),.int .i64 (d:Int),.int .i64 (e:Int)] rfl rfl (by exact qa _ [.int .i64 (c:Int),.int .i64 (d:Int),.int .i64 (e:Int)] _) (by intro bn B;simp only[List.mem_cons,List.not_mem_nil,or_false]at B;rcases B with rfl|rfl|rfl<;>rfl) aX aO aQ ?_;intro Z eZ s C D hg1 hg2;have HB3:Hid (Below w.heap.size w s):=(A.o.alloc V _).grown D aQ (fun x h=>(o.o.lt x h).1))
   have qw:Hid (s.ownsRow w.heap.size 133 3 (.slice (some ⟨Z,0,none⟩) (m+1) eZ) (m+1) (a.take (m+1)).flatten):=by
    show s.ownsRow _ _ _ _ _ _;rw[Y.o];exact C
   clear C D hg1 hg2;exact alo
  ·have HE:=di (take_same (xs:=a) (m:=m) (n:=n) (by rw[j.o];exact R) S (by rw[j.o];exact p));have hcase:n<=m\/(m<n/\L<=m):=aO;clear p;rcases hcase with bg|⟨bg,h'⟩<;>
   ·go_wp2_with fail;go_ret;exact⟨⟨_,rfl,by obtain⟨e1,e2⟩:=HE.o;rw[<-e2,<-e1];exact o.o⟩,A.o⟩
def qE (w:World)(own:Own)(c:List Value)(t:Doc.Term):Prop:=∃av,c=[.int .i64 (Doc.dZ t.op:Nat),.int .i64 t.sym,.int .i64 (Doc.fq t:Nat),av,.int .i64 t.sort]/\eD w own av t.args
theorem qb:EX qE:=fun _ _ _ _ a _ _ ⟨b,c,d⟩=>⟨b,c,d.step a⟩
structure dA (w:World)(own:Own)(k sb:Nat)(S:Doc.dB):Prop where
 mine:own sb=k
 obj:∃cur,w.heap[sb]?=some (.cells cur 62 (0,0))
 fr:∀o,w.frozen? ⟨sb,o,none⟩=false
 syms:∃v,w.cell? ⟨sb,0,none⟩=some v/\dN w own k 196 3 (vN w own) v S.syms
 terms:∃v,w.cell? ⟨sb,1,none⟩=some v/\dN w own k 238 5 (qE w own) v S.terms
 held:∃v,w.cell? ⟨sb,2,none⟩=some v/\dN w own k 3 1 (xP w own) v S.held
 levels:∃v,w.cell? ⟨sb,3,none⟩=some v/\dN w own k 133 3 (Bd w own) v S.levels
theorem dA.lt {own:Own}{S:Doc.dB}(h:dA w own n m S):m<w.heap.size:=by
 exact amf
theorem dA.step {w:World}{own:Own}{S:Doc.dB}(h:dA w own n m S)(c:∀b,b<w.heap.size->own b=0\/own b=n->W.heap[b]?=w.heap[b]?/\O b=own b):dA W O n m S:=by
 obtain⟨i,u,j⟩:=h.syms;obtain⟨k,x,l⟩:=h.terms;obtain⟨p,y,q⟩:=h.held;obtain⟨r,z,s⟩:=h.levels;have d:=c m h.lt (.inr h.mine);have e:∀o v,w.cell? ⟨m,o,none⟩=some v->W.cell? ⟨m,o,none⟩=some v:=fun o v A=>(World.cell?_of_block (w:=w) (a:=⟨m,o,none⟩) d.1).trans A;have f:∀b,b<w.heap.size->own b=0->W.heap[b]?=w.heap[b]?/\O b=0:=fun b a h=>⟨(c b a (.inl h)).1,by rw[(c b a (.inl h)).2,h]⟩;have g:∀{t:Type} {B:TypeId} {C:Nat} {D:List Value->t->Prop} {v:Value} {E:List t},dN w own n B C D v E->∀b,v.ownBlock=some b->W.heap[b]?=w.heap[b]?/\O b=own b:=fun h b a=>c b (h.type b a).2.1 (.inr (h.type b a).1);refine⟨by rw[d.2];exact h.mine,?_,fun o=>(World.frozen?_of_block (w:=w) (a:=⟨m,o,none⟩) d.1).trans (h.fr o),⟨i,e 0 i u,j.step kM f (g j)⟩,⟨k,e 1 k x,l.step qb f (g l)⟩,⟨p,e 2 p y,q.step oz f (g q)⟩,⟨r,e 3 r z,s.step qF f (g s)⟩⟩;obtain⟨F,G⟩:=h.obj;exact⟨F,by rw[d.1];exact G⟩
theorem dA.below {own:Own}{S:Doc.dB}(h:dA w own n m S)(a:Below w.heap.size w W):dA W own n m S:=h.step (fun b c _=>⟨a.block b c,rfl⟩)
theorem dA.fr' {own:Own}{S:Doc.dB}(h:dA w own n k S)(a:Fr own o m w W)(d:m≠0)(e:n≠m):dA W o n k S:=
 h.step (fun b c f=>⟨a.block b c aO,a.ext b c⟩)
theorem kN {d f:Type}{own:Own}{g:TypeId}{C:World->Own->List Value->d->Prop}{D:List Value->f->Prop}{h:List d}{r:List f}{s:Array Value}
 (t:EX C) (H:n≠0) (a:jg w W own o n m k v V) (u:w.heap[m]?=some (.cells s g (0,0))) (x:dN w own n E j D v r) (l:dN w own n e i (C w own) y h) (z:e≠E) (A:e≠g):dN W o n e i (C W o) y h:=by
 refine l.step t (fun b c B=>⟨a.fr.block b c aO,by rw[a.fr.ext b c,B]⟩) (fun b c=>?_);obtain⟨_,p,I,q⟩:=l.type b c;refine⟨a.other b p (gp q u A) ?_,a.fr.ext b p⟩;intro F;obtain⟨_,_,J,G⟩:=x.type b F;exact gp q G z rfl
theorem dA.rZ {own:Own}{S:Doc.dB}(h:dA w own n m S){v c:Value}(i:w.cell? ⟨m,0,none⟩=some v)(a:jg w W own O n m 0 v c)(d:n≠0){f:List Doc.Sym}(j:dN W O n 196 3 (vN W O) c f):dA W O n m { S with syms:=f }:=by
 obtain⟨k,g,e⟩:=h.syms;obtain⟨l,p,q⟩:=h.terms;obtain⟨r,s,t⟩:=h.held;obtain⟨u,x,y⟩:=h.levels;obtain rfl:v=k:=ajJ;obtain⟨z,b⟩:=h.obj;exact⟨ahY,a.type z _ b,fun o=>(a.frozen o).trans (h.fr o),⟨c,a.cell,j⟩,⟨l,(a.cells 1 aO).trans p,kN qb d a b e q aR aR⟩,⟨r,(a.cells 2 aO).trans s,kN oz d a b e t aR aR⟩,⟨u,(a.cells 3 aO).trans x,kN qF d a b e y aR aR⟩⟩
theorem dA.pK {own:Own}{S:Doc.dB}(h:dA w own n m S){v c:Value}(i:w.cell? ⟨m,1,none⟩=some v)(a:jg w W own O n m 1 v c)(d:n≠0){f:List Doc.Term}(j:dN W O n 238 5 (qE W O) c f):dA W O n m { S with terms:=f }:=by
 obtain⟨k,l,p⟩:=h.syms;obtain⟨q,g,e⟩:=h.terms;obtain⟨r,s,t⟩:=h.held;obtain⟨u,x,y⟩:=h.levels;obtain rfl:v=q:=ajJ;obtain⟨z,b⟩:=h.obj;exact⟨ahY,a.type z _ b,fun o=>(a.frozen o).trans (h.fr o),⟨k,(a.cells 0 aO).trans l,kN kM d a b e p aR aR⟩,⟨c,a.cell,j⟩,⟨r,(a.cells 2 aO).trans s,kN oz d a b e t aR aR⟩,⟨u,(a.cells 3 aO).trans x,kN qF d a b e y aR aR⟩⟩
theorem dA.si {own:Own}{S:Doc.dB}(h:dA w own n m S){v c:Value}(i:w.cell? ⟨m,2,none⟩=some v)(a:jg w W own O n m 2 v c)(d:n≠0){f:List Nat}(j:dN W O n 3 1 (xP W O) c f):dA W O n m { S with held:=f }:=by
 obtain⟨k,l,p⟩:=h.syms;obtain⟨q,r,s⟩:=h.terms;obtain⟨t,g,e⟩:=h.held;obtain⟨u,x,y⟩:=h.levels;obtain rfl:v=t:=ajJ;obtain⟨z,b⟩:=h.obj;exact⟨ahY,a.type z _ b,fun o=>(a.frozen o).trans (h.fr o),⟨k,(a.cells 0 aO).trans l,kN kM d a b e p aR aR⟩,⟨q,(a.cells 1 aO).trans r,kN qb d a b e s aR aR⟩,⟨c,a.cell,j⟩,⟨u,(a.cells 3 aO).trans x,kN qF d a b e y aR aR⟩⟩
theorem dA.nI {w2:World}{own own':Own}{S:Doc.dB}(h:dA w own n m S){v c:Value}(i:w.cell? ⟨m,3,none⟩=some v)(a:jg w w2 own own' n m 3 v c)(d:n≠0){f:List (Nat × Nat × Nat)}(j:dN w2 own' n 133 3 (Bd w2 own') c f):dA w2 own' n m { S with levels:=f }:=by
 obtain⟨k,l,p⟩:=h.syms;obtain⟨q,r,s⟩:=h.terms;obtain⟨t,u,x⟩:=h.held;obtain⟨y,g,e⟩:=h.levels;obtain rfl:v=y:=ajJ;obtain⟨z,b⟩:=h.obj;exact⟨ahY,a.type z _ b,fun o=>(a.frozen o).trans (h.fr o),⟨k,(a.cells 0 aO).trans l,kN kM d a b e p aR aR⟩,⟨q,(a.cells 1 aO).trans r,kN qb d a b e s aR aR⟩,⟨t,(a.cells 2 aO).trans u,kN oz d a b e x aR aR⟩,⟨c,a.cell,j⟩⟩
def Bb (own:Own)(v:Value)(k:Nat):Own:=fun b=>if v.ownBlock=some b then k else own b
theorem jU {own:Own}{f:Nat}{e:TypeId}{sz n:Nat}{v':Value}{ys:List Value}(q:dH own w)(r:own k=m)(s:k<w.heap.size)(c:Below w.heap.size w W)(t:w.cell? ⟨k,f,none⟩=some v)(d:W.ownsRow w.heap.size e sz v' n ys) :
 jg w (W.setCell ⟨k,f,none⟩ v') own (Bb own v' m) m k f v v'/\(W.setCell ⟨k,f,none⟩ v').ownsRow 0 e sz v' n ys/\∀b,v'.ownBlock=some b->Bb own v' m b=m:=by
 have u:=c.size;have i:∀b,b≠k->(W.setCell ⟨k,f,none⟩ v').heap[b]?=W.heap[b]?:=fun b a=>aC a;have g:W.heap[k]?=w.heap[k]?:=c.block k s;have j:(W.setCell ⟨k,f,none⟩ v').heap.size=W.heap.size:=aik;refine⟨⟨⟨c.os,c.tape,c.output,by rw[j];exact u,?_,?_,?_⟩,?_,?_,?_,?_,?_⟩,?_,?_⟩
 ·intro b a x;rw[i b (fun h=>x (by rw[h];exact r))];exact c.block b a
 ·intro b a;unfold Bb;rw[if_neg];intro h;have:=(d.lt b h).1;exact aO
 ·intro b a;rw[j]at a;unfold Bb;rw[if_neg (by intro h;have:=(d.lt b h).2;omega)];exact q b aO
 ·exact World.cell?_setCell_same _ _ _ ((World.cell?_of_block (w:=w) (a:=⟨k,f,none⟩) g).trans t)
 ·intro y z;rw[ak (fun h=>z aiF)];exact World.cell?_of_block (w:=w) (a:=⟨k,y,none⟩) g
 ·intro o;rw[World.frozen?_setCell];exact World.frozen?_of_block (w:=w) (a:=⟨k,o,none⟩) g
 ·intro b a A _;rw[i b A];exact c.block b a
 ·intro l F h;exact jK (g.trans h)
 ·refine⟨d.1,?_⟩;rcases d.2 with h|⟨p,B,l,C,G,D,E⟩
  ·exact .inl h
  ·exact .inr ⟨p,B,l,C,Nat.zero_le _,by rw[i p aO];exact D,E⟩
 ·intro b a;unfold Bb;rw[if_pos a]
structure yZ (w:World)(g o:Nat)(t:Doc.Term):Prop where
 op:w.cell? ⟨g,o,none⟩=some (.int .i64 (Doc.dZ t.op:Nat))
 sym:w.cell? ⟨g,o+1,none⟩=some (.int .i64 t.sym)
 num:w.cell? ⟨g,o+2,none⟩=some (.int .i64 (Doc.fq t:Nat))
 args:∃av,w.cell? ⟨g,o+3,none⟩=some av/\dY w av t.args
 sort:w.cell? ⟨g,o+4,none⟩=some (.int .i64 t.sort)
theorem yZ.below {o:Nat}{t:Doc.Term}(h:yZ w n o t)(a:Below w.heap.size w W):yZ W n o t:=by
 have b:=ai h.op;obtain⟨c,d,e⟩:=h.args;exact⟨(a.cell (p:=⟨n,o,none⟩) b).trans h.op,(a.cell (p:=⟨n,o+1,none⟩) b).trans h.sym,(a.cell (p:=⟨n,o+2,none⟩) b).trans h.num,⟨c,(a.cell (p:=⟨n,o+3,none⟩) b).trans d,e.below a⟩,(a.cell (p:=⟨n,o+4,none⟩) b).trans h.sort⟩
def Ad (w:World)(v:Value)(ts:List Doc.Term):Prop:=fA v ts.length (fun g i=>∀h:i<ts.length,yZ w g (i*5) ts[i])
theorem Ad.below {a:List Doc.Term}(h:Ad w v a)(b:Below w.heap.size w W):Ad W v a:=fA.imp h fun _ _ _ c hi=>(c hi).below b
structure qX (w:World)(sb:Nat)(ss:List Doc.Sym)(ts:List Doc.Term):Prop where
 syms:∃v,w.cell? ⟨sb,0,none⟩=some v/\BI w v ss
 terms:∃v,w.cell? ⟨sb,1,none⟩=some v/\Ad w v ts
theorem qX.below {b:List Doc.Sym}{c:List Doc.Term}(h:qX w n b c)(a:Below w.heap.size w W):qX W n b c:=by
 obtain⟨v,d,f⟩:=h.syms;obtain⟨u,e,g⟩:=h.terms;exact⟨⟨v,(a.cell (p:=⟨n,0,none⟩) (ai d)).trans d,f.below a⟩,⟨u,(a.cell (p:=⟨n,1,none⟩) (ai e)).trans e,g.below a⟩⟩
theorem OV {own:Own}{o:Nat}{t:Doc.Term}(h:qE w own b t)(a:∀j u,j<5->b[j]?=some u->w.cell? ⟨n,o+j,none⟩=some u):yZ w n o t:=by
 obtain⟨c,rfl,d⟩:=h;exact⟨a 0 _ aO rfl,a 1 _ aO rfl,a 2 _ aO rfl,⟨c,a 3 _ aO rfl,d.ints⟩,a 4 _ aO rfl⟩
theorem dA.book {own:Own}{S:Doc.dB}(h:dA w own n m S):qX w m S.syms S.terms:=by
 obtain⟨d,e,f⟩:=h.syms;obtain⟨g,i,j⟩:=h.terms;refine⟨⟨d,e,fA.imp f.sl fun k l hi a _=>?_⟩,g,i,fA.imp j.sl fun k l hi a _=>?_⟩
 ·obtain⟨o,_,b,c⟩:=a.2 hi;exact Jj b c
 ·obtain⟨o,_,b,c⟩:=a.2 hi;exact OV b c
theorem Ei {a:List Doc.Sym}{m:List Doc.Term}(o:qX w n a m):∃c b,w.cell? ⟨n,0,none⟩=some (.slice c a.length b)/\a.length<=b/\b<=2 ^ 63-1/\
 ∀i (hi:i<a.length),∃g d e,c=some ⟨g,0,none⟩/\g<w.heap.size/\∀W,Below w.heap.size w W->W.cell? ⟨g,i*3,none⟩=some (.string ⟨a[i].name.toArray⟩)/\W.cell? ⟨g,i*3+1,none⟩=some (.slice d a[i].args.length e)/\W.cell? ⟨g,i*3+2,none⟩=some (.int .i64 a[i].sort)/\dY W (.slice d a[i].args.length e) a[i].args:=by
 obtain⟨x,p,q⟩:=o.syms;obtain⟨c,b,rfl,r,s,t⟩:=q;refine⟨c,b,p,r,by unfold maxLen at s;omega,fun i hi=>?_⟩;obtain⟨g,u,v⟩:=t i hi;have f:=v hi;obtain⟨y,j,k⟩:=f.args;obtain⟨d,e,rfl,_⟩:=id k;refine⟨g,d,e,u,ai f.name,fun W h=>?_⟩;have l:=f.below h;exact⟨l.name,(h.cell (p:=⟨g,i*3+1,none⟩) (ai j)).trans j,l.sort,k.below h⟩
theorem xL {m:List Doc.Sym}{a:List Doc.Term}(o:qX w n m a):∃c b,w.cell? ⟨n,1,none⟩=some (.slice c a.length b)/\a.length<=b/\b<=2 ^ 63-1/\
 ∀i (hi:i<a.length),∃g d e,c=some ⟨g,0,none⟩/\g<w.heap.size/\∀W,Below w.heap.size w W->W.cell? ⟨g,i*5,none⟩=some (.int .i64 (Doc.dZ a[i].op:Nat))/\W.cell? ⟨g,i*5+1,none⟩=some (.int .i64 a[i].sym)/\W.cell? ⟨g,i*5+2,none⟩=some (.int .i64 (Doc.fq a[i]:Nat))/\W.cell? ⟨g,i*5+3,none⟩=some (.slice d a[i].args.length e)/\W.cell? ⟨g,i*5+4,none⟩=some (.int .i64 a[i].sort)/\dY W (.slice d a[i].args.length e) a[i].args:=by
 obtain⟨y,p,q⟩:=o.terms;obtain⟨c,b,rfl,r,s,t⟩:=q;refine⟨c,b,p,r,by unfold maxLen at s;omega,fun i hi=>?_⟩;obtain⟨g,u,v⟩:=t i hi;have h:=v hi;obtain⟨z,x,k⟩:=h.args;obtain⟨d,e,rfl,_⟩:=id k;have l:=ai h.op;refine⟨g,d,e,u,l,fun W j=>?_⟩;have f:=h.below j;exact⟨f.op,f.sym,f.num,(j.cell (p:=⟨g,i*5+3,none⟩) l).trans x,f.sort,k.below j⟩
theorem D9 (f:Nat)(a:List Doc.Sym)(m:List Doc.Term)(x:List UInt8)(w:World)(g:qX w f a m) :
 Calls Tryz.prog 121 #[.pointer (some ⟨f,0,none⟩),.string ⟨x.toArray⟩] w fun n o=>n=.returned (.int .i64 (placeOf (Doc.eX a x)))/\Below w.heap.size w o:=by
 have y:=fJ;obtain⟨z,A,B,C,D,h⟩:=Ei g;have p:=di h;have q:Hid (Doc.eX a x=iG (fun s:Doc.Sym=>s.name==x) a 0):=(qL _ _).symm;generalize Doc.eX a x=r at *;clear g h;go_enter Tryz.func121,Tryz.ntmps121;go_wp2_with fail
 go_loopw [12] (fun i wr=>∃k:Nat,i=.int .i64 k/\k<=a.length/\r=iG (fun s:Doc.Sym=>s.name==x) a k/\Below w.heap.size w wr) (fun i _=>a.length-(intOf i).toNat)
 case atStart=>exact⟨0,rfl,aO,q.o,af⟩
 case round=>
  obtain⟨k,rfl,E,j,b⟩:=hrel;have c:=di j;have t:=di b;clear j
  by_cases d:k<a.length
  ·obtain⟨F,u,v,rfl,G,e⟩:=p.o k d;obtain⟨H,I,J,_⟩:=e wr b;obtain⟨K,L,M,_⟩:=e (wr.alloc (.cells #[.string ⟨#[]⟩,.slice none 0 0,.int .i64 0] 196)) (b.alloc b.size _);have l:Hid (Below w.heap.size w (wr.alloc (.cells #[.string ⟨a[k].name.toArray⟩,.slice u a[k].args.length v,.int .i64 a[k].sort] 196))):=b.alloc b.size _;clear e b;cases hq:(a[k].name==x)
   ·go_wp2_with fail;go_roundw
    case rel=>exact⟨k+1,bJ,aO,by rw[c.o];exact qM d hq,l.o⟩
    case measure=>exact akL
   ·go_wp2_with fail;go_ret;exact⟨fB (by rw[c.o,tO (p:=fun s:Doc.Sym=>s.name==x) d hq];rfl),l.o⟩
  ·clear b;go_wp2_with fail;go_ret;exact⟨fB (by rw[c.o,tQ aO];rfl),t.o⟩
theorem vk (e:Nat)(a:List Doc.Sym)(m:List Doc.Term)(i:Nat)(w:World)(j:qX w e a m)(hi:i<a.length) :
 ∃b c,dY w (.slice b a[i].args.length c) a[i].args/\∀W,Below w.heap.size w W->Calls Tryz.prog 131 #[.pointer (some ⟨e,0,none⟩),.int .i64 i] W fun n o=>n=.returned (.agg #[.string ⟨a[i].name.toArray⟩,.slice b a[i].args.length c,.int .i64 a[i].sort])/\Below W.heap.size W o:=by
 obtain⟨q,r,f,s,t,k⟩:=Ei j;obtain⟨u,b,c,rfl,l,g⟩:=k i hi;refine⟨b,c,(g w af).2.2.2,fun W d=>?_⟩;obtain⟨v,x,y,_⟩:=g (W.alloc (.cells #[.string ⟨#[]⟩,.slice none 0 0,.int .i64 0] 196)) (d.alloc d.size _);have h:=ai f;have z:=(d.cell (p:=⟨e,0,none⟩) h).trans f;have A:=Nat.lt_of_lt_of_le h d.size;have B:=Nat.lt_of_lt_of_le l d.size;have p:Hid (Below W.heap.size W (W.alloc (.cells #[.string ⟨a[i].name.toArray⟩,.slice b a[i].args.length c,.int .i64 a[i].sort] 196))):=ag;clear k g j h d f l;go_enter Tryz.func131,Tryz.ntmps131;go_wp2_with fail;exact bodyPost_ret (v:=.agg #[.string ⟨a[i].name.toArray⟩,.slice b a[i].args.length c,.int .i64 a[i].sort]) (by simp[results,Tryz.results131,go_sem]) rfl ⟨rfl,p.o⟩
theorem qj (e:Nat)(m:List Doc.Sym)(a:List Doc.Term)(i:Nat)(w:World)(j:qX w e m a)(hi:i<a.length) :
 ∃b c,dY w (.slice b a[i].args.length c) a[i].args/\∀W,Below w.heap.size w W->Calls Tryz.prog 174 #[.pointer (some ⟨e,0,none⟩),.int .i64 i] W fun n o=>n=.returned (.agg #[.int .i64 (Doc.dZ a[i].op:Nat),.int .i64 a[i].sym,.int .i64 (Doc.fq a[i]:Nat),.slice b a[i].args.length c,.int .i64 a[i].sort])/\Below W.heap.size W o:=by
 obtain⟨q,r,f,s,t,k⟩:=xL j;obtain⟨u,b,c,rfl,l,g⟩:=k i hi;refine⟨b,c,(g w af).2.2.2.2.2,fun W d=>?_⟩;obtain⟨v,x,y,z,A,_⟩:=g (W.alloc (.cells #[.int .i64 0,.int .i64 0,.int .i64 0,.slice none 0 0,.int .i64 0] 238)) (d.alloc d.size _);have h:=ai f;have B:=(d.cell (p:=⟨e,1,none⟩) h).trans f;have C:=Nat.lt_of_lt_of_le h d.size;have D:=Nat.lt_of_lt_of_le l d.size;have p:Hid (Below W.heap.size W (W.alloc (.cells #[.int .i64 (Doc.dZ a[i].op:Nat),.int .i64 a[i].sym,.int .i64 (Doc.fq a[i]:Nat),.slice b a[i].args.length c,.int .i64 a[i].sort] 238))):=ag;clear k g j h d f l;go_enter Tryz.func174,Tryz.ntmps174;go_wp2_with fail;exact bodyPost_ret (v:=.agg #[.int .i64 (Doc.dZ a[i].op:Nat),.int .i64 a[i].sym,.int .i64 (Doc.fq a[i]:Nat),.slice b a[i].args.length c,.int .i64 a[i].sort]) (by simp[results,Tryz.results174,go_sem]) rfl ⟨rfl,p.o⟩
theorem DY (x:List UInt8)(w:World):Calls Tryz.prog 123 #[.string ⟨x.toArray⟩] w fun e d=>e=.returned (.int .i64 (Doc.fw x:Nat))/\d=w:=by
 have g:=fJ
 by_cases a:x=Doc.wT
 ·subst a;exact alQ
 ·by_cases b:x=Doc.AQ
  ·subst b;exact alQ
  ·by_cases c:x=Doc.wU
   ·subst c;exact alQ
   ·have h:(x==[66,111,111,108])=false:=aj a;have i:(x==[73,110,116])=false:=aj b;have j:(x==[85])=false:=aj c;have f:Hid (Doc.fw x=0):=by show Doc.fw x=0;unfold Doc.fw;rw[if_neg a,if_neg b,if_neg c]
    clear a b c;go_enter Tryz.func123,Tryz.ntmps123;go_wp2_with fail;go_ret;exact⟨fB (by rw[f.o];rfl),rfl⟩
theorem IW (s:Nat)(w:World)(h:s=1\/s=2\/s=3):Calls Tryz.prog 181 #[.int .i64 s] w fun e a=>e=.returned (.string ⟨(Doc.gZ s).toArray⟩)/\a=w:=by
 rcases h with rfl|rfl|rfl
 all_goals
  go_enter Tryz.func181,Tryz.ntmps181;go_wp2_with fail;go_ret;exact⟨rfl,rfl⟩
theorem Bc (a:List Nat):(a.map (fun b:Nat=>[Value.int .i64 (b:Int)])).flatten=gX a:=by
 induction a with
 | nil=>rfl
 | cons b a c=>simp only[List.map_cons,List.flatten_cons,c,gX,List.map_cons];rfl
theorem dY.row (h:dY w v l):Row w 1 v (l.map (fun a:Nat=>[Value.int .i64 (a:Int)])):=by
 obtain⟨d,e,rfl,f,g,j⟩:=h;refine⟨d,e,aP,ajB,g,?_,fun i hi=>?_⟩
 ·intro x k;obtain⟨a,_,rfl⟩:=List.mem_map.1 k;rfl
 ·have b:i<l.length:=ahT;obtain⟨m,n,o⟩:=j i b;refine⟨m,n,fun p q u c=>?_⟩;obtain rfl:p=0:=aO;simp at c;rw[show i*1+0=i by omega,<-c];exact o b
theorem eY (h:dY w (.slice a n m) l):∀i z,l[i]?=some z->∃g,a=some ⟨g,0,none⟩/\w.cell? ⟨g,i,none⟩=some (.int .i64 (z:Nat)):=by
 exact alG
def Cz (w':World)(base:Nat)(xs:List Nat)(e:Ending):Prop:=∃ao cap,e=.returned (.slice ao xs.length cap)/\xs.length<=cap/\cap<=2 ^ 63-1/\w'.ownsRow base 3 1 (.slice ao xs.length cap) xs.length (gX xs)
theorem ES (v:Value)(a:List Nat)(w:World)(h:dY w v a)(c:a.length<=1000000) :
 Calls Tryz.prog 172 #[v] w fun e d=>Cz d w.heap.size a e/\Below w.heap.size w d:=by
 have g:=di (Ay v _ a.length w h.row (by intro x c;obtain⟨i,_,rfl⟩:=List.mem_map.1 c;exact⟨i,rfl⟩) ake aO);obtain⟨q,r,rfl,s,j,_⟩:=h;unfold maxLen at j;go_enter Tryz.func172,Tryz.ntmps172;go_wp2_with fail;refine g.o.mono ?_;rintro e t ⟨⟨u,rfl,b⟩,f⟩;have k:=di f;rw[List.take_of_length_le aP,Bc,List.length_map]at b;obtain⟨l,m,rfl,n,o⟩:=fM b;have p:=di b;clear b f;go_wp2_with fail;go_ret;exact⟨⟨l,m,rfl,n,o,p.o⟩,k.o⟩
def zH (a1 b1 c1 a2 b2 c2:Nat)(l1 l2:List Nat):Bool:=decide (a1=a2/\b1=b2/\c1=c2/\l1=l2)
theorem TI (c d e v i l m x:Nat)(a b:List Nat)(o p:Option Addr)(q r:Nat)(w:World)(Q:dY w (.slice o a.length q) a)(R:dY w (.slice p b.length r) b) :
 Calls Tryz.prog 263 #[.agg #[.int .i64 c,.int .i64 d,.int .i64 e,.slice o a.length q,.int .i64 v],.agg #[.int .i64 i,.int .i64 l,.int .i64 m,.slice p b.length r,.int .i64 x]] w fun bg w'=>bg=.returned (.bool (zH c d e i l m a b))/\Below w.heap.size w w':=by
 have S:Below w.heap.size w ((w.alloc (.cells #[.int .i64 c,.int .i64 d,.int .i64 e,.slice o a.length q,.int .i64 v] 238)).alloc (.cells #[.int .i64 i,.int .i64 l,.int .i64 m,.slice p b.length r,.int .i64 x] 238)):=ag.alloc aP _;have s:=di S;have T:=di (fun W (f:Below w.heap.size w W)=>eY (Q.below f));have U:=di (fun W (f:Below w.heap.size w W)=>eY (R.below f));obtain⟨ao1,abZ,D,k1,m1,j1⟩:=Q;obtain⟨Hw,cap2,E,k2,m2,j2⟩:=R;injection D with D _ KW
 injection E with E _ e2';subst D KW E e2';unfold maxLen at m1 m2;clear S j1 j2
 have u:Hid (∀z:Bool,(z=true↔c=i/\d=l/\e=m/\a=b)->zH c d e i l m a b=z):=fun z V=>by
  unfold zH;cases z
  ·exact decide_eq_false (fun h=>by have:=V.2 h;cases this)
  ·exact decide_eq_true (V.1 rfl)
 generalize zH c d e i l m a b=res at *
 by_cases y:c=i
 ·by_cases f:d=l
  ·by_cases F:e=m
   ·subst y f F
    by_cases A:a.length=b.length
    ·have t:((a.length:Int) !=(b.length:Int))=false:=by rw[A];simp
     obtain⟨n,G⟩:=aJ a.length;have H:b.length=n:=aO;rw[G]at k1 t s ⊢;rw[H]at k2 t s ⊢;have X:=di G;have Y:=di H;clear A G H t;go_enter Tryz.func263,Tryz.ntmps263;go_wp2_with fail
     have wP:Hid (∀W,Below (w.heap.size+1+1) ((w.alloc (.cells #[.int .i64 c,.int .i64 d,.int .i64 e,.slice o n q,.int .i64 v] 238)).alloc (.cells #[.int .i64 c,.int .i64 d,.int .i64 e,.slice p n r,.int .i64 x] 238)) W->W.cell? ⟨w.heap.size,3,none⟩=some (.slice o n q)/\W.cell? ⟨w.heap.size+1,3,none⟩=some (.slice p n r)):=fun W f=>
      ⟨(f.cell (p:=⟨w.heap.size,3,none⟩) aW).trans aP,(f.cell (p:=⟨w.heap.size+1,3,none⟩) cK).trans aP⟩
     have HTR:Hid (∀W,Below (w.heap.size+1+1) ((w.alloc (.cells #[.int .i64 c,.int .i64 d,.int .i64 e,.slice o n q,.int .i64 v] 238)).alloc (.cells #[.int .i64 c,.int .i64 d,.int .i64 e,.slice p n r,.int .i64 x] 238)) W->Below w.heap.size w W):=fun W f=>s.o.trans (f.mono aO)
     go_loopw [35] (fun I wr=>∃k:Nat,I=.int .i64 k/\k<=n/\(∀j,j<k->a[j]?=b[j]?)/\Below (w.heap.size+1+1) ((w.alloc (.cells #[.int .i64 c,.int .i64 d,.int .i64 e,.slice o n q,.int .i64 v] 238)).alloc (.cells #[.int .i64 c,.int .i64 d,.int .i64 e,.slice p n r,.int .i64 x] 238)) wr) (fun I _=>n-(intOf I).toNat)
     case atStart=>exact⟨0,rfl,aO,(by intro j J;omega),af⟩
     case round=>
      obtain⟨k,rfl,hk,Z,B⟩:=hrel;have HS:=di Z;have ug:=di B;have C:=di (HTR.o wr B);obtain⟨x1,x2⟩:=wP.o wr B;clear Z B
      by_cases hlt:k<n
      ·have y1:k<a.length:=by rw[X.o];exact hlt
       have y2:k<b.length:=by rw[Y.o];exact hlt
       obtain⟨K,L⟩:∃M,a[k]?=some M:=⟨_,aD y1⟩;obtain⟨N,O⟩:∃M,b[k]?=some M:=⟨_,aD y2⟩;obtain⟨g1,rfl,d1⟩:=T.o _ C.o k K L;obtain⟨g2,rfl,d2⟩:=U.o _ C.o k N O;have HZ1:=di L;have HZ2:=di O;clear L O y1 y2
       by_cases P:K=N
       ·subst P;go_wp2_with fail;go_quiet (fail);go_wp2_with fail;go_roundw
        case rel=>exact⟨k+1,bJ,aO,(fun j J=>by
         by_cases hjk:j=k
         ·rw[hjk,HZ1.o,HZ2.o]
         ·exact HS.o j aO),below_drewN ug.o _⟩
        case measure=>exact akL
       ·have tz:((K:Int) !=(N:Int))=true:=aQ;have g:=di (u.o false ⟨fun h=>aiG,fun h=>by have:=HZ1.o;rw[h.2.2.2,HZ2.o]at this;injection this with this;exact absurd this.symm P⟩);clear P;go_wp2_with fail;go_quiet (fail);go_wp2_with fail;go_ret;exact⟨dK g.o.symm,below_drewN C.o _⟩
      ·have g:=di (u.o true ⟨fun _=>⟨trivial,trivial,trivial,List.ext_getElem? (fun j=>by
        by_cases J:j<k
        ·exact HS.o j J
        ·rw[List.getElem?_eq_none (by rw[X.o];omega),List.getElem?_eq_none (by rw[Y.o];omega)])⟩,fun _=>rfl⟩)
       go_wp2_with fail;go_ret;exact⟨dK g.o.symm,C.o⟩
    ·have t:((a.length:Int) !=(b.length:Int))=true:=aQ;have g:=di (u.o false ⟨fun h=>aiG,fun h=>absurd (congrArg List.length h.2.2.2) A⟩);generalize a.length=n1 at *;generalize b.length=n2 at *;clear A T U;exact alu
   ·have t:((e:Int) !=(m:Int))=true:=aQ;have g:=di (u.o false ⟨fun h=>aiG,fun h=>absurd h.2.2.1 F⟩);subst y f;clear F;exact alu
  ·have t:((d:Int) !=(l:Int))=true:=aQ;have g:=di (u.o false ⟨fun h=>aiG,fun h=>absurd h.2.1 f⟩);subst y;clear f;exact alu
 ·have t:((c:Int) !=(i:Int))=true:=aQ;have g:=di (u.o false ⟨fun h=>aiG,fun h=>absurd h.1 y⟩);clear y;exact alu
def qG (t u:Doc.Term):Bool:=zH (Doc.dZ t.op) t.sym (Doc.fq t) (Doc.dZ u.op) u.sym (Doc.fq u) t.args u.args
theorem MK (r:Nat)(I:List Doc.Sym)(a:List Doc.Term)(t:Doc.Term)(A:Option Addr)(p:Nat)(w:World)(s:qX w r I a)(v:dY w (.slice A t.args.length p) t.args) :
 Calls Tryz.prog 260 #[.pointer (some ⟨r,0,none⟩),.agg #[.int .i64 (Doc.dZ t.op:Nat),.int .i64 t.sym,.int .i64 (Doc.fq t:Nat),.slice A t.args.length p,.int .i64 t.sort]] w fun x J=>x=.returned (.int .i64 (placeOf (iG (qG t) a 0)))/\Below w.heap.size w J:=by
 obtain⟨T,U,K,V,X,y⟩:=xL s;have Y:=ai K;have L:=di y;have M:=di v;obtain⟨d,e⟩:=aJ (iG (qG t) a 0);rw[e];have N:=di e;have O:Hid (∀u,zH (Doc.dZ t.op) t.sym (Doc.fq t) (Doc.dZ u.op) u.sym (Doc.fq u) t.args u.args=qG t u):=fun _=>rfl;have z:Below w.heap.size w (w.alloc (.cells #[.int .i64 (Doc.dZ t.op:Nat),.int .i64 t.sym,.int .i64 (Doc.fq t:Nat),.slice A t.args.length p,.int .i64 t.sort] 238)):=ag;have P:=di z
 have f:Hid (∀W,Below (w.heap.size+1) (w.alloc (.cells #[.int .i64 (Doc.dZ t.op:Nat),.int .i64 t.sym,.int .i64 (Doc.fq t:Nat),.slice A t.args.length p,.int .i64 t.sort] 238)) W->(W.cell? ⟨w.heap.size,0,none⟩=some (.int .i64 (Doc.dZ t.op:Nat))/\W.cell? ⟨w.heap.size,1,none⟩=some (.int .i64 t.sym)/\W.cell? ⟨w.heap.size,2,none⟩=some (.int .i64 (Doc.fq t:Nat))/\W.cell? ⟨w.heap.size,3,none⟩=some (.slice A t.args.length p)/\W.cell? ⟨w.heap.size,4,none⟩=some (.int .i64 t.sort))/\Below w.heap.size w W/\w.heap.size+1<=W.heap.size):=fun W h=>
  ⟨⟨(h.cell (p:=⟨w.heap.size,0,none⟩) (Nat.lt_succ_self _)).trans aP,(h.cell (p:=⟨w.heap.size,1,none⟩) (Nat.lt_succ_self _)).trans aP,(h.cell (p:=⟨w.heap.size,2,none⟩) (Nat.lt_succ_self _)).trans aP,(h.cell (p:=⟨w.heap.size,3,none⟩) (Nat.lt_succ_self _)).trans aP,(h.cell (p:=⟨w.heap.size,4,none⟩) (Nat.lt_succ_self _)).trans aP⟩,P.o.trans (h.mono aO),by have:=h.size;simpa using this⟩
 clear s y v z e;generalize Doc.dZ t.op=g at *;generalize Doc.fq t=i at *;go_enter Tryz.func260,Tryz.ntmps260;go_wp2_with fail
 go_loopw [12] (fun j wr=>∃k:Nat,j=.int .i64 k/\k<=a.length/\iG (qG t) a k=d/\Below (w.heap.size+1) (w.alloc (.cells #[.int .i64 (g:Nat),.int .i64 t.sym,.int .i64 (i:Nat),.slice A t.args.length p,.int .i64 t.sort] 238)) wr) (fun j _=>a.length-(intOf j).toNat)
 case atStart=>exact⟨0,rfl,aO,N.o,af⟩
 case round=>
  obtain⟨k,rfl,Z,B,l⟩:=hrel;have m:=di B;have Q:=di l;obtain⟨⟨b0,b1,b2,b3,b4⟩,C,R⟩:=f.o wr l;have b:=di C;clear B l C
  by_cases n:k<a.length
  ·obtain⟨bg,o,q,rfl,hgl,c⟩:=L.o k n;obtain⟨q0,q1,q2,q3,q4,_⟩:=c wr b.o;obtain⟨r0,r1,r2,r3,r4,_⟩:=c (wr.alloc (.cells #[.int .i64 0,.int .i64 0,.int .i64 0,.slice none 0 0,.int .i64 0] 238)) (b.o.alloc b.o.size _);have D:Hid (Below w.heap.size w (wr.alloc (.cells #[.int .i64 (Doc.dZ a[k].op:Nat),.int .i64 a[k].sym,.int .i64 (Doc.fq a[k]:Nat),.slice o a[k].args.length q,.int .i64 a[k].sort] 238))):=b.o.alloc b.o.size _;have E:=di (TI g t.sym i t.sort (Doc.dZ a[k].op) a[k].sym (Doc.fq a[k]) a[k].sort t.args a[k].args A o p q _ (M.o.below D.o) (c _ D.o).2.2.2.2.2);rw[O.o]at E;have F:Hid (∀W,Below (wr.heap.size+1) (wr.alloc (.cells #[.int .i64 (Doc.dZ a[k].op:Nat),.int .i64 a[k].sym,.int .i64 (Doc.fq a[k]:Nat),.slice o a[k].args.length q,.int .i64 a[k].sort] 238)) W->Below (w.heap.size+1) (w.alloc (.cells #[.int .i64 (g:Nat),.int .i64 t.sym,.int .i64 (i:Nat),.slice A t.args.length p,.int .i64 t.sort] 238)) W):=fun W h=>(Q.o.alloc R _).trans (h.mono aO);obtain⟨⟨x0,x1,x2,x3,x4⟩,_,_⟩:=f.o _ (F.o _ af);have SC:w.heap.size<wr.heap.size:=aO;clear c;go_wp2_with fail;refine E.o.mono ?_;rintro x S ⟨rfl,G⟩;have H:=di (F.o S (by simpa using G));clear G;cases hq:qG t a[k]
   ·go_wp2_with fail;go_roundw
    case rel=>exact⟨k+1,bJ,aO,by rw[<-m.o];exact(qM n hq).symm,H.o⟩
    case measure=>exact akL
   ·go_wp2_with fail;go_ret;exact⟨fB (by rw[<-m.o,tO (p:=qG t) n hq];rfl),(f.o _ H.o).2.1⟩
  ·go_wp2_with fail;go_ret;exact⟨fB (by rw[<-m.o,tQ aO];rfl),b.o⟩
theorem find_congr {b:Type}{p q:b->Bool}:∀(l:List b),(∀a∈l,p a=q a)->l.findIdx? p=l.findIdx? q:=by
 intro l
 induction l with
 | nil=>intro _;rfl
 | cons a l c=>
  intro h;rw[List.findIdx?_cons,List.findIdx?_cons,h a List.mem_cons_self,c (fun d e=>h d (List.mem_cons_of_mem _ e))]
theorem Sq {b:List Doc.Sym}{a:List Doc.Term}{t:Doc.Term}(c:Doc.gP b a)(d:Doc.pz b a a.length t):Doc.place a t.text=iG (qG t) a 0:=by
 rw[qL];refine find_congr a (fun u f=>?_);have h:=Doc.Qw c d f;unfold Doc.Alike at h;unfold qG zH
 by_cases e:t.text=u.text
 ·rw[decide_eq_true (h.1 e)];simp[e]
 ·rw[decide_eq_false (fun x=>e (h.2 x))];simp;exact fun x=>e x.symm
def BK (w w':World)(own:Own)(k sb:Nat)(S:Doc.dB)(R:Except Nat (List Doc.Term × Nat))(e:Ending):Prop:=
 ∃own',Fr own own' k w w'/\match R with
  | .ok r=>e=.returned (.int .i64 r.2)/\dA w' own' k sb { S with terms:=r.1 }
  | .error _=>e=.returned (.int .i64 (-1))/\dA w' own' k sb S
def lZ (t:Doc.Term)(po pn:Nat)(av:Value):List Value:=[.int .i64 (po:Int),.int .i64 t.sym,.int .i64 (pn:Int),av,.int .i64 t.sort]
theorem MF (w:World)(t:Doc.Term)(a b:Nat)(c:Option Addr)(m d:Nat)(e:TypeId)(n:Nat)(f:n=w.heap.size):∀j u,(lZ t a b (.slice c m d))[j]?=some u->((w.alloc (.cells #[.int .i64 (a:Int),.int .i64 t.sym,.int .i64 (b:Int),.slice c m d,.int .i64 t.sort] e)).drew).cell? ((⟨n,0,none⟩:Addr).add j)=some u:=by
 subst f;exact fun j u h=>qa w (lZ t a b (.slice c m d)) e j u h
theorem RV (t:Doc.Term)(b c:Nat)(d:Option Addr)(m e:Nat):∀u∈lZ t b c (.slice d m e),u.oneCell'=true:=by
 intro u a;simp only[lZ,List.mem_cons,List.not_mem_nil,or_false]at a;rcases a with rfl|rfl|rfl|rfl|rfl<;>rfl
structure aan (w:World)(own:Own)(wx:World)(t:Doc.Term)(po pn:Nat)(ao:Option Addr)(cap:Nat):Prop where
 dG:Below w.heap.size w wx
 c0:wx.cell? ⟨w.heap.size,0,none⟩=some (.int .i64 (po:Int))
 c1:wx.cell? ⟨w.heap.size,1,none⟩=some (.int .i64 t.sym)
 c2:wx.cell? ⟨w.heap.size,2,none⟩=some (.int .i64 (pn:Int))
 c3:wx.cell? ⟨w.heap.size,3,none⟩=some (.slice ao t.args.length cap)
 c4:wx.cell? ⟨w.heap.size,4,none⟩=some (.int .i64 t.sort)
 lt:w.heap.size<wx.heap.size
 ro:eD wx own (.slice ao t.args.length cap) t.args
theorem yD {own:Own}(h:w.ownsRow n 3 1 v l.length (gX l))(c:∀b,n<=b->own b=0):eD w own v l:=by
 rw[<-Bc]at h;refine fA.imp (vw h aP (by intro x d;obtain⟨e,_,rfl⟩:=List.mem_map.1 d;rfl)) fun g i hi a=>⟨c g a.1,fun hi=>?_⟩;have:=a.2 ahT 0 aO (.int .i64 (l[i]:Int)) aP;rw[show i*1+0=i by omega]at this;exact this
theorem Xp (a k:Nat)(own:Own)(S:Doc.dB)(t:Doc.Term)(A:Option Addr)(p:Nat)(w:World)(G:dA w own k a S)(hfr:dH own w)(hk:k≠0)(P:Doc.gP S.syms S.terms)(ht:Doc.pz S.syms S.terms S.terms.length t)(H:dY w (.slice A t.args.length p) t.args)(hlen:t.args.length<=1000) :
 Calls Tryz.prog 250 #[.pointer (some ⟨a,0,none⟩),.agg #[.int .i64 (Doc.dZ t.op:Nat),.int .i64 t.sym,.int .i64 (Doc.fq t:Nat),.slice A t.args.length p,.int .i64 t.sort]] w fun f w'=>BK w w' own k a S (Doc.note S.terms t) f:=by
 obtain⟨i0,hi,hz0,hz1,hz2⟩:=info_parts Tryz.GZ;have hn:=P.many
 have YU:Hid (Doc.note S.terms t=match iG (qG t) S.terms 0 with|some k=>.ok (S.terms,k)|none=>if S.terms.length=80 then .error 9 else .ok (S.terms++[t],S.terms.length)):=by
  show _=_;unfold Doc.note;rw[Sq P ht];cases iG (qG t) S.terms 0<;>rfl
 have I:Below w.heap.size w (w.alloc (.cells #[.int .i64 (Doc.dZ t.op:Nat),.int .i64 t.sym,.int .i64 (Doc.fq t:Nat),.slice A t.args.length p,.int .i64 t.sort] 238)):=ag;have l:=di (MK a S.syms S.terms t A p _ (G.book.below I) (H.below I));have J:=di G;have z:=di hfr;have Q:=di I;have UC:=di H;have HPC:Hid (∀W T (K:Value),eD W T K t.args->qE W T (lZ t (Doc.dZ t.op) (Doc.fq t) K) t):=fun W T K h=>⟨K,rfl,h⟩;have U:=G.lt;obtain⟨ao',cap',V,k1,k2,_⟩:=id H;injection V with V _ KW
 subst V KW;unfold maxLen at k2;generalize Doc.note S.terms t=R at *;generalize Doc.dZ t.op=B at *;generalize Doc.fq t=C at *;clear G hfr I H P ht;cases hp:iG (qG t) S.terms 0 with
 | some X=>
  have HRR:R=.ok (S.terms,X):=by have h:=YU.o;rw[hp]at h;exact h
  have D:=di HRR;rw[hp]at l;clear hp HRR;have Y:Hid (placeOf (some X)=(X:Int)):=rfl;rw[Y.o]at l;go_enter Tryz.func250,Tryz.ntmps250;go_wp2_with fail;refine l.o.mono ?_;rintro f b ⟨rfl,c⟩;have e:Hid (Below w.heap.size w b):=Q.o.trans (c.mono aP);exact amz
 | none=>
  have HR1:Hid (R=if S.terms.length=80 then .error 9 else .ok (S.terms++[t],S.terms.length)):=by have h:=YU.o;rw[hp]at h;exact h
  rw[hp]at l;clear hp;have Y:Hid (placeOf none=-1):=rfl;rw[Y.o]at l;obtain⟨vT,o,m⟩:=J.o.terms;obtain⟨q,r,rfl,hcap,hmax⟩:=m.form;have Z:=di o;clear m o
  by_cases L:S.terms.length=80
  ·have o80:(80:Int)<=(S.terms.length:Int):=aO;have D:Hid (R=.error 9):=by show _=_;rw[HR1.o,if_pos L]
   clear L;go_enter Tryz.func250,Tryz.ntmps250;go_wp2_with fail;refine l.o.mono ?_;rintro f b ⟨rfl,c⟩;have e:Hid (Below w.heap.size w b):=Q.o.trans (c.mono aP);have PV:=(e.o.cell (p:=⟨a,1,none⟩) U).trans Z.o;exact amz
  ·have o80:(S.terms.length:Int)<80:=aO;have D:Hid (R=.ok (S.terms++[t],S.terms.length)):=by show _=_;rw[HR1.o,if_neg L]
   clear L;go_enter Tryz.func250,Tryz.ntmps250;go_wp2_with fail;refine l.o.mono ?_;rintro f b ⟨rfl,c⟩;have e:Hid (Below w.heap.size w b):=Q.o.trans (c.mono aP);have PV:=(e.o.cell (p:=⟨a,1,none⟩) U).trans Z.o;have hs1:=c.size;simp only[World.size_alloc]at hs1;have bg:∀j u,(w.alloc (.cells #[.int .i64 (B:Nat),.int .i64 t.sym,.int .i64 (C:Nat),.slice A t.args.length p,.int .i64 t.sort] 238)).cell? ⟨w.heap.size,j,none⟩=some u->b.cell? ⟨w.heap.size,j,none⟩=some u:=fun j u h=>(c.cell (p:=⟨w.heap.size,j,none⟩) aP).trans h;have d3:=bg 3 (.slice A t.args.length p) aP;have HY:=di bg;have hf1:∀j,b.frozen? ⟨w.heap.size,j,none⟩=false:=fun j=>(c.frozen (p:=⟨w.heap.size,j,none⟩) aP).trans aP;have Fw:=di (ES (.slice A t.args.length p) t.args b (UC.o.below e.o) aO);clear c bg;go_wp2_with fail;refine Fw.o.mono ?_;rintro f M ⟨⟨g,i,rfl,l1,l2,hown2⟩,s⟩;have hs2:=s.size;have e3:=(s.cell (p:=⟨w.heap.size,3,none⟩) aW).trans d3;have f3:=(s.frozen (p:=⟨w.heap.size,3,none⟩) aW).trans (hf1 3)
   have d:Hid (aan w own (M.setCell ⟨w.heap.size,3,none⟩ (.slice g t.args.length i)) t B C g i):=by
    have N:∀j u,3≠j->(w.alloc (.cells #[.int .i64 (B:Nat),.int .i64 t.sym,.int .i64 (C:Nat),.slice A t.args.length p,.int .i64 t.sort] 238)).cell? ⟨w.heap.size,j,none⟩=some u->(M.setCell ⟨w.heap.size,3,none⟩ (.slice g t.args.length i)).cell? ⟨w.heap.size,j,none⟩=some u:=fun j u hj h=>by
     rw[ak (fun h=>hj aiF)];exact(s.cell (p:=⟨w.heap.size,j,none⟩) aW).trans (HY.o j u h)
    refine⟨(e.o.trans (s.mono aO)).setCell ae _,N 0 _ aO aP,N 1 _ aO aP,N 2 _ aO aP,World.cell?_setCell_same _ _ _ e3,N 4 _ aO aP,by simp[World.setCell];omega,?_⟩;have h3:(M.setCell ⟨w.heap.size,3,none⟩ (.slice g t.args.length i)).ownsRow b.heap.size 3 1 (.slice g t.args.length i) t.args.length (gX t.args):=ownsRow_setCell_below hown2 aW _;exact yD h3 (fun v E=>z.o v aO)
   clear hown2 s hf1 d3 Fw;go_upto_region 5 with fail;generalize hW:M.setCell ⟨w.heap.size,3,none⟩ (.slice g t.args.length i)=n at *;have x:=J.o.below d.o.dG;have FT:dH own n:=fun v E=>z.o v (Nat.le_trans d.o.dG.size E);obtain⟨vT,o,m⟩:=x.terms
   obtain rfl:Value.slice q S.terms.length r=vT:=by
    have:=(d.o.dG.cell (p:=⟨a,1,none⟩) U).trans Z.o;rw[o]at this;injection this with this
    exact this.symm
   have hlt3:=x.lt;have b0:=d.o.c0;have b1:=d.o.c1;have b2:=d.o.c2;have b3:=d.o.c3;have b4:=d.o.c4;have blt:=d.o.lt;obtain⟨O,x1,x2,x3,x4⟩:=id m;have rq:=di x1;have su:=x.fr
   have kZ:Hid ((Value.slice q S.terms.length r).ownBlock≠some a):=by
    intro h;obtain⟨_,_,c1,hc1⟩:=m.type a h;obtain⟨c2,hc2⟩:=x.obj;exact gp hc1 hc2 aR rfl
   have HX:=di (show fO (qE n own) O S.terms/\(∀bq∈O,bq.length=5) from⟨x2,x3⟩);have xE:=di m;have nV:=di x;have XL:=di FT;have Mc:=di o;clear x1 x2 x3 x4 m x FT PV hW e3 f3;go_cut [] (fun wy=>∃bn cap y,jg n wy own y k a 1 (.slice q S.terms.length r) (.slice (some ⟨bn,0,none⟩) (S.terms.length+1) cap)/\wy.ownsRow 0 238 5 (.slice (some ⟨bn,0,none⟩) (S.terms.length+1) cap) (S.terms.length+1) (O.flatten++lZ t B C (.slice g t.args.length i))/\y bn=k)
   case first=>
    go_region_law (refine iH rfl (.tmp 28) (.tmp 30) 56 rfl 0 238 i0 (.agg #[.int .i64 0,.int .i64 0,.int .i64 0,.slice none 0 0,.int .i64 0]) 5 56 Tryz.underlying56 hi hz0 hz1 hz2 rfl aR (.slice q S.terms.length r) S.terms.length O.flatten bZ aiK ⟨n.heap.size,0,none⟩ 1 (lZ t B C (.slice g t.args.length i)) bZ rfl (by exact MF _ t _ _ _ _ _ _ _ aP) (RV _ _ _ _ _ _) aX aO aP ?_;intro ga eZ b hown' hgrow hg1 hg2;have q1:b.cell? ⟨a,1,none⟩=some (.slice q S.terms.length r):=((dP hgrow (a:=⟨a,1,none⟩) aQ (fun f=>kZ.o f.symm)).trans (dC _ _ ⟨a,1,none⟩ aQ)).trans o;have q2:b.frozen? ⟨a,1,none⟩=false:=((dS hgrow (a:=⟨a,1,none⟩) aQ (fun f=>kZ.o f.symm)).trans (dI _ _ ⟨a,1,none⟩ aQ)).trans (su 1))
    all_goals
     have hap:=nS (n:=S.terms.length+1) xE.o XL.o nV.o.mine nV.o.lt kZ.o (ag.drew) Mc.o hown' hgrow hg2;go_wp2_with fail;go_meet
     case rel=>exact⟨ga,eZ,_,hap.1,hap.2.1,aiN⟩
   case rest=>
    obtain⟨ga,eZ,y,hst,hown3,qK⟩:=hcut;have hcell:=hst.cell;have F:=di hst;have HOWN:=di hown3;have uJ:=di qK;clear hst hown3 qK su b0 b1 b2 b3 b4;go_wp2_with fail;go_ret;rw[D.o];have hro:eD wc y (.slice g t.args.length i) t.args:=d.o.ro.fr F.o.fr hk;refine⟨y,(Fr.of_below k z.o d.o.dG).trans F.o.fr,?_,nV.o.pK Mc.o F.o hk ?_⟩
    ·first|rfl|exact fB aP
    ·exact dN.snoc (w:=n) (C:=qE n own) (v:=.slice q S.terms.length r) ⟨rq.o,HX.o.1,HX.o.2⟩ HOWN.o (fun bA bB h=>qb n wc own y (fun v E h0=>⟨F.o.fr.block v E aO,by rw[F.o.fr.ext v E,h0]⟩) bA bB h) (HPC.o _ _ _ hro) rfl uJ.o
end Go.Proofs.YtbichedkajfmiaaGreatDoor
