import Derived.BigQuiet
import Derived.Deep.DeepCutAuto
import Derived.Deep.QuietTactic
import Derived.Deep.RegionHeld3
import Derived.Deep.RegionLawGrows
import Derived.Deep.RegionWith
import Derived.Test.YtjiagbaaikifpaaGreatDoorGNumMath2
import Derived.Test.YtjiagbaaikifpaaGreatDoorC
set_option maxRecDepth 100000
set_option maxHeartbeats 16000000
namespace Go.Proofs.YtjiagbaaikifpaaGreatDoor
open Go.RowKit Go.Proofs.Tryz
variable {A:List Doc.Tr}{B b:List Value}{E e:TypeId}{N i j k m n:Nat}{V v:Value}{W u w:World}{Y:Doc.Tr}{a:eu}{l:List Nat}{x:dN}
theorem dV (w:World)(o:Obj)(p:Addr)(h:p.block<w.heap.size):((w.alloc o).drew).cell? p=w.cell? p:=
 (((Below.refl w.heap.size w).alloc ae o).drew).cell h
theorem eF (w:World)(o:Obj)(p:Addr)(h:p.block<w.heap.size):((w.alloc o).drew).frozen? p=w.frozen? p:=
 (((Below.refl w.heap.size w).alloc ae o).drew).frozen h
theorem eY {row:Option Nat}(b:w.grownBy W row){a:Addr}(c:a.block<w.heap.size)(d:some a.block≠row):W.cell? a=w.cell? a:=
 World.cell?_of_block (b.block a.block c d)
theorem fo {row:Option Nat}(b:w.grownBy W row){a:Addr}(c:a.block<w.heap.size)(d:some a.block≠row):W.frozen? a=w.frozen? a:=
 World.frozen?_of_block (b.block a.block c d)
theorem OE {P:Program}(w:World)(Q:Nat)(t f e:TypeId)(i:TypeInfo)(z:Value)(size bytes:Nat)(p:P.underlying t=some (.slice e))(q:P.info? e=some i)(E:i.zero=some z)(r:i.size=size)(F:i.bytes=bytes)(G:z.cells.size=size)(H:0<size)
 (v:Value) (n:Nat) (s:List Value) (h:w.ownsRow Q e size v n s)
 (c:Addr) (m j:Nat) (b:List Value) (k:b.length=m*size) (x:∀I u,b[I]?=some u->w.cell? (c.add I)=some u) (J:∀u∈b,u.oneCell'=true)
 (K:n+m<=maxLen) (L:(n+m)*bytes<=140737488355328) (Z:0<m) (y:Value) (R:World) (A:(Builtin.append_ #[t,t] f #[v,.slice (some c) m j]).run P w=.ok y R) :
 y.ownBlock=v.ownBlock\/∃g,y.ownBlock=some g/\w.heap.size<=g:=by
 rcases h.2 with ⟨rfl,l⟩|⟨g,o,B,rfl,hbg,S,hnc,hcm,T,htake⟩
 ·have U:s=[]:=List.eq_nil_of_length_eq_zero (by rw[h.1,l];simp);subst U l;obtain⟨V,W,d,C,_,r3⟩:=run_append_own (P:=P) w w.heap.size t f e i z size bytes p q E r F G H (dE) 0 [] (World.ownsRow_nil w _ e size) c m j b k x J K L ae;rw[A]at d;injection d with a M
  subst a;rcases C.2 with ⟨_,l⟩|⟨g,o,B,a,D,_⟩
  ·exact aR
  ·subst a;exact .inr ⟨g,rfl,D⟩
 ·by_cases N:n+m<=o
  ·subst r;have X:n*i.size+b.length<=B.size:=by rw[k,T,<-Nat.add_mul];exact Nat.mul_le_mul_right _ N
   have O:=run_append_room (P:=P) w t f e i p q g n o B S c m j b k x J N X;rw[A]at O;injection O with a M
   subst a;exact .inl rfl
  ·obtain⟨V,W,d,C,_⟩:=run_append_arg_grows (P:=P) w t f e i z size bytes p q E r F G H (dA g 0) n o s h.1 (h.cells (g:=g) rfl) c m j b k x aR K L;rw[A]at d;injection d with a M
   subst a;rcases C.2 with ⟨_,l⟩|⟨Y,cap',cur',a,D,_⟩
   ·exact aR
   ·subst a;exact .inr ⟨Y,rfl,D⟩
theorem jC {P:Program}{ops:Array Oper}{o:Oper}{a:Act}{w:World}{K:Act->World->Prop}{Q:Exit->Act->World->Prop}{E:Prop}
 (N:o.guard=none) (s x:Operand) (t:TypeId) (O:o.op=Op.call { callee:=Callee.builtin Builtin.append,args:=#[s,x],argTypes:=#[t,t] })
 (b:Nat) (e:TypeId) (i:TypeInfo) (z:Value) (size bytes:Nat) (m:P.underlying t=some (.slice e)) (p:P.info? e=some i) (q:i.zero=some z) (r:i.size=size) (y:i.bytes=bytes) (A:z.cells.size=size) (B:0<size)
 (v:Value) (n:Nat) (f:List Value) (R:a.eval s=v) (C:w.ownsRow b e size v n f)
 (h:Addr) (l:Nat) (c:List Value) (S:a.eval x=.slice (some h) 1 l) (D:c.length=1*size) (F:∀G u,c[G]?=some u->w.cell? (h.add G)=some u) (H:∀u∈c,u.oneCell'=true)
 (I:n+1<=maxLen) (J:(n+1)*bytes<=140737488355328) (T:b<=w.heap.size)
 (U:∀g j d,d.ownsRow b e size (dJ g (n+1) j) (n+1) (f++c)->w.grownBy d v.ownBlock->b<=g->(v.ownBlock=some g\/w.heap.size<=g)->K (a.put o.dst (dJ g (n+1) j)) d) :
 if Region.wanted o (yielded ops a.tmps)=true then Oper.wp P o a w K Q else E:=by
 have V:Region.wanted o (yielded ops a.tmps)=true:=by simp[Region.wanted,N]
 rw[if_pos V];obtain⟨v',d,L,M,W,_⟩:=run_append_own (P:=P) w b t o.type e i z size bytes m p q r y A B v n f C h 1 l c D F H I J T;unfold Oper.wp;simp[execOp,O,resolve,invoke,builtin,R,S,L,Result.andThen];have X:=M;obtain⟨q1,Y⟩:=M;rcases Y with ⟨_,h0⟩|⟨g,j,cur,Z,hb,_⟩
 ·exact aR
 ·subst Z;refine U g j d X W hb ?_;rcases OE w b t o.type e i z size bytes m p q r y A B v n f C h 1 l c D F H I J aR _ d L with k|⟨g',k,hg'⟩
  ·exact .inl k.symm
  ·simp only[Value.ownBlock,Option.some.injEq]at k;subst k;exact .inr hg'
theorem dU {P:Program}{f:Array Oper}{rest:List Oper}{o:Oper}{a:Act}{Q:Exit->Act->World->Prop}(j:o.guard=none)(s x:Operand)(t:TypeId)
 (q:o.op=Op.call { callee:=Callee.builtin Builtin.append,args:=#[s,x],argTypes:=#[t,t] })
 (b:Nat) (e:TypeId) (i:TypeInfo) (z:Value) (size bytes:Nat) (r:P.underlying t=some (.slice e)) (y:P.info? e=some i) (A:i.zero=some z) (B:i.size=size) (C:i.bytes=bytes) (D:z.cells.size=size) (E:0<size)
 (v:Value) (n:Nat) (k:List Value) (F:a.eval s=v) (G:w.ownsRow b e size v n k)
 (l:Addr) (m:Nat) (c:List Value) (H:a.eval x=.slice (some l) 1 m) (I:c.length=1*size) (J:∀p u,c[p]?=some u->w.cell? (l.add p)=some u) (K:∀u∈c,u.oneCell'=true)
 (L:n+1<=maxLen) (M:(n+1)*bytes<=140737488355328) (N:b<=w.heap.size)
 (O:∀g h d,d.ownsRow b e size (dJ g (n+1) h) (n+1) (k++c)->w.grownBy d v.ownBlock->b<=g->(v.ownBlock=some g\/w.heap.size<=g)->wpList P f Q rest (a.put o.dst (dJ g (n+1) h)) d) :
 wpList P f Q (o::rest) a w:=by
 refine wpList_plain j λR S=>?_
 have:=jC (P:=P) (ops:=f) (o:=o) (a:=a) (w:=w) (K:=R) (Q:=Q) (E:=False) j s x t q b e i z size bytes r y A B C D E v n k F G l m c H I J K L M N
  (λg h d T U V W=>S _ _ (O g h d T U V W))
 have X:Region.wanted o (yielded f a.tmps)=true:=by simp[Region.wanted,j]
 rwa [if_pos X]at this
structure mo (w w2:World)(eb f base:Nat)(e:TypeId)(size:Nat)(v v':Value)(n:Nat)(xs:List Value):Prop where
 cell:w2.cell? (dA eb f)=some v'
 cells:∀f',f≠f'->w2.cell? (dA eb f')=w.cell? (dA eb f')
 frozen:∀o,w2.frozen? (dA eb o)=w.frozen? (dA eb o)
 own:w2.ownsRow base e size v' n xs
 other:∀(e2:TypeId) (s2:Nat) (u:Value) (m:Nat) (ys:List Value),w.ownsRow base e2 s2 u m ys->(∀b,u.ownBlock=some b->v.ownBlock≠some b)->w2.ownsRow base e2 s2 u m ys/\(∀b,u.ownBlock=some b->v'.ownBlock≠some b)
 below:Below eb w w2
 block:∀k,k<w.heap.size->k≠eb->some k≠v.ownBlock->w2.heap[k]?=w.heap[k]?
 size:w.heap.size<=w2.heap.size
theorem gK {eb f:Nat}{size:Nat}(j:eb<n)(l:w.ownsRow n e size v m b)(p:eb<w.heap.size){y:Value}(z:w.cell? (dA eb f)=some y)
 (A:W.ownsRow n e size (dJ k (m+1) i) (m+1) B) (a:w.grownBy W v.ownBlock) (C:v.ownBlock=some k\/w.heap.size<=k) :
 mo w (W.setCell (dA eb f) (dJ k (m+1) i)) eb f n e size v (dJ k (m+1) i) (m+1) B:=by
 have q:some eb≠v.ownBlock:=λh=>aP ((l.lt eb h.symm).1);have r:∀o,W.cell? (dA eb o)=w.cell? (dA eb o):=λo=>eY a p q;refine⟨?_,?_,?_,ownsRow_setCell_below A j _,?_,?_,?_,?_⟩
 ·exact aC ((r f).trans z)
 ·intro D E;rw[ax (λh=>E amM)];exact r D
 ·intro o;rw[World.frozen?_setCell];exact fo a p q
 ·intro K L F M N s t;refine⟨ownsRow_setCell_below (s.kept a ?_) j _,?_⟩
  ·cases hv:F.ownBlock with
   | none=>exact .inl rfl
   | some c=>exact .inr λh=>t c hv h.symm
  ·intro c u h;have G:k=c:=by simpa[Value.ownBlock] using h
   subst G;rcases C with x|x
   ·exact t k u x
   ·have:=(s.lt k u).2;exact aR
 ·have H:Below eb w W:=(Below.refl eb w).grown a aR (λd g=>aP ((l.lt d g).1));exact H.setCell ae _
 ·intro d g I J;rw[aD I];exact a.block d g J
 ·have:=a.size;simpa[World.setCell] using this
abbrev Own:=Nat->Nat
structure Fr (own own':Own)(k:Nat)(w w':World):Prop where
 os:w'.os=w.os
 tape:w'.tape=w.tape
 output:w'.output=w.output
 size:w.heap.size<=w'.heap.size
 block:∀b,b<w.heap.size->own b≠k->w'.heap[b]?=w.heap[b]?
 ext:∀b,b<w.heap.size->own' b=own b
 fresh:∀b,w'.heap.size<=b->own' b=0
def eD (own:Own)(w:World):Prop:=∀b,w.heap.size<=b->own b=0
theorem Fr.refl {own:Own}(h:eD own w)(k:Nat):Fr own own k w w:=⟨rfl,rfl,rfl,ae,λ_ _ _=>rfl,λ_ _=>rfl,h⟩
variable {o O Q:Own}
theorem Fr.trans {a:World}(h:Fr o O n a w)(g:Fr O Q n w W):Fr o Q n a W:=
 ⟨g.os.trans h.os,g.tape.trans h.tape,g.output.trans h.output,Nat.le_trans h.size g.size,
  λi hi b=>(g.block i (Nat.lt_of_lt_of_le hi h.size) (by rw[h.ext i hi];exact b)).trans (h.block i hi b),
  λi hi=>(g.ext i (Nat.lt_of_lt_of_le hi h.size)).trans (h.ext i hi),g.fresh⟩
theorem Fr.of_below {own:Own}(k:Nat)(c:eD own w)(h:dB w W):Fr own own k w W:=
 ⟨h.os,h.tape,h.output,h.size,λb a _=>h.block b a,λ_ _=>rfl,λb a=>c b (Nat.le_trans h.size a)⟩
theorem Fr.below (h:Fr o O n w W)(g:Below w.heap.size W u):Fr o O n w u:=
 ⟨g.os.trans h.os,g.tape.trans h.tape,g.output.trans h.output,Nat.le_trans h.size g.size,λi hi a=>(g.block i hi).trans (h.block i hi a),h.ext,λW b=>h.fresh W (Nat.le_trans g.size b)⟩
theorem Fr.drew (h:Fr o O n w W):Fr o O n w W.drew:=h.below (Below.refl _ W).drew
theorem Fr.setCell {k:Nat}{a:World}(h:Fr o O k a w){p:Addr}(b:a.heap.size<=p.block)(u:Value):Fr o O k a (w.setCell p u):=h.below ((Below.refl _ w).setCell b u)
theorem Fr.cell {own:Own}(h:Fr own o n w W){p:Addr}{v:Value}(a:w.cell? p=some v)(b:own p.block≠n):W.cell? p=some v:=
 (World.cell?_of_block (w:=w) (h.block p.block (World.block_lt_of_cell? w p a) b)).trans a
theorem Fr.owns {own:Own}(j:Fr own o n w W){a:Nat}{e:TypeId}{size:Nat}{v:Value}{b:Nat}{c:List Value}(d:w.ownsRow a e size v b c)(k:∀f,v.ownBlock=some f->own f≠n):W.ownsRow a e size v b c:=by
 refine⟨d.1,?_⟩;rcases d.2 with l|⟨g,m,p,h,q,i,r⟩
 ·exact .inl l
 ·refine .inr ⟨g,m,p,h,q,?_,r⟩;rw[j.block g (Array.getElem?_eq_some_iff.1 i).1 (k g aoK)];exact i
theorem Fr.eH {own:Own}(h:Fr own o n w W):eD o W:=h.fresh
def fG (w:World)(own:Own)(v:Value)(xs:List Nat):Prop:=gu v xs.length (λg i=>own g=0/\∀h:i<xs.length,w.cell? (dA g i)=some (dw xs[i]))
theorem fG.ints {own:Own}(h:fG w own v l):eX w v l:=gu.imp h λ_ _ _ a=>a.2
theorem fG.fr {own:Own}(h:fG w own v l)(b:Fr own o n w W)(c:n≠0):fG W o v l:=
 gu.imp h λg i hi a=>⟨by rw[b.ext g (aj (a.2 hi))];exact a.1,λhi=>b.cell (a.2 hi) (by rw[show own g=0 from a.1];omega)⟩
theorem fG.below {own:Own}(h:fG w own v l)(b:dB w W):fG W own v l:=
 gu.imp h λ_ _ _ a=>⟨a.1,λhi=>(b.eT (a.2 hi))⟩
theorem fG.nil (w:World)(own:Own):fG w own (dE) []:=⟨none,0,rfl,ae,bz,by intro i hi;simp at hi⟩
inductive iw {α β:Type} (C:α->β->Prop):List α->List β->Prop where
 | nil:iw C [] []
 | cons {a b xs ys}:C a b->iw C xs ys->iw C (a::xs) (b::ys)
theorem iw.len {a b:Type}{C:a->b->Prop}{c:List a}{d:List b}(h:iw C c d):c.length=d.length:=by
 induction h with
 | nil=>rfl
 | cons _ _ e=>simp[e]
theorem iw.imp {a b:Type}{C D:a->b->Prop}{c:List a}{d:List b}(h:iw C c d)(g:∀e f,C e f->D e f):iw D c d:=by
 induction h with
 | nil=>exact .nil
 | cons i _ j=>exact .cons (g _ _ i) j
theorem iw.app {a b:Type}{C:a->b->Prop}{c d:List a}{e f:List b}(h:iw C c e)(g:iw C d f):iw C (c++d) (e++f):=by
 induction h with
 | nil=>exact g
 | cons i _ j=>exact .cons i j
theorem iw.take {a b:Type}{C:a->b->Prop}{c:List a}{d:List b}(h:iw C c d):∀n,iw C (c.take n) (d.take n):=by
 induction h with
 | nil=>intro n;simp;exact .nil
 | cons e _ f=>intro n;cases n with
  | zero=>simp;exact .nil
  | succ n=>simp;exact .cons e (f n)
theorem iw.get {c d:Type}{C:c->d->Prop}{a:List c}{b:List d}(h:iw C a b):∀i (hi:i<a.length) (e:i<b.length),C a[i] b[i]:=by
 induction h with
 | nil=>intro i hi;simp at hi
 | cons f _ g=>intro i hi e;cases i with
  | zero=>exact f
  | succ i=>simpa using g i di (by simpa using e)
def eU {α:Type}(w:World)(own:Own)(k:Nat)(e:TypeId)(sz:Nat)(C:List Value->α->Prop)(v:Value)(zs:List α):Prop:=
 ∃xs:List (List Value),w.ownsRow 0 e sz v zs.length xs.flatten/\iw C xs zs/\(∀x∈xs,x.length=sz)/\∀b,v.ownBlock=some b->own b=k
theorem eU.imp {a:Type}{own:Own}{C D:List Value->a->Prop}{b:List a}(h:eU w own n e m C v b)(f:∀c d,C c d->D c d):eU w own n e m D v b:=by
 obtain⟨g,i,j,k,l⟩:=h;exact⟨g,i,j.imp f,k,l⟩
theorem eU.lt {a:Type}{own:Own}{C:List Value->a->Prop}{c:List a}(h:eU w own n e m C v c):∀b,v.ownBlock=some b->b<w.heap.size:=by
 obtain⟨g,d,i,j,k⟩:=h;exact λb f=>(d.lt b f).2
theorem eU.kept {c:Type}{own:Own}{C:List Value->c->Prop}{d:List c}(i:eU w own n e m C v d)
 (f:∀b,v.ownBlock=some b->W.heap[b]?=w.heap[b]?/\o b=own b):eU W o n e m C v d:=by
 obtain⟨j,g,k,l,p⟩:=i;refine⟨j,⟨g.1,?_⟩,k,l,λb a=>by rw[(f b a).2];exact p b a⟩;rcases g.2 with q|⟨h,r,s,a,t,u,x⟩
 ·exact .inl q
 ·exact .inr ⟨h,r,s,a,t,by rw[(f h (by rw[a];rfl)).1];exact u,x⟩
theorem eU.nil {a:Type}(w:World)(own:Own)(k:Nat)(e:TypeId)(b:Nat)(C:List Value->a->Prop):eU w own k e b C (dE) []:=⟨[],World.ownsRow_nil _ _ _ _,.nil,aW,by intro d c;simp[Value.ownBlock]at c⟩
theorem eU.sl {d:Type}{own:Own}{C:List Value->d->Prop}{a:List d}(o:eU w own n e m C v a) :
 gu v a.length (λg i=>own g=n/\∀hi:i<a.length,∃c:List Value,c.length=m/\C c a[i]/\∀j u,j<m->c[j]?=some u->w.cell? (dA g (i*m+j))=some u):=by
 obtain⟨p,q,f,h,r⟩:=o;have k:=f.len;have s:=Row.fq q k.symm h;obtain⟨t,x,b,E,y,F,z⟩:=s;rw[k]at b;refine⟨t,x,b,aR,y,λi hi=>?_⟩;obtain⟨g,l,A⟩:=z i aR;refine⟨g,l,r g (by rw[b,l];rfl),λhi=>⟨p[i],h _ aW,f.get i aR hi,λj u B D=>A j B u D⟩⟩
theorem eU.take {o:Type}{own:Own}{C:List Value->o->Prop}{f:List o}(s:eU w own n e m C (.slice a k i) f)(b:Nat)(p:b<=f.length):eU w own n e m C (.slice a b i) (f.take b):=by
 obtain⟨c,t,q,g,u⟩:=s;have K:=q.len
 have v:(c.take b).flatten=c.flatten.take (b*m):=by
  have y:c=c.take b++c.drop b:=(List.take_append_drop b c).symm;have z:(c.take b).flatten.length=b*m:=by rw[vW (λx d=>g x (List.take_subset _ _ d))];congr 1;simp;omega
  conv=>rhs;rw[y,List.flatten_append]
  rw[List.take_append_of_le_length aR,<-z,List.take_length]
 refine⟨c.take b,⟨?_,?_⟩,q.take b,λx d=>g x (List.take_subset _ _ d),λA r=>u A (by cases a with
  | none=>simp[Value.ownBlock]at r
  | some L=>exact r)⟩
 ·rw[vW (λx d=>g x (List.take_subset _ _ d))];congr 1;simp;omega
 ·rw[List.length_take,Nat.min_eq_left p];rcases t.2 with ⟨h,M⟩|⟨B,N,D,h,E,F,O,G,H,I⟩
  ·injection h with j J l;subst j l;have:b=0:=aR;subst this;exact .inl ⟨rfl,rfl⟩
  ·injection h with j J l;subst j l;refine .inr ⟨B,i,D,rfl,E,F,aR,G,H,?_⟩;rw[v,<-I,List.take_take,Nat.min_eq_left (Nat.mul_le_mul_right _ p)]
theorem eU.snoc {f:Type}{w i:World}{own':Own}{k:Nat}{h:TypeId}{b:Nat}{C D:List Value->f->Prop}{v:Value}{zs:List f}{g cap:Nat}{c:List Value}{a:f}{d:List (List Value)}
 (j:w.ownsRow 0 h b v zs.length d.flatten/\iw C d zs/\(∀x∈d,x.length=b)) (l:i.ownsRow 0 h b (dJ g (zs.length+1) cap) (zs.length+1) (d.flatten++c)) (m:∀c a,C c a->D c a) (n:D c a) (o:c.length=b) (p:own' g=k) :
 eU i own' k h b D (dJ g (zs.length+1) cap) (zs++[a]):=by
 obtain⟨_,q,r⟩:=j;refine⟨d++[c],?_,(q.imp m).app (.cons n .nil),?_,?_⟩
 ·simpa using l
 ·intro x e;rcases List.mem_append.1 e with e|e
  ·exact r x e
  ·rw[List.mem_singleton.1 e];exact o
 ·intro s t;have:g=s:=by simpa[Value.ownBlock] using t
  subst this;exact p
def II {α:Type}(C:World->Own->List Value->α->Prop):Prop:=
 ∀(w w':World) (own own':Own),(∀b,b<w.heap.size->own b=0->w'.heap[b]?=w.heap[b]?/\own' b=0)->∀c a,C w own c a->C w' own' c a
theorem eU.step {d:Type}{C:World->Own->List Value->d->Prop}(h:II C){w a:World}{own c:Own}{k:Nat}{e:TypeId}{f:Nat}{v:Value}{g:List d}(i:eU w own k e f (C w own) v g)
 (j:∀b,b<w.heap.size->own b=0->a.heap[b]?=w.heap[b]?/\c b=0) (l:∀b,v.ownBlock=some b->a.heap[b]?=w.heap[b]?/\c b=own b):eU a c k e f (C a c) v g:=
 (i.imp (λm n=>h w a own c j m n)).kept l
theorem eU.type {f:Type}{own:Own}{C:List Value->f->Prop}{h:List f}(i:eU w own n e m C v h):∀b,v.ownBlock=some b->own b=n/\b<w.heap.size/\∃c,w.heap[b]?=some (.cells c e (0,0)):=by
 obtain⟨o,g,_,_,j⟩:=i;intro b a;refine⟨j b a,(g.lt b a).2,?_⟩;rcases g.2 with ⟨d,_⟩|⟨k,p,c,d,_,l,_⟩
 ·rw[d]at a;simp[Value.ownBlock]at a
 ·rw[d]at a;have:k=b:=aor;subst this;exact⟨c,l⟩
theorem eU.form {d:Type}{own:Own}{C:List Value->d->Prop}{b:List d}(h:eU w own n e m C v b):∃f a,v=.slice f b.length a/\b.length<=a/\a<=2 ^ 63-1:=by
 obtain⟨l,g,_⟩:=h;rcases g.2 with ⟨c,i⟩|⟨o,a,p,c,_,_,j,k,_⟩
 ·exact⟨none,0,by rw[c,i],aR,aR⟩
 ·exact⟨_,a,c,j,by unfold maxLen at k;omega⟩
theorem iH {b c:Array Value}(h:w.heap[n]?=some (.cells b e (0,0)))(a:w.heap[m]?=some (.cells c E (0,0)))(d:e≠E):n≠m:=by
 intro f;subst f;rw[h]at a;injection a with a;injection a with _ a _;exact d a
def dG (own:Own)(g k:Nat):Own:=λb=>if b=g then k else own b
structure ky (w w2:World)(own own':Own)(k sb f:Nat)(v v':Value):Prop where
 fr:Fr own own' k w w2
 cell:w2.cell? (dA sb f)=some v'
 cells:∀f',f≠f'->w2.cell? (dA sb f')=w.cell? (dA sb f')
 frozen:∀o,w2.frozen? (dA sb o)=w.frozen? (dA sb o)
 other:∀b,b<w.heap.size->b≠sb->v.ownBlock≠some b->w2.heap[b]?=w.heap[b]?
 type:∀cur e,w.heap[sb]?=some (.cells cur e (0,0))->∃cur',w2.heap[sb]?=some (.cells cur' e (0,0))
theorem lg {a:Array Value}(h:w.heap[n]?=some (.cells a e (0,0))):∃b,(w.setCell (dA n m) v).heap[n]?=some (.cells b e (0,0)):=by
 simp only[World.setCell,Array.getElem?_modify,if_true,h,Option.map_some];exact⟨_,rfl⟩
theorem qF {B:Type}{own:Own}{I:List Value->B->Prop}{J:List B}{d n:Nat}(K:eU w own m e j I v J)(L:eD own w)(M:own k=m)(O:k<w.heap.size)
 (s:v.ownBlock≠some k) (g:dB w W) (P:w.cell? (dA k i)=some V) (t:u.ownsRow 0 e j (dJ N n d) n b) (l:W.grownBy u v.ownBlock) (C:v.ownBlock=some N\/W.heap.size<=N) :
 ky w (u.setCell (dA k i) (dJ N n d)) own (dG own N m) m k i v (dJ N n d)/\
 (u.setCell (dA k i) (dJ N n d)).ownsRow 0 e j (dJ N n d) n b/\k≠N:=by
 have Z:=g.size;have hgs:=l.size;have D:=K.type
 have Q:k≠N:=by
  intro h;rcases C with f|f
  ·rw[h]at s;exact s f
  ·exact aR
 have x:∀a,a≠k->(u.setCell (dA k i) (dJ N n d)).heap[a]?=u.heap[a]?:=λa c=>aD c;have y:∀a,a<w.heap.size->v.ownBlock≠some a->u.heap[a]?=w.heap[a]?:=λa c h=>(l.block a aR (λe=>h e.symm)).trans (g.block a c);have p:u.heap[k]?=w.heap[k]?:=y k O s;have E:(u.setCell (dA k i) (dJ N n d)).heap.size=u.heap.size:=amn;refine⟨⟨⟨?_,?_,?_,by rw[E];omega,?_,?_,?_⟩,?_,?_,?_,?_,?_⟩,?_,Q⟩
 ·exact(l.os.trans g.os)
 ·exact(l.tape.trans g.tape)
 ·exact(l.output.trans g.output)
 ·intro a c F;have z:a≠k:=λh=>F (by rw[h];exact M);have f:v.ownBlock≠some a:=λh=>F (D a h).1;rw[x a z];exact y a c f
 ·intro a c;unfold dG
  by_cases A:a=N
  ·rw[if_pos A];rcases C with h|h
   ·rw[A];exact(D N h).1.symm
   ·exact aR
  ·rw[if_neg A]
 ·intro a c;rw[E]at c;unfold dG;rw[if_neg (by intro h;have h3:=(t.lt N rfl).2;omega)];exact L a aR
 ·exact aC ((World.cell?_of_block (w:=w) (a:=dA k i) p).trans P)
 ·intro R S;rw[ax (λh=>S amM)];exact World.cell?_of_block (w:=w) (a:=dA k R) p
 ·intro o;rw[World.frozen?_setCell];exact World.frozen?_of_block (w:=w) (a:=dA k o) p
 ·intro a c z f;rw[x a z];exact y a c f
 ·intro G e' h;exact lg (p.trans h)
 ·refine⟨t.1,?_⟩;rcases t.2 with ⟨q,_⟩|⟨H,T,G,q,U,X,Y⟩
  ·cases q
  ·refine .inr ⟨H,T,G,q,U,?_,Y⟩;injection q with r;injection r with r;injection r with r;rw[x H aR];exact X
abbrev fB:=Doc.Term
structure y7 (w:World)(g o:Nat)(t:fB):Prop where
 text:w.cell? (dA g o)=some (dD t.text)
 op:w.cell? (dA g (o+1))=some (dw t.op)
 sort:w.cell? (dA g (o+2))=some (dw t.sort)
 sym:w.cell? (dA g (o+3))=some (dw t.sym)
 args:∃av,w.cell? (dA g (o+4))=some av/\eX w av t.args
variable {X:fB}
theorem y7.below {o:Nat}(h:y7 w n o X)(a:dB w W):y7 W n o X:=by
 have b:=aj h.text;obtain⟨c,d,e⟩:=h.args;exact⟨(a.dL h.text b),(a.dL h.op b),(a.dL h.sort b),(a.dL h.sym b),c,(a.dL d b),e.below a⟩
def EX (w:World)(v:Value)(ts:List fB):Prop:=gu v ts.length (λg i=>∀h:i<ts.length,y7 w g (i*5) ts[i])
theorem EX.below {a:List fB}(h:EX w v a)(b:dB w W):EX W v a:=
 gu.imp h λ_ _ _ c hi=>(c hi).below b
def oU (w:World)(bb:Nat)(ts:List fB):Prop:=∃vT,w.cell? (dA bb 1)=some vT/\EX w vT ts
theorem oU.below {a:List fB}(h:oU w n a)(b:dB w W):oU W n a:=by
 obtain⟨v,c,d⟩:=h;exact⟨v,(b.eT c),d.below b⟩
structure IE (w:World)(g o:Nat)(s:Doc.Sym):Prop where
 name:w.cell? (dA g o)=some (dD s.name)
 args:∃av,w.cell? (dA g (o+1))=some av/\eX w av s.args
 sort:w.cell? (dA g (o+2))=some (dw s.sort)
theorem IE.below {o:Nat}{s:Doc.Sym}(h:IE w n o s)(a:dB w W):IE W n o s:=by
 have b:=aj h.name;obtain⟨c,d,e⟩:=h.args;exact⟨(a.dL h.name b),⟨c,(a.dL d b),e.below a⟩,(a.dL h.sort b)⟩
def Ej (w:World)(v:Value)(ss:List Doc.Sym):Prop:=gu v ss.length (λg i=>∀h:i<ss.length,IE w g (i*3) ss[i])
theorem Ej.below {a:List Doc.Sym}(h:Ej w v a)(b:dB w W):Ej W v a:=
 gu.imp h λ_ _ _ c hi=>(c hi).below b
structure ab6 (w:World)(bb:Nat)(ss:List Doc.Sym)(ts:List fB):Prop where
 syms:∃v,w.cell? (dA bb 0)=some v/\Ej w v ss
 terms:oU w bb ts
theorem Mf (a b:UInt8):((a.toNat:Int)==(b.toNat:Int))=(a==b):=by
 rw[Bool.eq_iff_iff,beq_iff_eq,beq_iff_eq];constructor
 ·intro h;exact dC.ll aR
 ·intro h;rw[h]
theorem p9 {a:UInt8}{n:Nat}(b:n<256):((a.toNat:Int)==(n:Int))=(a==UInt8.ofNat n):=by
 rw[<-Mf]
 congr 2
 rw[UInt8.toNat_ofNat'];exact aR
theorem LD (l:dN)(c:UInt8)(i:Nat)(h:i<l.length):(l.drop i).contains c=((l[i]==c)||(l.drop (i+1)).contains c):=by
 rw[List.drop_eq_getElem_cons h,List.contains_cons]
 congr 1
 rw[Bool.eq_iff_iff,beq_iff_eq,beq_iff_eq];exact eq_comm
theorem Kt (c:UInt8)(w:World) :
 dH 188 #[.int .u8 c.toNat] w λf g=>f=dF (.bool (Doc.named c))/\g=w:=by
 have o:=gU;have h:Hid (Doc.named c=(Doc.sM.drop 0).contains c):=rfl;generalize Doc.named c=j at *;go_enter func188,ntmps188;go_wp2_with fail
 go_loop [3] (fun i=>∃k:Nat,i=dw k/\k<=68/\j=(Doc.sM.drop k).contains c) (fun i=>68-(intOf i).toNat)
 ·exact⟨0,rfl,aR,h.o⟩
 case round=>
  obtain⟨k,rfl,p,d⟩:=hrel;have b:=dn d;clear d
  by_cases l:k<68
  ·have m:k<Doc.sM.length:=l;have e:=dn (LD Doc.sM c k m);go_wp2_with fail
   ·rename_i a _;have a:(Doc.sM[k]==c)=true:=by rw[<-Mf];exact a
    go_ret;exact⟨dS (by rw[b.o,e.o,a];rfl),rfl⟩
   ·rename_i a;have a:(Doc.sM[k]==c)=false:=by rw[<-Mf];exact a
    go_round
    ·exact⟨k+1,bL,aR,by rw[b.o,e.o,a];rfl⟩
    ·exact aph
  ·have n:k=68:=aR;subst n;go_wp2;go_ret;exact⟨dS anc,rfl⟩
theorem OB (c:UInt8):(((c.toNat:Int)==32)||((c.toNat:Int)==10))=Doc.jh c:=by
 unfold Doc.jh;have a:=p9 (a:=c) (n:=32) aR;have b:=p9 (a:=c) (n:=10) aR;rw[show(32:Int)=((32:Nat):Int) from rfl,show(10:Int)=((10:Nat):Int) from rfl,a,b];rfl
theorem KQ (l:dN)(i:Nat)(w:World)(hi:i<=l.length)(n:l.length<=1000000000000) :
 dH 136 #[dD l,dw i] w λh j=>h=dF (dw (Doc.blank l i))/\j=w:=by
 have o:=gU;have p:Hid (Doc.blank l i=Doc.blank l i):=rfl;generalize f:Doc.blank l i=m at *;go_enter func136,ntmps136;go_wp2_with fail
 go_loop [1] (fun v=>∃k:Nat,v=dw k/\k<=l.length/\Doc.blank l k=m) (fun v=>l.length-(intOf v).toNat)
 ·exact⟨i,rfl,hi,f⟩
 case round=>
  obtain⟨k,rfl,q,g⟩:=hrel;have c:=dn g;clear g f
  by_cases e:k<l.length
  ·by_cases a:((l[k].toNat:Int)==32)=true
   ·have b:Doc.jh l[k]=true:=by rw[<-OB,a];rfl
    exact aq9
   ·have a:((l[k].toNat:Int)==32)=false:=amr
    by_cases d:((l[k].toNat:Int)==10)=true
    ·have b:Doc.jh l[k]=true:=by rw[<-OB,a,d];rfl
     exact aq9
    ·have d:((l[k].toNat:Int)==10)=false:=anF;have b:Doc.jh l[k]=false:=by rw[<-OB,a,d];rfl
     go_wp2;go_ret;exact⟨fM (by rw[<-c.o,Doc.Iw e b]),rfl⟩
  ·go_wp2;go_ret;exact⟨fM (by rw[<-c.o,Doc.KP aR]),rfl⟩
structure Tc where
 x:dN
 bb:Bool
 ao:eu
 m:Nat
 cap:Nat
 p:Nat
def Tc.cells (c:Tc):List Value:=[eO c.x,.bool c.bb,.slice c.ao c.m c.cap,dw c.p]
def Tc.agg (c:Tc):Value:=.agg #[dD c.x,.bool c.bb,.slice c.ao c.m c.cap,dw c.p]
theorem Tc.one (c:Tc):∀u∈c.cells,u.oneCell'=true:=by
 intro u a;simp only[Tc.cells,List.mem_cons,List.not_mem_nil,or_false]at a;rcases a with rfl|rfl|rfl|rfl<;>rfl
structure lU (w:World)(g o:Nat)(c:Tc):Prop where
 x:w.cell? (dA g o)=some (dD c.x)
 b:w.cell? (dA g (o+1))=some (.bool c.bb)
 k:w.cell? (dA g (o+2))=some (.slice c.ao c.m c.cap)
 p:w.cell? (dA g (o+3))=some (dw c.p)
variable {D:Tc}
theorem lU.block {o:Nat}(h:lU w n o D)(a:W.heap[n]?=w.heap[n]?):lU W n o D:=
 ⟨(World.cell?_of_block (w:=w) (a:=dA n o) a).trans h.x,(World.cell?_of_block (w:=w) (a:=dA n (o+1)) a).trans h.b,(World.cell?_of_block (w:=w) (a:=dA n (o+2)) a).trans h.k,(World.cell?_of_block (w:=w) (a:=dA n (o+3)) a).trans h.p⟩
theorem lU.of_cells {o:Nat}(h:∀j u,j<4->D.cells[j]?=some u->w.cell? (dA n (o+j))=some u):lU w n o D:=⟨h 0 _ aR rfl,h 1 _ aR rfl,h 2 _ aR rfl,h 3 _ aR rfl⟩
def jy (w:World)(P:Nat->Prop):Nat->Tc->Doc.Tr->Prop
 | 0,_,_=>False
 | _+1,c,.word p x=>c=⟨x,false,none,0,0,p⟩
 | d+1,c,.list p ks=>c.x=[]/\c.bb=true/\c.p=p/\gu (.slice c.ao c.m c.cap) ks.length (λg i=>P g/\∀h:i<ks.length,∃k:Tc,lU w g (i*4) k/\jy w P d k ks[i])
theorem jy.kept {P a:Nat->Prop}(e:∀g,g<w.heap.size->P g->W.heap[g]?=w.heap[g]?/\a g):∀(d:Nat) (c:Tc) (t:Doc.Tr),jy w P d c t->jy W a d c t:=by
 intro d
 induction d with
 | zero=>intro c t h;exact h
 | succ d f=>
  intro c t h;cases t with
  | word p x=>exact h
  | list p v=>
   obtain⟨i,j,l,m⟩:=h;refine⟨i,j,l,gu.imp m λg y hi n=>?_⟩;obtain⟨o,q⟩:=n;obtain⟨k,b,r⟩:=q hi;obtain⟨s,u⟩:=e g (aj b.x) o;exact⟨u,λ_=>⟨k,b.block s,f k _ r⟩⟩
theorem jy.below {P:Nat->Prop}(h:jy w P n D Y)(a:dB w W):jy W P n D Y:=jy.kept (λg b c=>⟨a.block g b,c⟩) n D Y h
theorem jy.fr {own:Own}(h:jy w (λg=>own g=0) m D Y)(a:Fr own o n w W)(d:n≠0):jy W (λg=>o g=0) m D Y:=
 jy.kept (λg b c=>⟨a.block g b (by rw[show own g=0 from c];omega),by rw[a.ext g b];exact c⟩) m D Y h
def yZ (w':World)(P:Nat->Prop)(d:Nat)(R:Doc.uB)(e:Ending):Prop:=
 match R with
 | .ok t j=>∃c:Tc,e=dF (dM #[.agg #[dD c.x,.bool c.bb,.slice c.ao c.m c.cap,dw c.p],dw j,dw 0])/\jy w' P d c t
 | .err er q=>∃c:Tc,e=dF (dM #[.agg #[dD c.x,.bool c.bb,.slice c.ao c.m c.cap,dw c.p],dw q,dw er])
structure oJ (B:Nat)(wx:World)(c:Tc):Prop where
 t:lU wx (B+1) 0 c
 fr:∀o,wx.frozen? (dA (B+1) o)=false
 r0:wx.cell? (dA B 0)=some (eB)
 r1:wx.cell? (dA B 1)=some (dP)
 r2:wx.cell? (dA B 2)=some (dE)
 r3:wx.cell? (dA B 3)=some (dw 0)
 rf:∀o,wx.frozen? (dA B o)=false
 size:B+1<wx.heap.size
def kE (B:Nat)(wx:World)(c:Tc):World:=(((wx.setCell (dA B 0) (dD c.x)).setCell (dA B 1) (.bool c.bb)).setCell (dA B 2) (.slice c.ao c.m c.cap)).setCell (dA B 3) (dw c.p)
theorem setOther (w:World){a b:Addr}(u:Value){v:Value}(h:w.cell? a=some v)(c:a.block≠b.block\/a.off≠b.off):(w.setCell b u).cell? a=some v:=
 (ax (λe=>by rw[e]at c;omega)).trans h
theorem oJ.done (h:oJ n w D):lU (kE n w D) n 0 D/\(∀b,b≠n->(kE n w D).heap[b]?=w.heap[b]?)/\(kE n w D).heap.size=w.heap.size/\(w.setCell (dA n 0) (dD D.x)).cell? (dA n 1)=some (dP)/\
 ((w.setCell (dA n 0) (dD D.x)).setCell (dA n 1) (.bool D.bb)).cell? (dA n 2)=some (dE)/\
 (((w.setCell (dA n 0) (dD D.x)).setCell (dA n 1) (.bool D.bb)).setCell (dA n 2) (.slice D.ao D.m D.cap)).cell? (dA n 3)=some (dw 0):=by
 have c:=setOther w (a:=dA n 1) (b:=dA n 0) (dD D.x) h.r1 (.inr aW);have d:=setOther _ (a:=dA n 2) (b:=dA n 1) (.bool D.bb) (setOther w (a:=dA n 2) (b:=dA n 0) (dD D.x) h.r2 (.inr aW)) (.inr aW);have e:=setOther _ (a:=dA n 3) (b:=dA n 2) (.slice D.ao D.m D.cap) (setOther _ (a:=dA n 3) (b:=dA n 1) (.bool D.bb) (setOther w (a:=dA n 3) (b:=dA n 0) (dD D.x) h.r3 (.inr aW)) (.inr aW)) (.inr aW);have f:=World.cell?_setCell_same w (dA n 0) (dD D.x) h.r0;have g:=World.cell?_setCell_same _ (dA n 1) (.bool D.bb) c;have i:=World.cell?_setCell_same _ (dA n 2) (.slice D.ao D.m D.cap) d;have j:=World.cell?_setCell_same _ (dA n 3) (dw D.p) e;refine⟨⟨?_,?_,?_,j⟩,?_,?_,c,d,e⟩
 ·exact setOther _ _ (setOther _ _ (setOther _ _ f (.inr aW)) (.inr aW)) (.inr aW)
 ·exact setOther _ _ (setOther _ _ g (.inr aW)) (.inr aW)
 ·exact setOther _ _ i (.inr aW)
 ·intro b a;unfold kE;rw[aD a,aD a,aD a,aD a]
 ·simp[kE,World.setCell]
theorem oJ.start (w:World)(p:Nat):oJ w.heap.size ((w.alloc (.cells #[eB,dP,dE,dw 0] 138)).alloc (.cells #[eB,dP,dE,dw p] 138)) ⟨[],false,none,0,0,p⟩:=
 ⟨⟨aW,aW,aW,aW⟩,al7,aW,aW,aW,aW,al7,aW⟩
theorem oJ.aei (w:World)(p:Nat):oJ w.heap.size ((w.alloc (.cells #[eB,dP,dE,dw 0] 138)).alloc (.cells #[eB,fu,dE,dw p] 138)) ⟨[],true,none,0,0,p⟩:=
 ⟨⟨aW,aW,aW,aW⟩,al7,aW,aW,aW,aW,al7,aW⟩
theorem oJ.after (h:oJ n w D)(a:dB w W):oJ n W D:=by
 have b:=h.size
 exact⟨h.t.block (a.block _ b),λo=>(a.gq (h.fr o) b),(a.dL h.r0 alT),(a.dL h.r1 alT),
  (a.dL h.r2 alT),(a.dL h.r3 alT),λo=>(a.gq (h.rf o) alT),Nat.lt_of_lt_of_le b a.size⟩
theorem oJ.ac6 (h:oJ n w D)(x:dN):oJ n (w.setCell (dA (n+1) 0) (dD x)) { D with x:=x }:=by
 refine⟨⟨aC h.t.x,setOther _ _ h.t.b (.inr aW),setOther _ _ h.t.k (.inr aW),setOther _ _ h.t.p (.inr aW)⟩,λo=>by rw[World.frozen?_setCell];exact h.fr o,
  setOther _ _ h.r0 (.inl aW),setOther _ _ h.r1 (.inl aW),setOther _ _ h.r2 (.inl aW),setOther _ _ h.r3 (.inl aW),λo=>by rw[World.frozen?_setCell];exact h.rf o,by simpa[World.setCell] using h.size⟩
theorem oJ.fin (h:oJ n W D)(a:dB w W)(c:w.heap.size<=n):lU (kE n W D) n 0 D/\dB w (kE n W D):=
 ⟨h.done.1,a.trans ⟨rfl,rfl,rfl,by rw[h.done.2.2.1];exact ae,λb d=>h.done.2.1 b aR⟩⟩
theorem take_one (h:n<x.length):List.drop n (List.take (n+1) x)=[x[n]]:=by
 rw[List.take_add_one,aF h,List.drop_append_of_le_length aX];exact aW
theorem sP (l:dN)(n i:Nat)(P:Nat->Prop)(w:World)(O:l.length<=1000000)(t:Doc.ku l i)(o:l[i]?≠some 40) :
 dH 137 #[dD l,dw i,dw n] w λe u=>yZ u P (n+1) (Doc.tree l n i) e/\dB w u:=by
 have Q:=gU;rw[Doc.sP o];have D:=t.lt
 have y:((l[i].toNat:Int)==40)=false:=by
  have:=p9 (a:=l[i]) (n:=40) aR;rw[show(40:Int)=((40:Nat):Int) from rfl,this,beq_eq_false_iff_ne];intro e;apply o;rw[aF D,e];rfl
 have R:((l[i].toNat:Int) !=40)=true:=by rw[bne,y];rfl
 clear o t y;have E:=dn (oJ.start w i);have F:Hid (dB w ((w.alloc (.cells #[eB,dP,dE,dw 0] 138)).alloc (.cells #[eB,dP,dE,dw i] 138))):=ai.alloc aW _;go_enter func137,ntmps137;go_wp2_with fail
 go_loopw [1] (fun v wr=>∃(k:Nat) (x:dN),v=dw k/\k<=l.length/\x++Doc.gQ l k=Doc.gQ l i/\k=i+x.length/\oJ w.heap.size wr ⟨x,false,none,0,0,i⟩/\dB w wr) (fun v _=>l.length-(intOf v).toNat)
 ·exact⟨i,[],rfl,aR,rfl,rfl,E.o,F.o⟩
 case round=>
  obtain⟨k,x,rfl,S,a,z,c,A⟩:=hrel;have p:=dn a;have q:=dn z;have B:=dn c;have T:x.length<=l.length:=aR;obtain⟨G,H,I,J⟩:=id c.t;have U:=c.fr;have V:=c.r0;have W:=c.rf;obtain⟨_,_,_,K,L,M⟩:=c.done;simp only at G H I J K L M;clear a z c;have C:=dn (B.o.fin A ae)
  by_cases j:k<l.length
  ·have m:=dn (Kt l[k]);cases hnm:Doc.named l[k]
   ·rw[hnm]at m;have r:=dn (Doc.Ag j hnm);go_wp2_with fail;refine(m.o wr).mono ?_;rintro e N ⟨rfl,rfl⟩;go_wp2_with fail;obtain⟨b,s⟩:=C.o;have a:=p.o;rw[r.o,List.append_nil]at a;exact apS
   ·rw[hnm]at m;have r:=dn (Doc.Ah j hnm);go_wp2_with fail;refine(m.o wr).mono ?_;rintro e N ⟨rfl,rfl⟩;go_wp2_with fail;go_region;go_wp2;go_roundw
    case rel=>
     refine⟨k+1,x++[l[k]],bL,aR,?_,?_,?_,?_⟩
     ·rw[<-p.o,r.o];exact aW
     ·have:=q.o;exact aX
     ·have:=B.o.ac6 (x++[l[k]]);rw[<-take_one j]at this;rw[<-take_one j];exact this.after (af.drew)
     ·exact(A.setCell aW _).drew
    case measure=>exact aph
  ·go_wp2_with fail;obtain⟨b,s⟩:=C.o;have a:=p.o;rw[Doc.GM aR,List.append_nil]at a;exact apS
theorem X0:(prog.info? 138).map (λi=>(i.zero,i.size,i.bytes))=some (some (.agg #[eB,dP,dE,dw 0]),4,56):=bR
theorem zB (l:dN)(i:Nat)(P:Nat->Prop)(w:World)(d:i<l.length)(a:l[i]?=some 40) :
 dH 137 #[dD l,dw i,dw 0] w λe b=>yZ b P 1 (Doc.tree l 0 i) e/\dB w b:=by
 have f:=gU;rw[Doc.zB a];have c:l[i]=40:=by rw[aF d]at a;simpa using a
 have g:((l[i].toNat:Int) !=40)=false:=am7;clear a c;have h:=dn (oJ.start w i);have j:Hid (dB w ((w.alloc (.cells #[eB,dP,dE,dw 0] 138)).alloc (.cells #[eB,dP,dE,dw i] 138))):=ai.alloc aW _;go_enter func137,ntmps137;go_wp2;exact dR (dM #[.agg #[eB,dP,dE,dw i],dw i,dw 3]) (by simp[results,results137,go_sem]) rfl ⟨⟨⟨[],false,none,0,0,i⟩,rfl⟩,ai.alloc aW _⟩
structure uC (B:Nat)(wx:World)(d:Nat)(i:Nat)(ao:eu)(m cap:Nat)(acc:List Doc.Tr):Prop where
 box:oJ B wx ⟨[],true,ao,m,cap,i⟩
 row:∃xs:List Tc,wx.ownsRow (B+1+1) 138 4 (.slice ao m cap) m (xs.map Tc.cells).flatten/\iw (jy wx (λg=>B+1+1<=g/\(Value.slice ao m cap).ownBlock≠some g) d) xs acc/\m=acc.length
theorem uC.below (h:uC n w m k a i j A)(b:dB w W):uC n W m k a i j A:=by
 obtain⟨c,d,e,f⟩:=h.row;exact⟨h.box.after b,c,ownsRow_below d b,e.imp (λ_ _ h=>h.below b),f⟩
theorem aeh (w:World)(c:Tc)(t:TypeId)(n:Nat)(a:n=w.heap.size):∀j u,c.cells[j]?=some u->(w.alloc (.cells #[dD c.x,.bool c.bb,.slice c.ao c.m c.cap,dw c.p] t)).cell? (((dA n 0):Addr).add j)=some u:=by
 subst a;intro j u h
 match j,h with
 | 0,h=>simp[Tc.cells,eO,Addr.add]at h ⊢;exact h
 | 1,h=>simp[Tc.cells,Addr.add]at h ⊢;exact h
 | 2,h=>simp[Tc.cells,Addr.add]at h ⊢;exact h
 | 3,h=>simp[Tc.cells,Addr.add]at h ⊢;exact h
 | n+4,h=>simp[Tc.cells]at h
theorem uC.done (l:uC n w m k a i j A)(f:∀c,c≠n->W.heap[c]?=w.heap[c]?):jy W (λg=>n<=g) (m+1) ⟨[],true,a,i,j,k⟩ (.list k A):=by
 obtain⟨d,o,h,p⟩:=l.row;refine⟨rfl,rfl,rfl,?_⟩;have C:=h.len;have q:=yj (xs:=d.map Tc.cells) o aoy (by intro D r;obtain⟨E,_,rfl⟩:=List.mem_map.1 r;rfl);refine gu.imp' q p λg b F s=>?_;obtain⟨t,e⟩:=s;have e:=e aoy;have u:lU w g (b*4) (d[b]' aR):=lU.of_cells λv x y z=>e v y x an8;exact⟨aR,λB=>⟨d[b],u.block (f g aR),jy.kept (λg _ t=>⟨f g aR,aR⟩) m _ _ (h.get b aR B)⟩⟩
theorem uC.snoc {B:Nat}{a w1:World}{j v:Nat}{f:eu}{m cap:Nat}{p:List Doc.Tr}{c:Tc}{t:Doc.Tr}{N:Nat}(h:uC B a j v f m cap p)(A:jy a (λg=>N<=g) j c t)(C:∀b,(Value.slice f m cap).ownBlock=some b->b<N)(H:B+1+1<=N){g cap':Nat}(X:Obj){q:List Tc}
 (r:a.ownsRow (B+1+1) 138 4 (.slice f m cap) m (q.map Tc.cells).flatten) (s:iw (jy a (λg=>B+1+1<=g/\(Value.slice f m cap).ownBlock≠some g) j) q p) (I:m=p.length)
 (D:w1.ownsRow (B+1+1) 138 4 (dJ g (m+1) cap') (m+1) ((q.map Tc.cells).flatten++c.cells)) (E:(a.alloc X).grownBy w1 (Value.slice f m cap).ownBlock) (w:(Value.slice f m cap).ownBlock=some g\/(a.alloc X).heap.size<=g) :
 uC B (w1.setCell (dA (B+1) 2) (dJ g (m+1) cap')) j v (some (dA g 0)) (m+1) cap' (p++[t])/\Below B a (w1.setCell (dA (B+1) 2) (dJ g (m+1) cap')):=by
 have k:dB a (a.alloc X):=af.alloc ae X;have l:=h.box.after k;have J:=h.box.size;have d:=gK (eb:=B+1) (f:=2) aR (r.alloc X) aX l.t.k D E w;have x:∀b,(Value.slice f m cap).ownBlock=some b->B+1+1<=b:=λb i=>(r.lt b i).1
 have u:∀b,b<a.heap.size->b≠B+1->(Value.slice f m cap).ownBlock≠some b->(w1.setCell (dA (B+1) 2) (dJ g (m+1) cap')).heap[b]?=a.heap[b]?:=
  λb i r s=>(d.block b aX r (λe=>s e.symm)).trans (k.block b i)
 have y:∀b,b<a.heap.size->B+1+1<=b/\(Value.slice f m cap).ownBlock≠some b->(w1.setCell (dA (B+1) 2) (dJ g (m+1) cap')).heap[b]?=a.heap[b]?/\(B+1+1<=b/\(Value.slice (some (dA g 0)) (m+1) cap').ownBlock≠some b):=by
  intro b i ⟨F,z⟩;refine⟨u b i aR z,F,?_⟩;intro e;have e:g=b:=by simpa[Value.ownBlock] using e
  subst e;rcases w with h|h
  ·exact z h
  ·simp at h;exact aR
 have G:a.heap.size<=(w1.setCell (dA (B+1) 2) (dJ g (m+1) cap')).heap.size:=Nat.le_trans k.size d.size;have n:(w1.setCell (dA (B+1) 2) (dJ g (m+1) cap')).heap[B]?=a.heap[B]?:=u B aR aR (λe=>aP (x B e));refine⟨⟨⟨⟨?_,?_,d.cell,?_⟩,?_,?_,?_,?_,?_,?_,aR⟩,q++[c],?_,?_,aX⟩,?_⟩
 ·exact(d.cells 0 aR).trans l.t.x
 ·exact(d.cells 1 aR).trans l.t.b
 ·exact(d.cells 3 aR).trans l.t.p
 ·intro o;exact(d.frozen o).trans (l.fr o)
 ·exact(World.cell?_of_block (w:=a) (a:=dA B 0) n).trans h.box.r0
 ·exact(World.cell?_of_block (w:=a) (a:=dA B 1) n).trans h.box.r1
 ·exact(World.cell?_of_block (w:=a) (a:=dA B 2) n).trans h.box.r2
 ·exact(World.cell?_of_block (w:=a) (a:=dA B 3) n).trans h.box.r3
 ·intro o;exact(World.frozen?_of_block (w:=a) (a:=dA B o) n).trans (h.box.rf o)
 ·have:=d.own;simpa using this
 ·refine(s.imp (λc t h=>jy.kept y j c t h)).app (.cons ?_ .nil);exact jy.kept (λb i K=>y b i ⟨aR,λe=>aP (C b e)⟩) j _ _ A
 ·exact⟨d.below.os.trans k.os,d.below.tape.trans k.tape,d.below.output.trans k.output,G,λb i=>u b aR aR (λe=>aP (x b e))⟩
theorem wu (l:dN)(n i:Nat)(w:World)(hl:l.length<=1000000)(hn:n<=100)(hlt:i<l.length)(H:l[i]?=some 40)
 (ih:∀(i:Nat) (w:World),Doc.ku l i->dH 137 #[dD l,dw i,dw n] w λf A=>yZ A (λB=>w.heap.size<=B) (n+1) (Doc.tree l n i) f/\dB w A) :
 dH 137 #[dD l,dw i,dw (n+1:Nat)] w λf A=>yZ A (λB=>w.heap.size<=B) (n+1+1) (Doc.tree l (n+1) i) f/\dB w A:=by
 have hR:=gU;obtain⟨i0,hi,hz0,hz1,hz2⟩:=info_parts X0;rw[Doc.wu H];have afE:l[i]=40:=by rw[aF hlt]at H;simpa using H
 have alx:((l[i].toNat:Int) !=40)=false:=by rw[afE];rfl
 have K8:=dn ih;have BH:=dn (λi hi w=>KQ l i w hi aR);have Dq:=dn (λc w=>Kt c w);have HTB:=dn (λi I s=>Doc.qN l n i I s);clear ih H afE;have HB:=dn (oJ.aei w i);have HL:Hid (dB w ((w.alloc (.cells #[eB,dP,dE,dw 0] 138)).alloc (.cells #[eB,fu,dE,dw i] 138))):=ai.alloc aW _;have zl:Hid (Doc.blank l (i+1)<=l.length/\i<Doc.blank l (i+1)):=⟨Doc.sK aR,aP (Doc.qE l (i+1))⟩;have afC:=BH.o (i+1) aR;have HR0:Hid (Doc.fQ (Doc.tree l n) l i (l.length+1) (Doc.blank l (i+1)) []=Doc.fQ (Doc.tree l n) l i (l.length+1) (Doc.blank l (i+1)) []):=rfl;generalize afx:Doc.fQ (Doc.tree l n) l i (l.length+1) (Doc.blank l (i+1)) []=bn at *;generalize Doc.blank l (i+1)=bq at *;have abG:=dn afx;have akc:=dn afC;clear afx afC;go_enter func137,ntmps137;go_wp2_with fail;refine(akc.o _).mono ?_;rintro f w0 ⟨rfl,rfl⟩;go_wp2_with fail
 go_loopw [1] (fun R wr=>∃(k u:Nat) (d:eu) (m e:Nat) (J:List Doc.Tr),R=dw k/\k<=l.length/\i<k/\m<=k/\l.length<u+k/\Doc.fQ (Doc.tree l n) l i u k J=bn/\uC w.heap.size wr (n+1) i d m e J/\dB w wr) (fun R _=>l.length-(intOf R).toNat)
 ·exact⟨bq,l.length+1,none,0,0,[],rfl,zl.o.1,zl.o.2,aR,aR,abG.o,⟨HB.o,[],World.ownsRow_nil _ _ _ _,.nil,rfl⟩,HL.o⟩
 case round=>
  obtain⟨k,u,d,m,e,J,rfl,hk,hik,hmk,hf,hR',q,S⟩:=hrel;obtain⟨u,rfl⟩:∃f',u=f'+1:=⟨u-1,aR⟩;have K:=dn q;have C:=dn hR';have om:=dn S;have hsz:=q.box.size;obtain⟨T,U,V,W⟩:=id q.box.t;have hfr:=q.box.fr;have r0:=q.box.r0;have hrf:=q.box.rf;obtain⟨_,_,_,X,Y,Z⟩:=q.box.done;have iP:=dn (q.box.fin S ae);have RU:=dn q.box.done.2.1;simp only at T U V W X Y Z;clear q hR' S
  by_cases D:k<l.length
  ·by_cases y:l[k]=41
   ·have aiz:((l[k].toNat:Int) !=41)=false:=by rw[y];rfl
    have b:=C.o;rw[Doc.Hg D y]at b;go_wp2_with fail;obtain⟨a,v⟩:=iP.o;have g:=a.x;have j:=a.b;have o:=a.k;have p:=a.p;simp only[kE]at g j o p;exact dR (dM #[.agg #[eB,fu,.slice d m e,dw i],dw (k+1:Nat),dw 0]) amE rfl ⟨by rw[<-b];exact⟨⟨[],true,d,m,e,i⟩,rfl,K.o.done RU.o⟩,v⟩
   ·have aiz:((l[k].toNat:Int) !=41)=true:=by
     rw[bne,show(41:Int)=((41:Nat):Int) from rfl,p9 aR];simpa using y
    have HST:Hid (Doc.named l[k]=true\/l[k]=40->Doc.ku l k):=λh=>⟨l[k],aF D,h⟩;go_wp2_with fail;refine(Dq.o l[k] wr).mono ?_;rintro f L ⟨rfl,rfl⟩
    have hcase:(Doc.named l[k]=false/\l[k]≠40)\/(Doc.named l[k]=true\/l[k]=40):=by
     cases Doc.named l[k]
     ·by_cases h:l[k]=40
      ·exact .inr (.inr h)
      ·exact .inl ⟨rfl,h⟩
     ·exact .inr (.inl rfl)
    have TI:l[k]≠40->((l[k].toNat:Int) !=40)=true:=λh=>by
     rw[bne,show(40:Int)=((40:Nat):Int) from rfl,p9 aR];exact anv
    have TU:l[k]=40->((l[k].toNat:Int) !=40)=false:=λh=>aoK;rcases hcase with ⟨E,afD⟩|M
    ·have aiA:=TI afD;have b:=C.o;rw[Doc.Nr D y E afD]at b;rw[E];clear TI TU;exact ap1
    ·have RP:=dn M
     have hcs:Doc.named l[k]=true\/(Doc.named l[k]=false/\((l[k].toNat:Int) !=40)=false):=by
      rcases M with h|h
      ·exact .inl h
      ·cases N:Doc.named l[k]
       ·exact .inr ⟨rfl,TU h⟩
       ·exact .inl rfl
     have ajE:=dn (K8.o k L (HST.o M));clear M TI TU;rcases hcs with E|⟨E,aiA⟩
     all_goals
      rw[E];go_wp2_with fail;refine ajE.o.mono ?_;rintro f z ⟨O,F⟩;have hsz1:=F.size;cases hT:Doc.tree l n k with
      | err er bg=>
       have her:=Doc.BO l n k er bg hT;rw[hT]at O;obtain⟨c,rfl⟩:=O;have r:dB L (z.alloc (.cells #[dD c.x,.bool c.bb,.slice c.ao c.m c.cap,dw c.p] 138)):=F.fO;have b:=C.o;rw[Doc.Np D y RP.o hT]at b;have nG:=dn r;have t:=dn (K.o.below r);obtain⟨e0,e1,P,e3⟩:=id t.o.box.t;have s0:=t.o.box.r0;have srf:=t.o.box.rf;obtain⟨_,_,_,y1,y2,y3⟩:=t.o.box.done;have ahh:=dn (t.o.box.fin (om.o.trans (r.mono aR)) ae);simp only at e0 e1 P e3 y1 y2 y3;have hen:((er:Int) !=0)=true:=aX;clear r F T U V W r0 hrf X Y Z hfr;go_wp2_with fail;obtain⟨a,v⟩:=ahh.o;have g:=a.x;have j:=a.b;have o:=a.k;have p:=a.p;simp only[kE]at g j o p;exact dR (dM #[.agg #[eB,fu,.slice d m e,dw i],dw bg,dw er]) amE rfl ⟨an2,v⟩
      | ok I s=>
       rw[hT]at O;obtain⟨c,rfl,hc⟩:=O;have r:dB L (z.alloc (.cells #[dD c.x,.bool c.bb,.slice c.ao c.m c.cap,dw c.p] 138)):=F.fO;have b:=C.o;rw[Doc.Nn D y RP.o hT]at b;have HRK:=dn b;obtain⟨hj1,hj2⟩:=HTB.o k I s (HST.o RP.o) hT;have nG:=dn r;have t:=dn (K.o.below r);have Yp:=dn (hc.below ((Below.refl z.heap.size z).alloc ae (.cells #[dD c.x,.bool c.bb,.slice c.ao c.m c.cap,dw c.p] 138)));have P:=t.o.box.t.k;have efr:=t.o.box.fr;obtain⟨xs,o1,o2,o3⟩:=K.o.row;have qI:Hid (∀x,(Value.slice d m e).ownBlock=some x->w.heap.size+1+1<=x/\x<L.heap.size):=λx N=>o1.lt x N;have uS:=dn (ownsRow_below o1 r);have zo:=dn (o2.imp (λ_ _ h=>h.below r));have BG:=dn o3;have ag3:=dn (fun(bA:Obj) (B cap':Nat) (bB:World)=>t.o.snoc (w1:=bB) (g:=B) (cap':=cap') Yp.o (λx N=>(qI.o x N).2) aR bA uS.o zo.o BG.o);have akj:=dn (BH.o s hj2);have G:Hid (Doc.blank l s<=l.length/\s<=Doc.blank l s):=⟨Doc.sK hj2,Doc.qE l s⟩;have Gl:w.heap.size+1<z.heap.size:=aR;simp only at P;clear r F T U V W r0 hrf X Y Z hfr o1 o2 o3 hc b;go_wp2_with (at_builtin;refine dU rfl (.tmp 92) (.tmp 94) 136 rfl (w.heap.size+1+1) 138 i0 (.agg #[eB,dP,dE,dw 0]) 4 56 underlying136 hi hz0 hz1 hz2 rfl aY (.slice d m e) m (xs.map Tc.cells).flatten rfl (by exact(uS.o.alloc _)) (dA (z.heap.size+1) 0) 1 c.cells rfl rfl (by exact aeh _ c _ _ aW) c.one bz aR aX ?_;intro ga fD w3 hown' Q hg1 hg2;have q1:w3.cell? (dA (w.heap.size+1) 2)=some (.slice d m e):=((eY Q (a:=dA (w.heap.size+1) 2) aX (λf=>aP ((qI.o (w.heap.size+1) f.symm).1))).trans (dV _ _ (dA (w.heap.size+1) 2) aX)).trans P;have q2:w3.frozen? (dA (w.heap.size+1) 2)=false:=((fo Q (a:=dA (w.heap.size+1) 2) aX (λf=>aP ((qI.o (w.heap.size+1) f.symm).1))).trans (eF _ _ (dA (w.heap.size+1) 2) aX)).trans (efr 2));have HS:=dn (ag3.o _ ga fD w3 hown' Q hg2);clear hown' Q hg1 hg2;go_wp2_with fail;refine(akj.o _).mono ?_;rintro f w4 ⟨rfl,rfl⟩;go_wp2;go_roundw
       ·exact⟨Doc.blank l s,u,_,m+1,fD,J++[I],rfl,G.o.1,aP G.o.2,aP G.o.2,aP G.o.2,HRK.o,HS.o.1,(om.o.trans (nG.o.mono aR)).trans HS.o.2⟩
       ·have:=G.o;exact aph
  ·have hkl:k=l.length:=aR;have heq:((k:Int)==(l.length:Int))=true:=aX;have b:=C.o;rw[Doc.Nq aR]at b;clear hkl;exact ap1
theorem YY (l:dN)(c:l.length<=1000000):∀(n:Nat),n<=100->∀(i:Nat) (w:World),Doc.ku l i->
 dH 137 #[dD l,dw i,dw n] w λe d=>yZ d (λg=>w.heap.size<=g) (n+1) (Doc.tree l n i) e/\dB w d:=by
 intro n
 induction n with
 | zero=>
  intro _ i w a
  by_cases b:l[i]?=some 40
  ·exact zB l i _ w a.lt b
  ·exact sP l 0 i _ w c a b
 | succ n f=>
  intro h i w a
  by_cases b:l[i]?=some 40
  ·exact wu l n i w c aR a.lt b (f aR)
  ·exact sP l (n+1) i _ w c a b
structure xm (B:Nat)(wx:World):Prop where
 r0:wx.cell? (dA B 0)=some (eB)
 r1:wx.cell? (dA B 1)=some (dP)
 r2:wx.cell? (dA B 2)=some (dE)
 r3:wx.cell? (dA B 3)=some (dw 0)
 rf:∀o,wx.frozen? (dA B o)=false
theorem xm.start (w:World):xm w.heap.size (w.alloc (.cells #[eB,dP,dE,dw 0] 138)):=⟨aW,aW,aW,aW,al7⟩
theorem xm.after (h:xm n w)(a:dB w W):xm n W:=by
 have b:=aj h.r0;exact⟨(a.dL h.r0 b),(a.dL h.r1 b),(a.dL h.r2 b),(a.dL h.r3 b),λo=>(a.gq (h.rf o) b)⟩
theorem xm.done (h:xm n w)(c:Tc):lU (kE n w c) n 0 c/\(∀b,b≠n->(kE n w c).heap[b]?=w.heap[b]?)/\(kE n w c).heap.size=w.heap.size/\(w.setCell (dA n 0) (dD c.x)).cell? (dA n 1)=some (dP)/\
 ((w.setCell (dA n 0) (dD c.x)).setCell (dA n 1) (.bool c.bb)).cell? (dA n 2)=some (dE)/\
 (((w.setCell (dA n 0) (dD c.x)).setCell (dA n 1) (.bool c.bb)).setCell (dA n 2) (.slice c.ao c.m c.cap)).cell? (dA n 3)=some (dw 0):=by
 have d:=setOther w (a:=dA n 1) (b:=dA n 0) (dD c.x) h.r1 (.inr aW);have e:=setOther _ (a:=dA n 2) (b:=dA n 1) (.bool c.bb) (setOther w (a:=dA n 2) (b:=dA n 0) (dD c.x) h.r2 (.inr aW)) (.inr aW);have f:=setOther _ (a:=dA n 3) (b:=dA n 2) (.slice c.ao c.m c.cap) (setOther _ (a:=dA n 3) (b:=dA n 1) (.bool c.bb) (setOther w (a:=dA n 3) (b:=dA n 0) (dD c.x) h.r3 (.inr aW)) (.inr aW)) (.inr aW);have g:=World.cell?_setCell_same w (dA n 0) (dD c.x) h.r0;have i:=World.cell?_setCell_same _ (dA n 1) (.bool c.bb) d;have j:=World.cell?_setCell_same _ (dA n 2) (.slice c.ao c.m c.cap) e;have k:=World.cell?_setCell_same _ (dA n 3) (dw c.p) f;refine⟨⟨?_,?_,?_,k⟩,?_,?_,d,e,f⟩
 ·exact setOther _ _ (setOther _ _ (setOther _ _ g (.inr aW)) (.inr aW)) (.inr aW)
 ·exact setOther _ _ (setOther _ _ i (.inr aW)) (.inr aW)
 ·exact setOther _ _ j (.inr aW)
 ·intro b a;unfold kE;rw[aD a,aD a,aD a,aD a]
 ·simp[kE,World.setCell]
theorem xm.fin (h:xm n W)(c:Tc)(a:dB w W)(d:w.heap.size<=n):lU (kE n W c) n 0 c/\dB w (kE n W c):=
 ⟨(h.done c).1,a.trans ⟨rfl,rfl,rfl,by rw[(h.done c).2.2.1];exact ae,λb e=>(h.done c).2.1 b aR⟩⟩
theorem jy.stored (h:xm n w){N:Nat}(e:n<N){d:Nat}{c:Tc}{t:Doc.Tr}(b:jy w (λg=>N<=g) d c t)(a:Tc){M:Nat}(f:M<=N):jy (kE n w a) (λg=>M<=g) d c t:=
 jy.kept (λg _ i=>⟨(h.done a).2.1 g aR,aR⟩) d c t b
def Yg (w':World)(P:Nat->Prop)(R:Except (Nat × Nat) Doc.Tr)(e:Ending):Prop:=
 match R with
 | .ok t=>∃c:Tc,e=dF (dM #[.agg #[dD c.x,.bool c.bb,.slice c.ao c.m c.cap,dw c.p],dw 0,dw 0])/\jy w' P 13 c t
 | .error x=>∃c:Tc,e=dF (dM #[.agg #[dD c.x,.bool c.bb,.slice c.ao c.m c.cap,dw c.p],dw x.1,dw x.2])
theorem KY (l:dN)(w:World)(M:l.length<=1000000) :
 dH 90 #[dD l] w λe B=>Yg B (λN=>w.heap.size<=N) (Doc.parse l) e/\dB w B:=by
 have hR:=gU;have C:=dn (λi hi w=>KQ l i w hi aR);have D:=C.o 0 aR;have hle:=Doc.sK (l:=l) (i:=0) aR;have v:Hid (Doc.parse l=if l[Doc.blank l 0]?=some 40 then(match Doc.tree l 12 (Doc.blank l 0) with|.err e O=>.error (e,O)|.ok t j=>if Doc.blank l j<l.length then .error (2,Doc.blank l j) else .ok t) else .error (2,Doc.blank l 0)):=rfl;have P:=dn (YY l M 12 aR);have Q:=dn (λi t j=>Doc.qN l 12 i t j);have R:=dn (λi e q=>Doc.BO l 12 i e q);generalize Doc.parse l=S at *;generalize Doc.blank l 0=i at *;have T:=dn D;have E:dB w (w.alloc (.cells #[eB,dP,dE,dw 0] 138)):=ai;have r:=dn E;clear D E;go_enter func90,ntmps90;go_wp2_with fail;refine(T.o _).mono ?_;rintro e w0 ⟨rfl,rfl⟩
 by_cases F:i<l.length
 ·have U:((i:Int)==(l.length:Int))=false:=aX
  by_cases o:l[i]=40
  ·have V:((l[i].toNat:Int) !=40)=false:=by rw[o];rfl
   have x:l[i]?=some 40:=by rw[aF F,o]
   have y:Doc.ku l i:=⟨40,x,.inr rfl⟩;have z:=v.o;rw[if_pos x]at z;have G:=dn z;have W:=dn (λw=>P.o i w y);have X:=dn y;clear z o x y;go_wp2_with fail;refine(W.o _).mono ?_;rintro e H ⟨s,m⟩;have hsz:=m.size;cases hT:Doc.tree l 12 i with
   | err A q=>
    rw[hT]at s;have her:=R.o i A q hT;obtain⟨c,rfl⟩:=s;have hen:((A:Int) !=0)=true:=aX;have a:=G.o;rw[hT]at a;have n:=m.alloc m.size (.cells #[dD c.x,.bool c.bb,.slice c.ao c.m c.cap,dw c.p] 138);have d:=dn ((xm.start w).after n);have u:=dn (d.o.fin c (r.o.trans (n.mono aW)) ae);have Y:=d.o.r0;have Z:=d.o.rf;obtain⟨_,_,_,y1,y2,y3⟩:=d.o.done c;clear n m;go_wp2_with fail;obtain⟨b,p⟩:=u.o;have f:=b.x;have g:=b.b;have h:=b.k;have k:=b.p;simp only[kE]at f g h k;exact dR (dM #[.agg #[dD c.x,.bool c.bb,.slice c.ao c.m c.cap,dw c.p],dw A,dw q]) anh rfl ⟨by rw[a];exact⟨c,rfl⟩,p⟩
   | ok t j=>
    rw[hT]at s;obtain⟨hj1,hj2⟩:=Q.o i t j X.o hT;obtain⟨c,rfl,I⟩:=s;have a:S=if Doc.blank l j<l.length then .error (2,Doc.blank l j) else .ok t:=by have J:=G.o;rw[hT]at J;exact J
    have K:=dn a;have n:=m.alloc m.size (.cells #[dD c.x,.bool c.bb,.slice c.ao c.m c.cap,dw c.p] 138);have Yp:=dn (I.below ((Below.refl H.heap.size H).alloc ae (.cells #[dD c.x,.bool c.bb,.slice c.ao c.m c.cap,dw c.p] 138)));have d:=dn ((xm.start w).after n);have u:=dn (d.o.fin c (r.o.trans (n.mono aW)) ae);have lq:=dn (jy.stored d.o aW Yp.o c (M:=w.heap.size) aW);have Y:=d.o.r0;have Z:=d.o.rf;obtain⟨_,_,_,y1,y2,y3⟩:=d.o.done c;have oh:=dn (C.o j hj2);generalize Doc.blank l j=q at *;clear n m a I;go_wp2_with fail;refine(oh.o _).mono ?_;rintro e w3 ⟨rfl,rfl⟩
    by_cases L:q<l.length
    ·have a:=K.o.trans (if_pos L);go_wp2_with fail;obtain⟨b,p⟩:=u.o;have f:=b.x;have g:=b.b;have h:=b.k;have k:=b.p;simp only[kE]at f g h k;exact dR (dM #[.agg #[dD c.x,.bool c.bb,.slice c.ao c.m c.cap,dw c.p],dw 2,dw q]) anh rfl ⟨by rw[a];exact⟨c,rfl⟩,p⟩
    ·have a:=K.o.trans (if_neg L);go_wp2_with fail;obtain⟨b,p⟩:=u.o;have f:=b.x;have g:=b.b;have h:=b.k;have k:=b.p;simp only[kE]at f g h k;exact dR (dM #[.agg #[dD c.x,.bool c.bb,.slice c.ao c.m c.cap,dw c.p],dw 0,dw 0]) anh rfl ⟨by rw[a];exact⟨c,rfl,lq.o⟩,p⟩
  ·have V:((l[i].toNat:Int) !=40)=true:=by
    rw[bne,show(40:Int)=((40:Nat):Int) from rfl,p9 aR];simpa using o
   have a:=v.o;rw[if_neg (by rw[aF F];simpa using o)]at a;clear o;exact aqd
 ·have U:((i:Int)==(l.length:Int))=true:=aX;have a:=v.o;rw[if_neg (by rw[List.getElem?_eq_none aR];simp)]at a;exact aqd
def placeOf:Option Nat->Int
 | none=>-1
 | some k=>k
theorem Ea {a:Type}(p:a->Bool)(l:List a)(k:Nat)(h:k<l.length):(l.drop k).findIdx? p=if p l[k]=true then some 0 else((l.drop (k+1)).findIdx? p).map (·+1):=by
 rw[List.drop_eq_getElem_cons h,List.findIdx?_cons]
def jw {α:Type}(p:α->Bool)(l:List α)(k:Nat):Option Nat:=((l.drop k).findIdx? p).map (·+k)
theorem um {a:Type}(p:a->Bool)(l:List a):jw p l 0=l.findIdx? p:=by simp[jw]
theorem wM {a:Type}{p:a->Bool}{l:List a}(h:n<l.length)(b:p l[n]=true):jw p l n=some n:=by
 unfold jw;rw[Ea p l n h,if_pos b];exact aW
theorem uq {a:Type}{p:a->Bool}{l:List a}(h:n<l.length)(b:p l[n]=false):jw p l n=jw p l (n+1):=by
 unfold jw;rw[Ea p l n h,if_neg (by simp[b])];cases (l.drop (n+1)).findIdx? p
 ·rfl
 ·exact aX
theorem wN {a:Type}{p:a->Bool}{l:List a}(h:l.length<=n):jw p l n=none:=by unfold jw;rw[List.drop_eq_nil_of_le h];rfl
theorem Gw (d:Nat)(a:List Doc.Sym)(h:List fB)(x:dN)(w:World)(e:ab6 w d a h) :
 dH 190 #[dK d 0,dD x] w λj l=>j=dF (dw (placeOf (Doc.gD a x)))/\l=w:=by
 have t:=gU;obtain⟨u,v,m⟩:=e.syms;obtain⟨y,z,rfl,A,n,f⟩:=m;unfold maxLen at n;have o:=dn f;have p:Hid (Doc.gD a x=jw (λs:Doc.Sym=>s.name==x) a 0):=(um _ _).symm;generalize Doc.gD a x=q at *;clear e f;go_enter func190,ntmps190;go_wp2_with fail
 go_loop [5] (fun i=>∃k:Nat,i=dw k/\k<=a.length/\q=jw (fun s:Doc.Sym=>s.name==x) a k) (fun i=>a.length-(intOf i).toNat)
 ·exact⟨0,rfl,aR,p.o⟩
 case round=>
  obtain⟨k,rfl,B,g⟩:=hrel;have c:=dn g;clear g
  by_cases b:k<a.length
  ·obtain⟨C,rfl,r⟩:=o.o k b;have D:=(r b).name;cases hq:(a[k].name==x)
   ·go_wp2;go_round
    ·exact⟨k+1,bL,aR,by rw[c.o];exact uq b hq⟩
    ·exact aph
   ·go_wp2;go_ret;exact⟨fM (by rw[c.o,wM (p:=λs:Doc.Sym=>s.name==x) b hq];rfl),rfl⟩
  ·go_wp2;go_ret;exact⟨fM (by rw[c.o,wN aR];rfl),rfl⟩
theorem Yf (d:Nat)(a:List fB)(x:dN)(w:World)(g:oU w d a) :
 dH 293 #[dK d 0,dD x] w λh j=>h=dF (dw (placeOf (Doc.place a x)))/\j=w:=by
 have r:=gU;obtain⟨t,u,l⟩:=g;obtain⟨v,y,rfl,z,m,e⟩:=l;unfold maxLen at m;have n:=dn e;have o:Hid (Doc.place a x=jw (λs:Doc.Term=>s.text==x) a 0):=(um _ _).symm;generalize Doc.place a x=p at *;clear e;go_enter func293,ntmps293;go_wp2_with fail
 go_loop [5] (fun i=>∃k:Nat,i=dw k/\k<=a.length/\p=jw (fun s:Doc.Term=>s.text==x) a k) (fun i=>a.length-(intOf i).toNat)
 ·exact⟨0,rfl,aR,o.o⟩
 case round=>
  obtain⟨k,rfl,A,f⟩:=hrel;have c:=dn f;clear f
  by_cases b:k<a.length
  ·obtain⟨B,rfl,q⟩:=n.o k b;have C:=(q b).text;cases hq:(a[k].text==x)
   ·go_wp2;go_round
    ·exact⟨k+1,bL,aR,by rw[c.o];exact uq b hq⟩
    ·exact aph
   ·go_wp2;go_ret;exact⟨fM (by rw[c.o,wM (p:=λs:Doc.Term=>s.text==x) b hq];rfl),rfl⟩
  ·go_wp2;go_ret;exact⟨fM (by rw[c.o,wN aR];rfl),rfl⟩
theorem CF:Doc.digits []=false:=aY
theorem Au (h:8<x.length):Doc.digits x=false:=by
 unfold Doc.digits;have:(decide (x.length<=8))=false:=aX;rw[this];exact aW
theorem FC (h:x.head?=some 48)(a:x≠[48]):Doc.digits x=false:=by
 unfold Doc.digits;have b:(x.head?==some 48)=true:=aoK;have c:(x !=[48])=true:=amr;rw[b,c];exact aW
theorem xV (a:x≠[])(b:x.length<=8)(c:¬(x.head?=some 48/\x≠[48])):Doc.digits x=x.all Doc.digit:=by
 unfold Doc.digits;have d:(decide (x.length≠0))=true:=amr;have e:(decide (x.length<=8))=true:=amJ
 have f:(x.head?==some 48&&x !=[48])=false:=by
  rw[Bool.and_eq_false_iff]
  by_cases h:x.head?=some 48
  ·right
   have:x=[48]:=Decidable.byContradiction λg=>c ⟨h,g⟩;rw[this];rfl
  ·left;simpa using h
 rw[d,e,f];exact aW
theorem OG (p:UInt8->Bool)(l:dN)(k:Nat)(h:k<l.length):(l.drop k).all p=(p l[k]&&(l.drop (k+1)).all p):=apa
theorem zS (h:0<x.length):x.head?=some 48↔((x[0].toNat:Int)==48)=true:=by
 cases x with
 | nil=>simp at h
 | cons c u=>
  rw[show(48:Int)=((48:Nat):Int) from rfl,p9 aR];exact aW
theorem Jg (x:dN)(w:World)(y:x.length<=1000000) :
 dH 246 #[dD x] w λo p=>o=dF (.bool (Doc.digits x))/\p=w:=by
 have z:=gU;cases hE:(x==[])
 ·have f:x≠[]:=by simpa using hE
  have l:0<x.length:=List.length_pos_iff.2 f;have m:=dn f;clear f
  by_cases q:8<x.length
  ·have a:=Au q;exact aqM
  ·have r:(((x[0].toNat:Int)==48)=true/\(x==[48])=false)\/((((x[0].toNat:Int)==48)=false\/(((x[0].toNat:Int)==48)=true/\(x==[48])=true))/\Doc.digits x=x.all Doc.digit):=by
    cases b:((x[0].toNat:Int)==48)
    ·refine .inr ⟨.inl rfl,xV m.o aR ?_⟩;rintro ⟨h,_⟩;rw[(zS l).1 h]at b;cases b
    ·cases d:(x==[48])
     ·exact .inl ⟨rfl,rfl⟩
     ·refine .inr ⟨.inr ⟨rfl,rfl⟩,xV m.o aR ?_⟩;rintro ⟨_,h⟩;exact h anF
   rcases r with ⟨b,d⟩|⟨s,a⟩
   ·have a:=FC ((zS l).2 b) anF;exact aqM
   ·have t:Hid (Doc.digits x=(x.drop 0).all Doc.digit):=a;generalize Doc.digits x=g at *;clear a;rcases s with b|⟨b,d⟩
    all_goals
     go_enter func246,ntmps246;go_wp2_with fail
     go_loop [3] (fun i=>∃k:Nat,i=dw k/\k<=x.length/\g=(x.drop k).all Doc.digit) (fun i=>x.length-(intOf i).toNat)
     ·exact⟨0,rfl,aR,t.o⟩
     case round=>
      obtain⟨k,rfl,A,n⟩:=hrel;have e:=dn n;clear n
      by_cases u:k<x.length
      ·have j:=dn (OG Doc.digit x k u)
       by_cases B:(x[k].toNat:Int)<48
       ·exact aq1
       ·by_cases C:(57:Int)<(x[k].toNat:Int)
        ·exact aq1
        ·have c:Doc.digit x[k]=true:=aoE;go_wp2;go_round
         ·exact⟨k+1,bL,aR,by rw[e.o,j.o,c];rfl⟩
         ·exact aph
      ·go_wp2;go_ret;exact⟨dS (by rw[e.o,List.drop_eq_nil_of_le aR];rfl),rfl⟩
 ·have v:x=[]:=by simpa using hE
  subst v;go_enter func246,ntmps246;go_wp2;go_ret;exact⟨dS (by rw[CF]),rfl⟩
def jE (f:Doc.Form):List Value:=[eO f.word,eO f.print,dw f.op,dw f.least,dw f.most,dw f.args,dw f.sort]
structure mQ (w:World)(g o:Nat)(f:Doc.Form):Prop where
 word:w.cell? (dA g o)=some (dD f.word)
 print:w.cell? (dA g (o+1))=some (dD f.print)
 op:w.cell? (dA g (o+2))=some (dw f.op)
 least:w.cell? (dA g (o+3))=some (dw f.least)
 most:w.cell? (dA g (o+4))=some (dw f.most)
 args:w.cell? (dA g (o+5))=some (dw f.args)
 sort:w.cell? (dA g (o+6))=some (dw f.sort)
theorem mQ.block {o:Nat}{f:Doc.Form}(h:mQ w n o f)(a:W.heap[n]?=w.heap[n]?):mQ W n o f:=
 ⟨(World.cell?_of_block (w:=w) (a:=dA n o) a).trans h.word,(World.cell?_of_block (w:=w) (a:=dA n (o+1)) a).trans h.print,(World.cell?_of_block (w:=w) (a:=dA n (o+2)) a).trans h.op,(World.cell?_of_block (w:=w) (a:=dA n (o+3)) a).trans h.least,
  (World.cell?_of_block (w:=w) (a:=dA n (o+4)) a).trans h.most,(World.cell?_of_block (w:=w) (a:=dA n (o+5)) a).trans h.args,(World.cell?_of_block (w:=w) (a:=dA n (o+6)) a).trans h.sort⟩
def ad7 (w:World)(g:Nat):Prop:=∀i (h:i<Doc.forms.length),mQ w g (i*7) Doc.forms[i]
theorem KG (w:World):dH 277 #[] w λe a=>e=dF (dJ w.heap.size 16 16)/\a=w.alloc (.cells (Doc.forms.flatMap jE).toArray 325):=by
 go_enter func277,ntmps277;go_wp2;go_ret;exact⟨rfl,rfl⟩
theorem Mj {a:List fB}(h:n<a.length):Doc.qa a n=a[n].op:=by unfold Doc.qa;rw[aF h]
theorem uZ {ts:List fB}(h:n<ts.length):Doc.dY ts n=ts[n].sort:=by unfold Doc.dY;rw[aF h]
theorem Y6 {a:List fB}(h:n<a.length):Doc.qO a n=a[n].args:=by unfold Doc.qO;rw[aF h]
theorem acb (a b:Nat):((a:Int)==(b:Int))=(a==b):=ao3
theorem Ti (m:Nat)(a:List fB)(k:Nat)(w:World)(s:oU w m a)(b:k<a.length)(i:a[k].op=15->∃c,a[k].args[0]?=some c/\c<a.length) :
 dH 247 #[dK m 0,dw k] w λt u=>t=dF (.bool (Doc.number a k))/\u=w:=by
 obtain⟨D,E,v⟩:=s;obtain⟨F,G,rfl,H,x,f⟩:=v;unfold maxLen at x;obtain⟨I,rfl,g⟩:=f k b;have J:=(g b).op;obtain⟨K,L,y⟩:=(g b).args
 by_cases d:a[k].op=15
 ·obtain⟨c,h,j⟩:=i d;have n:0<a[k].args.length:=(aG h).1;have o:a[k].args[0]=c:=(aG h).2
  have l:Hid (Doc.number a k=(a[c].op==14)):=by
   show _=_;unfold Doc.number;rw[Mj b,if_pos d,Y6 b,List.getD_eq_getElem?_getD,h,Option.getD_some,Mj j]
  obtain⟨M,N,rfl,O,z,p⟩:=y;unfold maxLen at z;obtain⟨P,rfl,q⟩:=p 0 n;have A:=q n;rw[o]at A;obtain⟨Q,e,r⟩:=f c j;injection e with e
  injection e with e;subst e;have R:=(r j).op;have B:((a[k].op:Int)==15)=true:=anj;generalize Doc.number a k=C at *;clear f g r p q i d h o;exact ara
 ·have l:Hid (Doc.number a k=(a[k].op==14)):=by
   show _=_;unfold Doc.number;rw[Mj b,if_neg d]
  have B:((a[k].op:Int)==15)=false:=aX;generalize Doc.number a k=C at *;clear f g i d;exact ara
theorem VG {ts:List fB}(h:n<l.length):Doc.tail ts (l.take (n+1))=Doc.tail ts (l.take n)++32::Doc.gG ts l[n]:=by
 unfold Doc.tail;rw[List.take_add_one,aF h,List.flatMap_append];exact aW
theorem Sq {a:List fB}(d:∀t∈a,t.text.length<=800)(b:List Nat):(Doc.tail a b).length<=b.length*801:=by
 induction b with
 | nil=>simp[Doc.tail]
 | cons c b e=>
  have h:(Doc.gG a c).length<=800:=by
   unfold Doc.gG;cases h:a[c]? with
   | none=>simp
   | some t=>simpa using d t (List.mem_of_getElem? h)
  simp only[Doc.tail,List.flatMap_cons,List.length_append,List.length_cons]at e ⊢;exact aR
theorem Ff (m:Nat)(b:List fB)(x:dN)(n:Value)(a:List Nat)(w:World)(B:oU w m b)(C:eX w n a)(o:∀e∈a,e<b.length)(f:∀t∈b,t.text.length<=800)(U:x.length<=1000)(V:a.length<=1000) :
 dH 279 #[dK m 0,dD x,n] w λD E=>D=dF (eO (Doc.written b x a))/\dB w E:=by
 have W:=gU;obtain⟨X,F,G⟩:=B;obtain⟨Y,Z,rfl,hcap,H,p⟩:=G;unfold maxLen at H;obtain⟨aA,mY,rfl,zT,I,q⟩:=C;unfold maxLen at I;have J:=dn p;have K:=dn q;have L:=dn o;have M:=dn (λk=>Sq f (a.take k));have N:=dn f;clear p q o f
 by_cases c:a.length=0
 ·have g:Hid (Doc.written b x a=x):=by show _=_;unfold Doc.written;rw[if_pos c]
  have O:((a.length:Int)==0)=true:=am7;generalize Doc.written b x a=P at *;clear c;go_enter func279,ntmps279;go_wp2;go_ret;exact⟨by rw[g.o];rfl,af⟩
 ·have g:Hid (Doc.written b x a=40::x++Doc.tail b a++[41]):=by show _=_;unfold Doc.written;rw[if_neg c]
  have O:((a.length:Int)==0)=false:=ak aR;generalize Doc.written b x a=P at *;clear c;go_enter func279,ntmps279;go_wp2_with fail
  go_loopw [7,8] (fun t i wr=>∃(k:Nat) (y:dN),i=dw k/\k<=a.length/\t=dD y/\y=40::x++Doc.tail b (a.take k)/\dB w wr) (fun _ i _=>a.length-(intOf i).toNat)
  ·exact⟨0,40::x,rfl,aR,rfl,by simp[Doc.tail],af⟩
  case round=>
   obtain⟨k,y,rfl,hk,rfl,h,d⟩:=hrel;have r:=dn h
   have hyl:y.length<=1000000:=by
    have Q:=M.o k;rw[List.length_take]at Q;rw[h];simp only[List.length_append,List.length_cons];exact aR
   have s:=dn d;have hc1:=d.eT F;clear h
   by_cases j:k<a.length
   ·obtain⟨gA,rfl,u⟩:=K.o k j;have v:=u j;have hcell':=d.eT v;have l:a[k]<b.length:=L.o _ aW;obtain⟨bg,rfl,z⟩:=J.o a[k] l;have A:=(z l).text;have akR:=d.eT A;have htl:b[a[k]].text.length<=800:=N.o _ aW;have R:=dn (VG (ts:=b) j);have S:=dn (Doc.uY l);generalize alb:a[k]=e at *;clear d u z v A;go_wp2_with fail;go_quiet (fail);go_wp2;go_roundw
    ·exact⟨k+1,y++32::b[e].text,bL,aR,rfl,by rw[R.o,r.o,S.o];simp,below_drewN s.o _⟩
    ·exact aph
   ·go_wp2;go_ret;have T:k=a.length:=aR;exact⟨by rw[g.o,r.o,T,List.take_length];rfl,s.o⟩
def ES:Option Nat->Ending
 | none=>dF (dM #[dw 0,dP])
 | some s=>dF (dM #[dw s,fu])
theorem XT (p:Nat->Bool)(l:List Nat)(k:Nat)(h:k<l.length):(l.drop k).all p=(p l[k]&&(l.drop (k+1)).all p):=apa
theorem getD_lt (h:n<l.length):l.getD n 0=l[n]:=by rw[List.getD_eq_getElem?_getD,aF h];rfl
theorem Xl:∀f∈Doc.forms,f.from_<=1/\f.from_<f.least/\f.least<=3/\f.most<=4/\f.args<=2/\f.sort<=2/\f.op<=18:=aY
theorem aaN (N fb:Nat)(b:List fB)(f:Doc.Form)(va:Value)(a:List Nat)(w:World)(j:oU w N b)(r:mQ w fb 0 f)(hfm:f∈Doc.forms)(u:eX w va a)(hlt:∀c∈a,c<b.length)(hn:a.length<=1000) :
 dH 280 #[dK N 0,dK fb 0,va] w λbn w'=>bn=ES (Doc.fits b f a)/\dB w w':=by
 obtain⟨vT,h1,h2⟩:=j;obtain⟨aT,lL,rfl,hcap,hmax,hel⟩:=h2;unfold maxLen at hmax;obtain⟨aA,mY,rfl,zT,hma,hea⟩:=u;unfold maxLen at hma;obtain⟨p1,p2,p3,p4,p5,p6,p7⟩:=Xl f hfm;have O:=r.op;have f3:=r.least;have f4:=r.most;have P:=r.args;have Q:=r.sort;simp only[Nat.zero_add]at O f3 f4 P Q
 have R:Hid (∀c,c<b.length->∃F,aT=some (dA F 0)/\w.dQ F (c*5+2)=some (dw (Doc.dY b c))):=λc u=>by
  obtain⟨F,hg,hc⟩:=hel c u;refine⟨F,hg,?_⟩;rw[uZ u];exact(hc u).sort
 have S:=dn hea;have v:=dn hlt
 have JV:Hid (Doc.fits b f a=if a.length<f.least\/a.length>f.most then none
  else if f.op=12/\Doc.dY b (a.getD 0 0)≠1 then none
  else if ((a.drop f.from_).all (λc=>Doc.dY b c==f.want b a))=false then none
  else if f.op=9/\f.want b a=1 then none
  else if f.sort=0 then some (f.want b a)
  else some f.sort):=rfl
 generalize Doc.fits b f a=l at *;clear hel hea hlt r hfm
 by_cases s:a.length<f.least\/a.length>f.most
 ·have T:Hid (l=none):=by show _=_;rw[JV.o,if_pos s]
  rcases s with s|s
  ·exact aqo
  ·by_cases hl2:a.length<f.least
   ·exact aqo
   ·exact aqo
 ·have U:0<a.length:=aR;have hl1:f.least<=a.length:=aR;have hl2:a.length<=f.most:=aR;have x:=JV.o;rw[if_neg s]at x;have x:=dn x;obtain⟨gA,rfl,afn⟩:=S.o 0 U;have a0:=afn U;obtain⟨V,rfl,e⟩:=R.o a[0] (v.o _ aW);have W:f.from_<a.length:=aR;have G:=(S.o f.from_ W);obtain⟨gA',y,hcF⟩:=G;injection y with y
  injection y with y;subst y;have G:=hcF W;obtain⟨gT',z,hsF⟩:=R.o a[f.from_] (v.o _ aW);injection z with z;injection z with z;subst z
  have HC:Hid (∀d,dB w d->d.dQ N 1=some (dJ V b.length lL)/\d.dQ fb 2=some (dw f.op)/\d.dQ fb 5=some (dw f.args)/\d.dQ fb 6=some (dw f.sort)/\
   d.dQ gA f.from_=some (dw a[f.from_])/\d.dQ V (a[f.from_]*5+2)=some (dw (Doc.dY b a[f.from_]))):=λd j=>
   ⟨(j.eT h1),(j.eT O),(j.eT P),(j.eT Q),
    (j.eT G),(j.eT hsF)⟩
  have HK:Hid (∀d k (H:k<a.length),dB w d->d.dQ gA k=some (dw a[k])/\d.dQ V (a[k]*5+2)=some (dw (Doc.dY b a[k]))/\a[k]<b.length):=λd k H j=>by
   obtain⟨g1,A,I⟩:=S.o k H;injection A with A
   injection A with A;subst A;have hal:a[k]<b.length:=v.o _ aW;obtain⟨g2,B,J⟩:=R.o a[k] hal;injection B with B;injection B with B;subst B;exact⟨(j.eT (I H)),(j.eT J),hal⟩
  have ha0:a[0]<b.length:=v.o _ aW;have haF:a[f.from_]<b.length:=v.o _ aW;have acD:Hid (f.want b a=if f.args=0 then Doc.dY b a[f.from_] else f.args):=by show _=_;unfold Doc.Form.want;rw[getD_lt W]
  have HG0:Hid (a.getD 0 0=a[0]):=getD_lt U;have acM:Hid (f.from_=if f.op=12 then 1 else 0):=rfl;generalize f.want b a=want at *;generalize f.from_=fr at *;clear s afn hcF;go_enter func280,ntmps280
  go_upto_if 32 with fail
  go_cut [9] (fun X d=>X=dw fr/\(f.op=12->Doc.dY b a[0]=1)/\dB w d)
  case first=>
   by_cases g:f.op=12
   ·have o12:((f.op:Int)==12)=true:=by rw[g];rfl
    have t:fr=1:=by rw[acM.o,if_pos g]
    by_cases C:Doc.dY b a[0]=1
    ·have Y:((Doc.dY b a[0]:Int) !=1)=false:=by rw[C];rfl
     have K:=dn g;have nS:=dn C;have Z:=dn t;clear g C t;go_wp2_with fail;go_quiet (fail);go_wp2;go_meet
     ·exact⟨by rw[Z.o];rfl,λ_=>nS.o,below_drewN af _⟩
    ·have Y:((Doc.dY b a[0]:Int) !=1)=true:=bJ;have L:Hid (l=none):=by show _=_;rw[x.o,HG0.o,if_pos ⟨g,C⟩]
     clear g C t;go_wp2_with fail;go_quiet (fail);go_wp2;go_ret2;exact⟨by rw[L.o];rfl,below_drewN af _⟩
   ·have o12:((f.op:Int)==12)=false:=ak aR;have t:fr=0:=by rw[acM.o,if_neg g]
    have K:=dn g;have Z:=dn t;clear g t;go_wp2;go_meet
    ·exact⟨by rw[Z.o];rfl,λh=>absurd h K.o,af⟩
  case rest=>
   obtain⟨rfl,g,i⟩:=hcut;have K:=dn g;obtain⟨I,J,q5,q6,qA,qT⟩:=HC.o _ i;have om:=dn i;clear h1 O f3 f4 P Q G hsF a0 e g i
   go_upto_if 49 with fail
   go_cut [10] (fun X d=>X=dw want/\dB w d)
   case first=>
    by_cases D:f.args=0
    ·have oA:((f.args:Int)==0)=true:=by rw[D];rfl
     have HW:Hid (want=Doc.dY b a[fr]):=by show _=_;rw[acD.o,if_pos D]
     clear D;go_wp2_with fail;go_quiet (fail);go_wp2;go_meet
     ·exact⟨by rw[HW.o],below_drewN om.o _⟩
    ·have oA:((f.args:Int)==0)=false:=ak aR;have HW:Hid (want=f.args):=by show _=_;rw[acD.o,if_neg D]
     clear D;go_wp2;go_meet
     ·exact⟨by rw[HW.o],om.o⟩
   case rest=>
    obtain⟨rfl,i⟩:=hcut;have rF:Hid (f.op=12/\Doc.dY b a[0]≠1->False):=λh=>h.2 (K.o h.1)
    have L:Hid (l=if ((a.drop fr).all (λc=>Doc.dY b c==want))=false then none else if f.op=9/\want=1 then none else if f.sort=0 then some want else some f.sort):=by
     show _=_;have h:=x.o;rw[HG0.o,if_neg (λh=>rF.o h)]at h;exact h
    have akg:=dn i;clear I J q5 q6 qA qT i;go_wp2_with fail
    go_loopw [11] (fun bg wr=>∃k:Nat,bg=dw k/\k<=a.length/\((a.drop fr).all (fun c=>Doc.dY b c==want))=((a.drop k).all (fun c=>Doc.dY b c==want))/\dB w wr) (fun bg _=>a.length-(intOf bg).toNat)
    ·exact⟨fr,rfl,aR,rfl,akg.o⟩
    case round=>
     obtain⟨k,rfl,H,hall,i⟩:=hrel;obtain⟨I,J,q5,q6,_,_⟩:=HC.o _ i;have o:=dn i;have HA:=dn hall;clear hall
     by_cases hlk:k<a.length
     ·obtain⟨c1,c2,c3⟩:=HK.o _ k hlk i;have HD:=dn (XT (λc=>Doc.dY b c==want) a k hlk);clear i;generalize hak:a[k]=M at *
      by_cases E:Doc.dY b M=want
      ·have Y:((Doc.dY b M:Int) !=(want:Int))=false:=by rw[E];simp
       have HS:=dn E;clear E;go_wp2_with fail;go_quiet (fail);go_wp2;go_roundw
       ·exact⟨k+1,bL,aR,by rw[HA.o,HD.o];simp[HS.o],below_drewN o.o _⟩
       ·exact aph
      ·have Y:((Doc.dY b M:Int) !=(want:Int))=true:=bJ
       have p:Hid (l=none):=by
        show _=_;rw[L.o,HA.o,HD.o];have:(Doc.dY b M==want)=false:=ak E;simp only[this,Bool.false_and,if_true]
       clear E;go_wp2_with fail;go_quiet (fail);go_wp2;go_ret2;exact⟨by rw[p.o];rfl,below_drewN o.o _⟩
     ·have hnil:a.drop k=[]:=List.drop_eq_nil_of_le aR
      have p:Hid (l=if f.op=9/\want=1 then none else if f.sort=0 then some want else some f.sort):=by
       show _=_;have h:=L.o;rw[HA.o,hnil]at h;exact h
      clear i hnil
      by_cases m:f.op=9
      ·have o9:((f.op:Int)==9)=true:=by rw[m];rfl
       by_cases q:want=1
       ·have ow:((want:Int)==1)=true:=by rw[q];rfl
        have n:Hid (l=none):=by show _=_;rw[p.o,if_pos ⟨m,q⟩]
        clear m q;go_wp2;go_ret2;exact⟨ao0,o.o⟩
       ·have ow:((want:Int)==1)=false:=ak aR
        by_cases e:f.sort=0
        ·have os:((f.sort:Int)==0)=true:=ant;have n:Hid (l=some want):=by show _=_;rw[p.o,if_neg (λh=>q h.2),if_pos e]
         clear m q e;go_wp2;go_ret2;exact⟨ao0,o.o⟩
        ·have os:((f.sort:Int)==0)=false:=ak aR;have n:Hid (l=some f.sort):=by show _=_;rw[p.o,if_neg (λh=>q h.2),if_neg e]
         clear m q e;go_wp2;go_ret2;exact⟨ao0,o.o⟩
      ·have o9:((f.op:Int)==9)=false:=ak aR
       by_cases e:f.sort=0
       ·have os:((f.sort:Int)==0)=true:=ant;have n:Hid (l=some want):=by show _=_;rw[p.o,if_neg (λh=>m h.1),if_pos e]
        clear m e;go_wp2;go_ret2;exact⟨ao0,o.o⟩
       ·have os:((f.sort:Int)==0)=false:=ak aR;have n:Hid (l=some f.sort):=by show _=_;rw[p.o,if_neg (λh=>m h.1),if_neg e]
        clear m e;go_wp2;go_ret2;exact⟨ao0,o.o⟩
def yE (w:World)(own:Own)(c:List Value)(s:Doc.Sym):Prop:=∃av,c=[eO s.name,av,dw s.sort]/\fG w own av s.args
def EI (w:World)(own:Own)(c:List Value)(t:Doc.Term):Prop:=∃av,c=[eO t.text,dw t.op,dw t.sort,dw t.sym,av]/\fG w own av t.args
def Al (_:World)(_:Own)(c:List Value)(n:Nat):Prop:=c=[dw n]
def DN (_:World)(_:Own)(c:List Value)(l:Nat × Nat × Nat):Prop:=c=[dw l.1,dw l.2.1,dw l.2.2]
theorem fG.step {w:World}{own:Own}(d:∀b,b<w.heap.size->own b=0->W.heap[b]?=w.heap[b]?/\o b=0){v:Value}{c:List Nat}(h:fG w own v c):fG W o v c:=
 gu.imp h λg i hi a=>by
  obtain⟨e,f⟩:=d g (aj (a.2 hi)) a.1;exact⟨f,λhi=>(World.cell?_of_block (w:=w) (a:=dA g i) e).trans (a.2 hi)⟩
theorem mD:II yE:=λ_ _ _ _ a _ _ ⟨b,c,d⟩=>⟨b,c,d.step a⟩
theorem uX:II EI:=λ_ _ _ _ a _ _ ⟨b,c,d⟩=>⟨b,c,d.step a⟩
theorem qV:II Al:=λ_ _ _ _ _ _ _ h=>h
theorem tZ:II DN:=λ_ _ _ _ _ _ _ h=>h
structure ed (w:World)(own:Own)(k sb:Nat)(S:Doc.dO):Prop where
 mine:own sb=k
 obj:∃cur,w.heap[sb]?=some (.cells cur 83 (0,0))
 fr:∀o,w.frozen? (dA sb o)=false
 syms:∃v,w.cell? (dA sb 0)=some v/\eU w own k 175 3 (yE w own) v S.syms
 terms:∃v,w.cell? (dA sb 1)=some v/\eU w own k 177 5 (EI w own) v S.terms
 held:∃v,w.cell? (dA sb 2)=some v/\eU w own k 3 1 (Al w own) v S.held
 levels:∃v,w.cell? (dA sb 3)=some v/\eU w own k 173 3 (DN w own) v S.levels
theorem ed.lt {own:Own}{S:Doc.dO}(h:ed w own n m S):m<w.heap.size:=by
 exact aqw
theorem ed.step {w:World}{own:Own}{S:Doc.dO}(h:ed w own n m S)(c:∀b,b<w.heap.size->own b=0\/own b=n->W.heap[b]?=w.heap[b]?/\O b=own b):ed W O n m S:=by
 obtain⟨i,u,j⟩:=h.syms;obtain⟨k,x,l⟩:=h.terms;obtain⟨p,y,q⟩:=h.held;obtain⟨r,z,s⟩:=h.levels;have d:=c m h.lt (.inr h.mine);have e:∀o v,w.cell? (dA m o)=some v->W.cell? (dA m o)=some v:=λo v A=>(World.cell?_of_block (w:=w) (a:=dA m o) d.1).trans A;have f:∀b,b<w.heap.size->own b=0->W.heap[b]?=w.heap[b]?/\O b=0:=λb a h=>⟨(c b a (.inl h)).1,by rw[(c b a (.inl h)).2,h]⟩;have g:∀{t:Type} {B:TypeId} {C:Nat} {D:List Value->t->Prop} {v:Value} {E:List t},eU w own n B C D v E->∀b,v.ownBlock=some b->W.heap[b]?=w.heap[b]?/\O b=own b:=λh b a=>c b (h.type b a).2.1 (.inr (h.type b a).1);refine⟨by rw[d.2];exact h.mine,?_,λo=>(World.frozen?_of_block (w:=w) (a:=dA m o) d.1).trans (h.fr o),⟨i,e 0 i u,j.step mD f (g j)⟩,⟨k,e 1 k x,l.step uX f (g l)⟩,⟨p,e 2 p y,q.step qV f (g q)⟩,⟨r,e 3 r z,s.step tZ f (g s)⟩⟩;obtain⟨F,G⟩:=h.obj;exact⟨F,by rw[d.1];exact G⟩
theorem ed.below {own:Own}{S:Doc.dO}(h:ed w own n m S)(a:dB w W):ed W own n m S:=h.step (λb c _=>⟨a.block b c,rfl⟩)
theorem ed.fr' {own:Own}{S:Doc.dO}(h:ed w own n k S)(a:Fr own o m w W)(d:m≠0)(e:n≠m):ed W o n k S:=
 h.step (λb c f=>⟨a.block b c aR,a.ext b c⟩)
theorem Mk {own:Own}{o:Nat}{s:Doc.Sym}(h:yE w own b s)(a:∀j u,j<3->b[j]?=some u->w.cell? (dA n (o+j))=some u):IE w n o s:=by
 obtain⟨c,rfl,d⟩:=h;exact⟨a 0 _ aR rfl,⟨c,a 1 _ aR rfl,d.ints⟩,a 2 _ aR rfl⟩
theorem VD {own:Own}{o:Nat}{t:Doc.Term}(h:EI w own b t)(a:∀j u,j<5->b[j]?=some u->w.cell? (dA n (o+j))=some u):y7 w n o t:=by
 obtain⟨c,rfl,d⟩:=h;exact⟨a 0 _ aR rfl,a 1 _ aR rfl,a 2 _ aR rfl,a 3 _ aR rfl,⟨c,a 4 _ aR rfl,d.ints⟩⟩
theorem ed.book {own:Own}{S:Doc.dO}(h:ed w own n m S):ab6 w m S.syms S.terms:=by
 obtain⟨d,e,f⟩:=h.syms;obtain⟨g,i,j⟩:=h.terms;refine⟨⟨d,e,gu.imp f.sl λk l hi a _=>?_⟩,g,i,gu.imp j.sl λk l hi a _=>?_⟩
 ·obtain⟨o,_,b,c⟩:=a.2 hi;exact Mk b c
 ·obtain⟨o,_,b,c⟩:=a.2 hi;exact VD b c
theorem ed.sD {own:Own}{S:Doc.dO}(h:ed w own n m S){v e:Value}(x:w.cell? (dA m 1)=some v)(a:ky w W own O n m 1 v e)(Q:n≠0){j:List Doc.Term}(y:eU W O n 177 5 (EI W O) e j):ed W O n m { S with terms:=j }:=by
 obtain⟨z,A,k⟩:=h.syms;obtain⟨R,c,B⟩:=h.terms;obtain⟨C,D,l⟩:=h.held;obtain⟨E,F,p⟩:=h.levels;rw[x]at c;injection c with c
 subst c;obtain⟨G,q⟩:=h.obj;have f:∀b,b<w.heap.size->own b=0->W.heap[b]?=w.heap[b]?/\O b=0:=λb d h=>⟨a.fr.block b d aR,by rw[a.fr.ext b d,h]⟩
 have g:∀{r:Type} {i:TypeId} {H:Nat} {I:List Value->r->Prop} {u:Value} {J:List r},eU w own n i H I u J->i≠83->i≠177->∀b,u.ownBlock=some b->W.heap[b]?=w.heap[b]?/\O b=own b:=λK L M b d=>by
  obtain⟨_,s,T,t⟩:=K.type b d;refine⟨a.other b s (iH t q L) ?_,a.fr.ext b s⟩;intro N;obtain⟨_,_,U,P⟩:=B.type b N;exact iH t P M rfl
 refine⟨alY,a.type G _ q,λo=>(a.frozen o).trans (h.fr o),⟨z,(a.cells 0 aR).trans A,k.step mD f (g k aY aY)⟩,⟨e,a.cell,y⟩,⟨C,(a.cells 2 aR).trans D,l.step qV f (g l aY aY)⟩,⟨E,(a.cells 3 aR).trans F,p.step tZ f (g p aY aY)⟩⟩
