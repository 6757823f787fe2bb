import Derived.BigQuiet
import Derived.Deep.DeepCutAuto
import Derived.Deep.QuietTactic
import Derived.Deep.RegionHeld3
import Derived.Deep.RegionLawGrows
import Derived.Deep.RegionWith
import Derived.Test.YtbichedkajfmiaaGreatDoorGDoc4
import Derived.Test.YtbichedkajfmiaaGreatDoorGNumMath2
import Derived.Test.YtbichedkajfmiaaGreatDoorC
set_option maxRecDepth 100000
set_option maxHeartbeats 16000000
namespace Go.Proofs.YtbichedkajfmiaaGreatDoor
open Go.RowKit
variable {A:List Doc.Tr}{B b:List Value}{E e:TypeId}{N i j k m n:Nat}{V v:Value}{W u w:World}{Y:Doc.Tr}{a:Option Addr}{l:List Nat}{x:List UInt8}
theorem dC (w:World)(o:Obj)(p:Addr)(h:p.block<w.heap.size):((w.alloc o).drew).cell? p=w.cell? p:=
 (((Below.refl w.heap.size w).alloc ae o).drew).cell h
theorem dI (w:World)(o:Obj)(p:Addr)(h:p.block<w.heap.size):((w.alloc o).drew).frozen? p=w.frozen? p:=
 (((Below.refl w.heap.size w).alloc ae o).drew).frozen h
theorem dP {row:Option Nat}(b:w.grownBy W row){a:Addr}(c:a.block<w.heap.size)(d:some a.block≠row):W.cell? a=w.cell? a:=
 World.cell?_of_block (b.block a.block c d)
theorem dS {row:Option Nat}(b:w.grownBy W row){a:Addr}(c:a.block<w.heap.size)(d:some a.block≠row):W.frozen? a=w.frozen? a:=
 World.frozen?_of_block (b.block a.block c d)
theorem Lc {P:Program}(w:World)(Q:Nat)(t f e:TypeId)(i:TypeInfo)(z:Value)(size bytes:Nat)(p:P.underlying t=some (.slice e))(q:P.info? e=some i)(E:i.zero=some z)(r:i.size=size)(F:i.bytes=bytes)(G:z.cells.size=size)(H:0<size)
 (v:Value) (n:Nat) (s:List Value) (h:w.ownsRow Q e size v n s)
 (c:Addr) (m j:Nat) (b:List Value) (k:b.length=m*size) (x:∀I u,b[I]?=some u->w.cell? (c.add I)=some u) (J:∀u∈b,u.oneCell'=true)
 (K:n+m<=maxLen) (L:(n+m)*bytes<=140737488355328) (Z:0<m) (y:Value) (R:World) (A:(Builtin.append_ #[t,t] f #[v,.slice (some c) m j]).run P w=.ok y R) :
 y.ownBlock=v.ownBlock\/∃g,y.ownBlock=some g/\w.heap.size<=g:=by
 rcases h.2 with ⟨rfl,l⟩|⟨g,o,B,rfl,hbg,S,hnc,hcm,T,htake⟩
 ·have U:s=[]:=List.eq_nil_of_length_eq_zero (by rw[h.1,l];simp);subst U l;obtain⟨V,W,d,C,_,r3⟩:=run_append_own (P:=P) w w.heap.size t f e i z size bytes p q E r F G H (.slice none 0 0) 0 [] (World.ownsRow_nil w _ e size) c m j b k x J K L ae;rw[A]at d;injection d with a M
  subst a;rcases C.2 with ⟨_,l⟩|⟨g,o,B,a,D,_⟩
  ·exact aO
  ·subst a;exact .inr ⟨g,rfl,D⟩
 ·by_cases N:n+m<=o
  ·subst r;have X:n*i.size+b.length<=B.size:=by rw[k,T,<-Nat.add_mul];exact Nat.mul_le_mul_right _ N
   have O:=run_append_room (P:=P) w t f e i p q g n o B S c m j b k x J N X;rw[A]at O;injection O with a M
   subst a;exact .inl rfl
  ·obtain⟨V,W,d,C,_⟩:=run_append_arg_grows (P:=P) w t f e i z size bytes p q E r F G H ⟨g,0,none⟩ n o s h.1 (h.cells (g:=g) rfl) c m j b k x aO K L;rw[A]at d;injection d with a M
   subst a;rcases C.2 with ⟨_,l⟩|⟨Y,cap',cur',a,D,_⟩
   ·exact aO
   ·subst a;exact .inr ⟨Y,rfl,D⟩
theorem iH {P:Program}{ops:Array Oper}{o:Oper}{a:Act}{w:World}{K:Act->World->Prop}{Q:Exit->Act->World->Prop}{E:Prop}
 (N:o.guard=none) (s x:Operand) (t:TypeId) (O:o.op=Op.call { callee:=Callee.builtin Builtin.append,args:=#[s,x],argTypes:=#[t,t] })
 (b:Nat) (e:TypeId) (i:TypeInfo) (z:Value) (size bytes:Nat) (m:P.underlying t=some (.slice e)) (p:P.info? e=some i) (q:i.zero=some z) (r:i.size=size) (y:i.bytes=bytes) (A:z.cells.size=size) (B:0<size)
 (v:Value) (n:Nat) (f:List Value) (R:a.eval s=v) (C:w.ownsRow b e size v n f)
 (h:Addr) (l:Nat) (c:List Value) (S:a.eval x=.slice (some h) 1 l) (D:c.length=1*size) (F:∀G u,c[G]?=some u->w.cell? (h.add G)=some u) (H:∀u∈c,u.oneCell'=true)
 (I:n+1<=maxLen) (J:(n+1)*bytes<=140737488355328) (T:b<=w.heap.size)
 (U:∀g j d,d.ownsRow b e size (.slice (some ⟨g,0,none⟩) (n+1) j) (n+1) (f++c)->w.grownBy d v.ownBlock->b<=g->(v.ownBlock=some g\/w.heap.size<=g)->K (a.put o.dst (.slice (some ⟨g,0,none⟩) (n+1) j)) d) :
 if Region.wanted o (yielded ops a.tmps)=true then Oper.wp P o a w K Q else E:=by
 have V:Region.wanted o (yielded ops a.tmps)=true:=by simp[Region.wanted,N]
 rw[if_pos V];obtain⟨v',d,L,M,W,_⟩:=run_append_own (P:=P) w b t o.type e i z size bytes m p q r y A B v n f C h 1 l c D F H I J T;unfold Oper.wp;simp[execOp,O,resolve,invoke,builtin,R,S,L,Result.andThen];have X:=M;obtain⟨q1,Y⟩:=M;rcases Y with ⟨_,h0⟩|⟨g,j,cur,Z,hb,_⟩
 ·exact aO
 ·subst Z;refine U g j d X W hb ?_;rcases Lc w b t o.type e i z size bytes m p q r y A B v n f C h 1 l c D F H I J aO _ d L with k|⟨g',k,hg'⟩
  ·exact .inl k.symm
  ·simp only[Value.ownBlock,Option.some.injEq]at k;subst k;exact .inr hg'
theorem dD {P:Program}{f:Array Oper}{rest:List Oper}{o:Oper}{a:Act}{Q:Exit->Act->World->Prop}(j:o.guard=none)(s x:Operand)(t:TypeId)
 (q:o.op=Op.call { callee:=Callee.builtin Builtin.append,args:=#[s,x],argTypes:=#[t,t] })
 (b:Nat) (e:TypeId) (i:TypeInfo) (z:Value) (size bytes:Nat) (r:P.underlying t=some (.slice e)) (y:P.info? e=some i) (A:i.zero=some z) (B:i.size=size) (C:i.bytes=bytes) (D:z.cells.size=size) (E:0<size)
 (v:Value) (n:Nat) (k:List Value) (F:a.eval s=v) (G:w.ownsRow b e size v n k)
 (l:Addr) (m:Nat) (c:List Value) (H:a.eval x=.slice (some l) 1 m) (I:c.length=1*size) (J:∀p u,c[p]?=some u->w.cell? (l.add p)=some u) (K:∀u∈c,u.oneCell'=true)
 (L:n+1<=maxLen) (M:(n+1)*bytes<=140737488355328) (N:b<=w.heap.size)
 (O:∀g h d,d.ownsRow b e size (.slice (some ⟨g,0,none⟩) (n+1) h) (n+1) (k++c)->w.grownBy d v.ownBlock->b<=g->(v.ownBlock=some g\/w.heap.size<=g)->wpList P f Q rest (a.put o.dst (.slice (some ⟨g,0,none⟩) (n+1) h)) d) :
 wpList P f Q (o::rest) a w:=by
 refine wpList_plain j fun R S=>?_
 have:=iH (P:=P) (ops:=f) (o:=o) (a:=a) (w:=w) (K:=R) (Q:=Q) (E:=False) j s x t q b e i z size bytes r y A B C D E v n k F G l m c H I J K L M N
  (fun g h d T U V W=>S _ _ (O g h d T U V W))
 have X:Region.wanted o (yielded f a.tmps)=true:=by simp[Region.wanted,j]
 rwa [if_pos X]at this
structure lH (w w2:World)(eb f base:Nat)(e:TypeId)(size:Nat)(v v':Value)(n:Nat)(xs:List Value):Prop where
 cell:w2.cell? ⟨eb,f,none⟩=some v'
 cells:∀f',f≠f'->w2.cell? ⟨eb,f',none⟩=w.cell? ⟨eb,f',none⟩
 frozen:∀o,w2.frozen? ⟨eb,o,none⟩=w.frozen? ⟨eb,o,none⟩
 own:w2.ownsRow base e size v' n xs
 other:∀(e2:TypeId) (s2:Nat) (u:Value) (m:Nat) (ys:List Value),w.ownsRow base e2 s2 u m ys->(∀b,u.ownBlock=some b->v.ownBlock≠some b)->w2.ownsRow base e2 s2 u m ys/\(∀b,u.ownBlock=some b->v'.ownBlock≠some b)
 below:Below eb w w2
 block:∀k,k<w.heap.size->k≠eb->some k≠v.ownBlock->w2.heap[k]?=w.heap[k]?
 size:w.heap.size<=w2.heap.size
theorem fE {eb f:Nat}{size:Nat}(j:eb<n)(l:w.ownsRow n e size v m b)(p:eb<w.heap.size){y:Value}(z:w.cell? ⟨eb,f,none⟩=some y)
 (A:W.ownsRow n e size (.slice (some ⟨k,0,none⟩) (m+1) i) (m+1) B) (a:w.grownBy W v.ownBlock) (C:v.ownBlock=some k\/w.heap.size<=k) :
 lH w (W.setCell ⟨eb,f,none⟩ (.slice (some ⟨k,0,none⟩) (m+1) i)) eb f n e size v (.slice (some ⟨k,0,none⟩) (m+1) i) (m+1) B:=by
 have q:some eb≠v.ownBlock:=fun h=>by have:=(l.lt eb h.symm).1;omega
 have r:∀o,W.cell? ⟨eb,o,none⟩=w.cell? ⟨eb,o,none⟩:=fun o=>dP a p q;refine⟨?_,?_,?_,ownsRow_setCell_below A j _,?_,?_,?_,?_⟩
 ·exact World.cell?_setCell_same _ _ _ ((r f).trans z)
 ·intro D E;rw[ak (fun h=>E aiF)];exact r D
 ·intro o;rw[World.frozen?_setCell];exact dS a p q
 ·intro K L F M N s t;refine⟨ownsRow_setCell_below (s.kept a ?_) j _,?_⟩
  ·cases hv:F.ownBlock with
   | none=>exact .inl rfl
   | some c=>exact .inr fun h=>t c hv h.symm
  ·intro c u h;have G:k=c:=by simpa[Value.ownBlock] using h
   subst G;rcases C with x|x
   ·exact t k u x
   ·have:=(s.lt k u).2;exact aO
 ·have H:Below eb w W:=(Below.refl eb w).grown a aO (fun d g=>by have:=(l.lt d g).1;omega);exact H.setCell ae _
 ·intro d g I J;rw[aC I];exact a.block d g J
 ·have:=a.size;simpa[World.setCell] using this
abbrev Own:=Nat->Nat
structure Fr (own own':Own)(k:Nat)(w w':World):Prop where
 os:w'.os=w.os
 tape:w'.tape=w.tape
 output:w'.output=w.output
 size:w.heap.size<=w'.heap.size
 block:∀b,b<w.heap.size->own b≠k->w'.heap[b]?=w.heap[b]?
 ext:∀b,b<w.heap.size->own' b=own b
 fresh:∀b,w'.heap.size<=b->own' b=0
def dH (own:Own)(w:World):Prop:=∀b,w.heap.size<=b->own b=0
theorem Fr.refl {own:Own}(h:dH own w)(k:Nat):Fr own own k w w:=⟨rfl,rfl,rfl,ae,fun _ _ _=>rfl,fun _ _=>rfl,h⟩
variable {o O Q:Own}
theorem Fr.trans {a:World}(h:Fr o O n a w)(g:Fr O Q n w W):Fr o Q n a W:=
 ⟨g.os.trans h.os,g.tape.trans h.tape,g.output.trans h.output,Nat.le_trans h.size g.size,
  fun i hi b=>(g.block i (Nat.lt_of_lt_of_le hi h.size) (by rw[h.ext i hi];exact b)).trans (h.block i hi b),
  fun i hi=>(g.ext i (Nat.lt_of_lt_of_le hi h.size)).trans (h.ext i hi),g.fresh⟩
theorem Fr.of_below {own:Own}(k:Nat)(c:dH own w)(h:Below w.heap.size w W):Fr own own k w W:=
 ⟨h.os,h.tape,h.output,h.size,fun b a _=>h.block b a,fun _ _=>rfl,fun b a=>c b (Nat.le_trans h.size a)⟩
theorem Fr.below (h:Fr o O n w W)(g:Below w.heap.size W u):Fr o O n w u:=
 ⟨g.os.trans h.os,g.tape.trans h.tape,g.output.trans h.output,Nat.le_trans h.size g.size,fun i hi a=>(g.block i hi).trans (h.block i hi a),h.ext,fun W b=>h.fresh W (Nat.le_trans g.size b)⟩
theorem Fr.alloc {a:World}(h:Fr O Q n a w)(o:Obj):Fr O Q n a (w.alloc o):=h.below ((Below.refl _ w).alloc h.size o)
theorem Fr.drew (h:Fr o O n w W):Fr o O n w W.drew:=h.below (Below.refl _ W).drew
theorem Fr.setCell {k:Nat}{a:World}(h:Fr o O k a w){p:Addr}(b:a.heap.size<=p.block)(u:Value):Fr o O k a (w.setCell p u):=h.below ((Below.refl _ w).setCell b u)
theorem Fr.cell {own:Own}(h:Fr own o n w W){p:Addr}{v:Value}(a:w.cell? p=some v)(b:own p.block≠n):W.cell? p=some v:=
 (World.cell?_of_block (w:=w) (h.block p.block (World.block_lt_of_cell? w p a) b)).trans a
theorem Fr.owns {own:Own}(j:Fr own o n w W){a:Nat}{e:TypeId}{size:Nat}{v:Value}{b:Nat}{c:List Value}(d:w.ownsRow a e size v b c)(k:∀f,v.ownBlock=some f->own f≠n):W.ownsRow a e size v b c:=by
 refine⟨d.1,?_⟩;rcases d.2 with l|⟨g,m,p,h,q,i,r⟩
 ·exact .inl l
 ·refine .inr ⟨g,m,p,h,q,?_,r⟩;rw[j.block g (Array.getElem?_eq_some_iff.1 i).1 (k g (by rw[h];rfl))];exact i
theorem Fr.dJ {own:Own}(h:Fr own o n w W):dH o W:=h.fresh
def eD (w:World)(own:Own)(v:Value)(xs:List Nat):Prop:=fA v xs.length (fun g i=>own g=0/\∀h:i<xs.length,w.cell? ⟨g,i,none⟩=some (.int .i64 xs[i]))
theorem eD.ints {own:Own}(h:eD w own v l):dY w v l:=fA.imp h fun _ _ _ a=>a.2
theorem eD.fr {own:Own}(h:eD w own v l)(b:Fr own o n w W)(c:n≠0):eD W o v l:=
 fA.imp h fun g i hi a=>⟨by rw[b.ext g (ai (a.2 hi))];exact a.1,fun hi=>b.cell (a.2 hi) (by rw[show own g=0 from a.1];omega)⟩
theorem eD.below {own:Own}(h:eD w own v l)(b:Below w.heap.size w W):eD W own v l:=
 fA.imp h fun g i _ a=>⟨a.1,fun hi=>(b.cell (p:=⟨g,i,none⟩) (ai (a.2 hi))).trans (a.2 hi)⟩
theorem eD.nil (w:World)(own:Own):eD w own (.slice none 0 0) []:=⟨none,0,rfl,ae,aX,by intro i hi;simp at hi⟩
inductive fO {α β:Type} (C:α->β->Prop):List α->List β->Prop where
 | nil:fO C [] []
 | cons {a b xs ys}:C a b->fO C xs ys->fO C (a::xs) (b::ys)
theorem fO.len {a b:Type}{C:a->b->Prop}{c:List a}{d:List b}(h:fO C c d):c.length=d.length:=by
 induction h with
 | nil=>rfl
 | cons _ _ e=>simp[e]
theorem fO.imp {a b:Type}{C D:a->b->Prop}{c:List a}{d:List b}(h:fO C c d)(g:∀e f,C e f->D e f):fO D c d:=by
 induction h with
 | nil=>exact .nil
 | cons i _ j=>exact .cons (g _ _ i) j
theorem fO.app {a b:Type}{C:a->b->Prop}{c d:List a}{e f:List b}(h:fO C c e)(g:fO C d f):fO C (c++d) (e++f):=by
 induction h with
 | nil=>exact g
 | cons i _ j=>exact .cons i j
theorem fO.take {a b:Type}{C:a->b->Prop}{c:List a}{d:List b}(h:fO C c d):∀n,fO C (c.take n) (d.take n):=by
 induction h with
 | nil=>intro n;simp;exact .nil
 | cons e _ f=>intro n;cases n with
  | zero=>simp;exact .nil
  | succ n=>simp;exact .cons e (f n)
theorem fO.get {c d:Type}{C:c->d->Prop}{a:List c}{b:List d}(h:fO C a b):∀i (hi:i<a.length) (e:i<b.length),C a[i] b[i]:=by
 induction h with
 | nil=>intro i hi;simp at hi
 | cons f _ g=>intro i hi e;cases i with
  | zero=>exact f
  | succ i=>simpa using g i ahT (by simpa using e)
def dN {α:Type}(w:World)(own:Own)(k:Nat)(e:TypeId)(sz:Nat)(C:List Value->α->Prop)(v:Value)(zs:List α):Prop:=
 ∃xs:List (List Value),w.ownsRow 0 e sz v zs.length xs.flatten/\fO C xs zs/\(∀x∈xs,x.length=sz)/\∀b,v.ownBlock=some b->own b=k
theorem dN.imp {a:Type}{own:Own}{C D:List Value->a->Prop}{b:List a}(h:dN w own n e m C v b)(f:∀c d,C c d->D c d):dN w own n e m D v b:=by
 obtain⟨g,i,j,k,l⟩:=h;exact⟨g,i,j.imp f,k,l⟩
theorem dN.lt {a:Type}{own:Own}{C:List Value->a->Prop}{c:List a}(h:dN w own n e m C v c):∀b,v.ownBlock=some b->b<w.heap.size:=by
 obtain⟨g,d,i,j,k⟩:=h;exact fun b f=>(d.lt b f).2
theorem dN.kept {c:Type}{own:Own}{C:List Value->c->Prop}{d:List c}(i:dN w own n e m C v d)
 (f:∀b,v.ownBlock=some b->W.heap[b]?=w.heap[b]?/\o b=own b):dN W o n e m C v d:=by
 obtain⟨j,g,k,l,p⟩:=i;refine⟨j,⟨g.1,?_⟩,k,l,fun b a=>by rw[(f b a).2];exact p b a⟩;rcases g.2 with q|⟨h,r,s,a,t,u,x⟩
 ·exact .inl q
 ·exact .inr ⟨h,r,s,a,t,by rw[(f h (by rw[a];rfl)).1];exact u,x⟩
theorem dN.nil {a:Type}(w:World)(own:Own)(k:Nat)(e:TypeId)(b:Nat)(C:List Value->a->Prop):dN w own k e b C (.slice none 0 0) []:=⟨[],World.ownsRow_nil _ _ _ _,.nil,aP,by intro d c;simp[Value.ownBlock]at c⟩
theorem dN.sl {d:Type}{own:Own}{C:List Value->d->Prop}{a:List d}(o:dN w own n e m C v a) :
 fA v a.length (fun g i=>own g=n/\∀hi:i<a.length,∃c:List Value,c.length=m/\C c a[i]/\∀j u,j<m->c[j]?=some u->w.cell? ⟨g,i*m+j,none⟩=some u):=by
 obtain⟨p,q,f,h,r⟩:=o;have k:=f.len;have s:=Row.dW q k.symm h;obtain⟨t,x,b,E,y,F,z⟩:=s;rw[k]at b;refine⟨t,x,b,aO,y,fun i hi=>?_⟩;obtain⟨g,l,A⟩:=z i aO;refine⟨g,l,r g (by rw[b,l];rfl),fun hi=>⟨p[i],h _ aP,f.get i aO hi,fun j u B D=>A j B u D⟩⟩
theorem dN.take {o:Type}{own:Own}{C:List Value->o->Prop}{f:List o}(s:dN w own n e m C (.slice a k i) f)(b:Nat)(p:b<=f.length):dN w own n e m C (.slice a b i) (f.take b):=by
 obtain⟨c,t,q,g,u⟩:=s;have K:=q.len
 have v:(c.take b).flatten=c.flatten.take (b*m):=by
  have y:c=c.take b++c.drop b:=(List.take_append_drop b c).symm;have z:(c.take b).flatten.length=b*m:=by rw[sO (fun x d=>g x (List.take_subset _ _ d))];congr 1;simp;omega
  conv=>rhs;rw[y,List.flatten_append]
  rw[List.take_append_of_le_length aO,<-z,List.take_length]
 refine⟨c.take b,⟨?_,?_⟩,q.take b,fun x d=>g x (List.take_subset _ _ d),fun A r=>u A (by cases a with
  | none=>simp[Value.ownBlock]at r
  | some L=>exact r)⟩
 ·rw[sO (fun x d=>g x (List.take_subset _ _ d))];congr 1;simp;omega
 ·rw[List.length_take,Nat.min_eq_left p];rcases t.2 with ⟨h,M⟩|⟨B,N,D,h,E,F,O,G,H,I⟩
  ·injection h with j J l;subst j l;have:b=0:=aO;subst this;exact .inl ⟨rfl,rfl⟩
  ·injection h with j J l;subst j l;refine .inr ⟨B,i,D,rfl,E,F,aO,G,H,?_⟩;rw[v,<-I,List.take_take,Nat.min_eq_left (Nat.mul_le_mul_right _ p)]
theorem dN.snoc {f:Type}{w:World}{own':Own}{k:Nat}{C D:List Value->f->Prop}{v:Value}{zs:List f}{g cap:Nat}{c:List Value}{a:f}{b:List (List Value)}
 (h:w.ownsRow 0 e n v zs.length b.flatten/\fO C b zs/\(∀x∈b,x.length=n)) (i:W.ownsRow 0 e n (.slice (some ⟨g,0,none⟩) (zs.length+1) cap) (zs.length+1) (b.flatten++c)) (j:∀c a,C c a->D c a) (l:D c a) (m:c.length=n) (o:own' g=k) :
 dN W own' k e n D (.slice (some ⟨g,0,none⟩) (zs.length+1) cap) (zs++[a]):=by
 obtain⟨_,p,q⟩:=h;refine⟨b++[c],?_,(p.imp j).app (.cons l .nil),?_,?_⟩
 ·simpa using i
 ·intro x d;rcases List.mem_append.1 d with d|d
  ·exact q x d
  ·rw[List.mem_singleton.1 d];exact m
 ·intro r s;have:g=r:=by simpa[Value.ownBlock] using s
  subst this;exact o
def EX {α:Type}(C:World->Own->List Value->α->Prop):Prop:=
 ∀(w w':World) (own own':Own),(∀b,b<w.heap.size->own b=0->w'.heap[b]?=w.heap[b]?/\own' b=0)->∀c a,C w own c a->C w' own' c a
theorem dN.step {d:Type}{C:World->Own->List Value->d->Prop}(h:EX C){w a:World}{own c:Own}{k:Nat}{e:TypeId}{f:Nat}{v:Value}{g:List d}(i:dN w own k e f (C w own) v g)
 (j:∀b,b<w.heap.size->own b=0->a.heap[b]?=w.heap[b]?/\c b=0) (l:∀b,v.ownBlock=some b->a.heap[b]?=w.heap[b]?/\c b=own b):dN a c k e f (C a c) v g:=
 (i.imp (fun m n=>h w a own c j m n)).kept l
theorem dN.type {f:Type}{own:Own}{C:List Value->f->Prop}{h:List f}(i:dN w own n e m C v h):∀b,v.ownBlock=some b->own b=n/\b<w.heap.size/\∃c,w.heap[b]?=some (.cells c e (0,0)):=by
 obtain⟨o,g,_,_,j⟩:=i;intro b a;refine⟨j b a,(g.lt b a).2,?_⟩;rcases g.2 with ⟨d,_⟩|⟨k,p,c,d,_,l,_⟩
 ·rw[d]at a;simp[Value.ownBlock]at a
 ·rw[d]at a;have:k=b:=aj5;subst this;exact⟨c,l⟩
theorem dN.form {d:Type}{own:Own}{C:List Value->d->Prop}{b:List d}(h:dN w own n e m C v b):∃f a,v=.slice f b.length a/\b.length<=a/\a<=2 ^ 63-1:=by
 obtain⟨l,g,_⟩:=h;rcases g.2 with ⟨c,i⟩|⟨o,a,p,c,_,_,j,k,_⟩
 ·exact⟨none,0,by rw[c,i],aO,aO⟩
 ·exact⟨_,a,c,j,by unfold maxLen at k;omega⟩
theorem gp {b c:Array Value}(h:w.heap[n]?=some (.cells b e (0,0)))(a:w.heap[m]?=some (.cells c E (0,0)))(d:e≠E):n≠m:=by
 intro f;subst f;rw[h]at a;injection a with a;injection a with _ a _;exact d a
def dw (own:Own)(g k:Nat):Own:=fun b=>if b=g then k else own b
structure jg (w w2:World)(own own':Own)(k sb f:Nat)(v v':Value):Prop where
 fr:Fr own own' k w w2
 cell:w2.cell? ⟨sb,f,none⟩=some v'
 cells:∀f',f≠f'->w2.cell? ⟨sb,f',none⟩=w.cell? ⟨sb,f',none⟩
 frozen:∀o,w2.frozen? ⟨sb,o,none⟩=w.frozen? ⟨sb,o,none⟩
 other:∀b,b<w.heap.size->b≠sb->v.ownBlock≠some b->w2.heap[b]?=w.heap[b]?
 type:∀cur e,w.heap[sb]?=some (.cells cur e (0,0))->∃cur',w2.heap[sb]?=some (.cells cur' e (0,0))
theorem jK {a:Array Value}(h:w.heap[n]?=some (.cells a e (0,0))):∃b,(w.setCell ⟨n,m,none⟩ v).heap[n]?=some (.cells b e (0,0)):=by
 simp only[World.setCell,Array.getElem?_modify,if_true,h,Option.map_some];exact⟨_,rfl⟩
theorem nS {B:Type}{own:Own}{I:List Value->B->Prop}{J:List B}{d n:Nat}(K:dN w own m e j I v J)(L:dH own w)(M:own k=m)(O:k<w.heap.size)
 (s:v.ownBlock≠some k) (g:Below w.heap.size w W) (P:w.cell? ⟨k,i,none⟩=some V) (t:u.ownsRow 0 e j (.slice (some ⟨N,0,none⟩) n d) n b) (l:W.grownBy u v.ownBlock) (C:v.ownBlock=some N\/W.heap.size<=N) :
 jg w (u.setCell ⟨k,i,none⟩ (.slice (some ⟨N,0,none⟩) n d)) own (dw own N m) m k i v (.slice (some ⟨N,0,none⟩) n d)/\
 (u.setCell ⟨k,i,none⟩ (.slice (some ⟨N,0,none⟩) n d)).ownsRow 0 e j (.slice (some ⟨N,0,none⟩) n d) n b/\k≠N:=by
 have Z:=g.size;have hgs:=l.size;have D:=K.type
 have Q:k≠N:=by
  intro h;rcases C with f|f
  ·rw[h]at s;exact s f
  ·exact aO
 have x:∀a,a≠k->(u.setCell ⟨k,i,none⟩ (.slice (some ⟨N,0,none⟩) n d)).heap[a]?=u.heap[a]?:=fun a c=>aC c;have y:∀a,a<w.heap.size->v.ownBlock≠some a->u.heap[a]?=w.heap[a]?:=fun a c h=>(l.block a aO (fun e=>h e.symm)).trans (g.block a c);have p:u.heap[k]?=w.heap[k]?:=y k O s;have E:(u.setCell ⟨k,i,none⟩ (.slice (some ⟨N,0,none⟩) n d)).heap.size=u.heap.size:=aik;refine⟨⟨⟨?_,?_,?_,by rw[E];omega,?_,?_,?_⟩,?_,?_,?_,?_,?_⟩,?_,Q⟩
 ·exact(l.os.trans g.os)
 ·exact(l.tape.trans g.tape)
 ·exact(l.output.trans g.output)
 ·intro a c F;have z:a≠k:=fun h=>F (by rw[h];exact M);have f:v.ownBlock≠some a:=fun h=>F (D a h).1;rw[x a z];exact y a c f
 ·intro a c;unfold dw
  by_cases A:a=N
  ·rw[if_pos A];rcases C with h|h
   ·rw[A];exact(D N h).1.symm
   ·exact aO
  ·rw[if_neg A]
 ·intro a c;rw[E]at c;unfold dw;rw[if_neg (by intro h;have h3:=(t.lt N rfl).2;omega)];exact L a aO
 ·exact World.cell?_setCell_same _ _ _ ((World.cell?_of_block (w:=w) (a:=⟨k,i,none⟩) p).trans P)
 ·intro R S;rw[ak (fun h=>S aiF)];exact World.cell?_of_block (w:=w) (a:=⟨k,R,none⟩) p
 ·intro o;rw[World.frozen?_setCell];exact World.frozen?_of_block (w:=w) (a:=⟨k,o,none⟩) p
 ·intro a c z f;rw[x a z];exact y a c f
 ·intro G e' h;exact jK (p.trans h)
 ·refine⟨t.1,?_⟩;rcases t.2 with ⟨q,_⟩|⟨H,T,G,q,U,X,Y⟩
  ·cases q
  ·refine .inr ⟨H,T,G,q,U,?_,Y⟩;injection q with r;injection r with r;injection r with r;rw[x H aO];exact X
abbrev dX:=Doc.Term
structure wD (w:World)(g o:Nat)(t:dX):Prop where
 text:w.cell? ⟨g,o,none⟩=some (.string ⟨t.text.toArray⟩)
 op:w.cell? ⟨g,o+1,none⟩=some (.int .i64 t.op)
 sort:w.cell? ⟨g,o+2,none⟩=some (.int .i64 t.sort)
 sym:w.cell? ⟨g,o+3,none⟩=some (.int .i64 t.sym)
 args:∃av,w.cell? ⟨g,o+4,none⟩=some av/\dY w av t.args
variable {X:dX}
theorem wD.below {o:Nat}(h:wD w n o X)(a:Below w.heap.size w W):wD W n o X:=by
 have b:=ai h.text;obtain⟨c,d,e⟩:=h.args;exact⟨(a.cell (p:=⟨n,o,none⟩) b).trans h.text,(a.cell (p:=⟨n,o+1,none⟩) b).trans h.op,(a.cell (p:=⟨n,o+2,none⟩) b).trans h.sort,(a.cell (p:=⟨n,o+3,none⟩) b).trans h.sym,c,(a.cell (p:=⟨n,o+4,none⟩) b).trans d,e.below a⟩
def Cy (w:World)(v:Value)(ts:List dX):Prop:=fA v ts.length (fun g i=>∀h:i<ts.length,wD w g (i*5) ts[i])
theorem Cy.below {a:List dX}(h:Cy w v a)(b:Below w.heap.size w W):Cy W v a:=
 fA.imp h fun _ _ _ c hi=>(c hi).below b
def mr (w:World)(bb:Nat)(ts:List dX):Prop:=∃vT,w.cell? ⟨bb,1,none⟩=some vT/\Cy w vT ts
theorem mr.below {a:List dX}(h:mr w n a)(b:Below w.heap.size w W):mr W n a:=by
 obtain⟨v,c,d⟩:=h;exact⟨v,(b.cell (p:=⟨n,1,none⟩) (ai c)).trans c,d.below b⟩
structure EU (w:World)(g o:Nat)(s:Doc.Sym):Prop where
 name:w.cell? ⟨g,o,none⟩=some (.string ⟨s.name.toArray⟩)
 args:∃av,w.cell? ⟨g,o+1,none⟩=some av/\dY w av s.args
 sort:w.cell? ⟨g,o+2,none⟩=some (.int .i64 s.sort)
theorem EU.below {o:Nat}{s:Doc.Sym}(h:EU w n o s)(a:Below w.heap.size w W):EU W n o s:=by
 have b:=ai h.name;obtain⟨c,d,e⟩:=h.args;exact⟨(a.cell (p:=⟨n,o,none⟩) b).trans h.name,⟨c,(a.cell (p:=⟨n,o+1,none⟩) b).trans d,e.below a⟩,(a.cell (p:=⟨n,o+2,none⟩) b).trans h.sort⟩
def BI (w:World)(v:Value)(ss:List Doc.Sym):Prop:=fA v ss.length (fun g i=>∀h:i<ss.length,EU w g (i*3) ss[i])
theorem BI.below {a:List Doc.Sym}(h:BI w v a)(b:Below w.heap.size w W):BI W v a:=
 fA.imp h fun _ _ _ c hi=>(c hi).below b
structure Gp (w:World)(bb:Nat)(ss:List Doc.Sym)(ts:List dX):Prop where
 syms:∃v,w.cell? ⟨bb,0,none⟩=some v/\BI w v ss
 terms:mr w bb ts
theorem Gp.below {b:List Doc.Sym}{c:List dX}(h:Gp w n b c)(a:Below w.heap.size w W):Gp W n b c:=by
 obtain⟨v,d,e⟩:=h.syms;exact⟨⟨v,(a.cell (p:=⟨n,0,none⟩) (ai d)).trans d,e.below a⟩,h.terms.below a⟩
theorem Jf (a b:UInt8):((a.toNat:Int)==(b.toNat:Int))=(a==b):=by
 rw[Bool.eq_iff_iff,beq_iff_eq,beq_iff_eq];constructor
 ·intro h;exact dn.jM aO
 ·intro h;rw[h]
theorem mX {a:UInt8}{n:Nat}(b:n<256):((a.toNat:Int)==(n:Int))=(a==UInt8.ofNat n):=by
 rw[<-Jf]
 congr 2
 rw[UInt8.toNat_ofNat'];exact aO
theorem IL (l:List UInt8)(c:UInt8)(i:Nat)(h:i<l.length):(l.drop i).contains c=((l[i]==c)||(l.drop (i+1)).contains c):=by
 rw[List.drop_eq_getElem_cons h,List.contains_cons]
 congr 1
 rw[Bool.eq_iff_iff,beq_iff_eq,beq_iff_eq];exact eq_comm
theorem GR (c:UInt8)(w:World) :
 Calls Tryz.prog 183 #[.int .u8 c.toNat] w fun f g=>f=.returned (.bool (Doc.named c))/\g=w:=by
 have o:=fJ;have h:Hid (Doc.named c=(Doc.pV.drop 0).contains c):=rfl;generalize Doc.named c=j at *;go_enter Tryz.func183,Tryz.ntmps183;go_wp2_with fail
 go_loop [3] (fun i=>∃k:Nat,i=.int .i64 k/\k<=68/\j=(Doc.pV.drop k).contains c) (fun i=>68-(intOf i).toNat)
 case atStart=>exact⟨0,rfl,aO,h.o⟩
 case round=>
  obtain⟨k,rfl,p,d⟩:=hrel;have b:=di d;clear d
  by_cases l:k<68
  ·have m:k<Doc.pV.length:=l;have e:=di (IL Doc.pV c k m);go_wp2_with fail
   ·rename_i a _;have a:(Doc.pV[k]==c)=true:=by rw[<-Jf];exact a
    go_ret;exact⟨dK (by rw[b.o,e.o,a];rfl),rfl⟩
   ·rename_i a;have a:(Doc.pV[k]==c)=false:=by rw[<-Jf];exact a
    go_round
    case rel=>exact⟨k+1,bJ,aO,by rw[b.o,e.o,a];rfl⟩
    case measure=>exact akL
  ·have n:k=68:=aO;subst n;go_wp2_with fail;go_ret;exact⟨dK ai8,rfl⟩
theorem K9 (c:UInt8):(((c.toNat:Int)==32)||((c.toNat:Int)==10))=Doc.iq c:=by
 unfold Doc.iq;have a:=mX (a:=c) (n:=32) aO;have b:=mX (a:=c) (n:=10) aO;rw[show(32:Int)=((32:Nat):Int) from rfl,show(10:Int)=((10:Nat):Int) from rfl,a,b];rfl
theorem Ht (l:List UInt8)(i:Nat)(w:World)(hi:i<=l.length)(n:l.length<=1000000000000) :
 Calls Tryz.prog 134 #[.string ⟨l.toArray⟩,.int .i64 i] w fun h j=>h=.returned (.int .i64 (Doc.blank l i))/\j=w:=by
 have o:=fJ;have p:Hid (Doc.blank l i=Doc.blank l i):=rfl;generalize f:Doc.blank l i=m at *;go_enter Tryz.func134,Tryz.ntmps134;go_wp2_with fail
 go_loop [1] (fun v=>∃k:Nat,v=.int .i64 k/\k<=l.length/\Doc.blank l k=m) (fun v=>l.length-(intOf v).toNat)
 case atStart=>exact⟨i,rfl,hi,f⟩
 case round=>
  obtain⟨k,rfl,q,g⟩:=hrel;have c:=di g;clear g f
  by_cases e:k<l.length
  ·by_cases a:((l[k].toNat:Int)==32)=true
   ·have b:Doc.iq l[k]=true:=by rw[<-K9,a];rfl
    go_wp2_with fail
    go_round
    case rel=>exact⟨k+1,bJ,aO,by rw[<-Doc.Ab e b];exact c.o⟩
    case measure=>exact akL
   ·have a:((l[k].toNat:Int)==32)=false:=aiW
    by_cases d:((l[k].toNat:Int)==10)=true
    ·have b:Doc.iq l[k]=true:=by rw[<-K9,a,d];rfl
     go_wp2_with fail
     go_round
     case rel=>exact⟨k+1,bJ,aO,by rw[<-Doc.Ab e b];exact c.o⟩
     case measure=>exact akL
    ·have d:((l[k].toNat:Int)==10)=false:=ajw;have b:Doc.iq l[k]=false:=by rw[<-K9,a,d];rfl
     go_wp2_with fail;go_ret;exact⟨fB (by rw[<-c.o,Doc.z8 e b]),rfl⟩
  ·go_wp2_with fail;go_ret;exact⟨fB (by rw[<-c.o,Doc.BD aO]),rfl⟩
structure Tc where
 x:List UInt8
 bb:Bool
 ao:Option Addr
 m:Nat
 cap:Nat
 p:Nat
def Tc.cells (c:Tc):List Value:=[dO c.x,.bool c.bb,.slice c.ao c.m c.cap,.int .i64 c.p]
def Tc.agg (c:Tc):Value:=.agg #[.string ⟨c.x.toArray⟩,.bool c.bb,.slice c.ao c.m c.cap,.int .i64 c.p]
theorem Tc.one (c:Tc):∀u∈c.cells,u.oneCell'=true:=by
 intro u a;simp only[Tc.cells,List.mem_cons,List.not_mem_nil,or_false]at a;rcases a with rfl|rfl|rfl|rfl<;>rfl
structure kg (w:World)(g o:Nat)(c:Tc):Prop where
 x:w.cell? ⟨g,o,none⟩=some (.string ⟨c.x.toArray⟩)
 b:w.cell? ⟨g,o+1,none⟩=some (.bool c.bb)
 k:w.cell? ⟨g,o+2,none⟩=some (.slice c.ao c.m c.cap)
 p:w.cell? ⟨g,o+3,none⟩=some (.int .i64 c.p)
variable {D:Tc}
theorem kg.block {o:Nat}(h:kg w n o D)(a:W.heap[n]?=w.heap[n]?):kg W n o D:=
 ⟨(World.cell?_of_block (w:=w) (a:=⟨n,o,none⟩) a).trans h.x,(World.cell?_of_block (w:=w) (a:=⟨n,o+1,none⟩) a).trans h.b,(World.cell?_of_block (w:=w) (a:=⟨n,o+2,none⟩) a).trans h.k,(World.cell?_of_block (w:=w) (a:=⟨n,o+3,none⟩) a).trans h.p⟩
theorem kg.of_cells {o:Nat}(h:∀j u,j<4->D.cells[j]?=some u->w.cell? ⟨n,o+j,none⟩=some u):kg w n o D:=⟨h 0 _ aO rfl,h 1 _ aO rfl,h 2 _ aO rfl,h 3 _ aO rfl⟩
def ik (w:World)(P:Nat->Prop):Nat->Tc->Doc.Tr->Prop
 | 0,_,_=>False
 | _+1,c,.word p x=>c=⟨x,false,none,0,0,p⟩
 | d+1,c,.list p ks=>c.x=[]/\c.bb=true/\c.p=p/\fA (.slice c.ao c.m c.cap) ks.length (fun g i=>P g/\∀h:i<ks.length,∃k:Tc,kg w g (i*4) k/\ik w P d k ks[i])
theorem ik.kept {P a:Nat->Prop}(e:∀g,g<w.heap.size->P g->W.heap[g]?=w.heap[g]?/\a g):∀(d:Nat) (c:Tc) (t:Doc.Tr),ik w P d c t->ik W a d c t:=by
 intro d
 induction d with
 | zero=>intro c t h;exact h
 | succ d f=>
  intro c t h;cases t with
  | word p x=>exact h
  | list p v=>
   obtain⟨i,j,l,m⟩:=h;refine⟨i,j,l,fA.imp m fun g y hi n=>?_⟩;obtain⟨o,q⟩:=n;obtain⟨k,b,r⟩:=q hi;obtain⟨s,u⟩:=e g (ai b.x) o;exact⟨u,fun _=>⟨k,b.block s,f k _ r⟩⟩
theorem ik.below {P:Nat->Prop}(h:ik w P n D Y)(a:Below w.heap.size w W):ik W P n D Y:=ik.kept (fun g b c=>⟨a.block g b,c⟩) n D Y h
theorem ik.fr {own:Own}(h:ik w (fun g=>own g=0) m D Y)(a:Fr own o n w W)(d:n≠0):ik W (fun g=>o g=0) m D Y:=
 ik.kept (fun g b c=>⟨a.block g b (by rw[show own g=0 from c];omega),by rw[a.ext g b];exact c⟩) m D Y h
def wC (w':World)(P:Nat->Prop)(d:Nat)(R:Doc.qW)(e:Ending):Prop:=
 match R with
 | .ok t j=>∃c:Tc,e=.returned (.tuple #[.agg #[.string ⟨c.x.toArray⟩,.bool c.bb,.slice c.ao c.m c.cap,.int .i64 c.p],.int .i64 j,.int .i64 0])/\ik w' P d c t
 | .err er q=>∃c:Tc,e=.returned (.tuple #[.agg #[.string ⟨c.x.toArray⟩,.bool c.bb,.slice c.ao c.m c.cap,.int .i64 c.p],.int .i64 q,.int .i64 er])
structure kK (B:Nat)(wx:World)(c:Tc):Prop where
 t:kg wx (B+1) 0 c
 fr:∀o,wx.frozen? ⟨B+1,o,none⟩=false
 r0:wx.cell? ⟨B,0,none⟩=some (.string ⟨#[]⟩)
 r1:wx.cell? ⟨B,1,none⟩=some (.bool false)
 r2:wx.cell? ⟨B,2,none⟩=some (.slice none 0 0)
 r3:wx.cell? ⟨B,3,none⟩=some (.int .i64 0)
 rf:∀o,wx.frozen? ⟨B,o,none⟩=false
 size:B+1<wx.heap.size
def jk (B:Nat)(wx:World)(c:Tc):World:=(((wx.setCell ⟨B,0,none⟩ (.string ⟨c.x.toArray⟩)).setCell ⟨B,1,none⟩ (.bool c.bb)).setCell ⟨B,2,none⟩ (.slice c.ao c.m c.cap)).setCell ⟨B,3,none⟩ (.int .i64 c.p)
theorem setOther (w:World){a b:Addr}(u:Value){v:Value}(h:w.cell? a=some v)(c:a.block≠b.block\/a.off≠b.off):(w.setCell b u).cell? a=some v:=
 (ak (fun e=>by rw[e]at c;omega)).trans h
theorem kK.done (h:kK n w D):kg (jk n w D) n 0 D/\(∀b,b≠n->(jk n w D).heap[b]?=w.heap[b]?)/\(jk n w D).heap.size=w.heap.size/\(w.setCell ⟨n,0,none⟩ (.string ⟨D.x.toArray⟩)).cell? ⟨n,1,none⟩=some (.bool false)/\
 ((w.setCell ⟨n,0,none⟩ (.string ⟨D.x.toArray⟩)).setCell ⟨n,1,none⟩ (.bool D.bb)).cell? ⟨n,2,none⟩=some (.slice none 0 0)/\
 (((w.setCell ⟨n,0,none⟩ (.string ⟨D.x.toArray⟩)).setCell ⟨n,1,none⟩ (.bool D.bb)).setCell ⟨n,2,none⟩ (.slice D.ao D.m D.cap)).cell? ⟨n,3,none⟩=some (.int .i64 0):=by
 have c:=setOther w (a:=⟨n,1,none⟩) (b:=⟨n,0,none⟩) (.string ⟨D.x.toArray⟩) h.r1 (.inr aP);have d:=setOther _ (a:=⟨n,2,none⟩) (b:=⟨n,1,none⟩) (.bool D.bb) (setOther w (a:=⟨n,2,none⟩) (b:=⟨n,0,none⟩) (.string ⟨D.x.toArray⟩) h.r2 (.inr aP)) (.inr aP);have e:=setOther _ (a:=⟨n,3,none⟩) (b:=⟨n,2,none⟩) (.slice D.ao D.m D.cap) (setOther _ (a:=⟨n,3,none⟩) (b:=⟨n,1,none⟩) (.bool D.bb) (setOther w (a:=⟨n,3,none⟩) (b:=⟨n,0,none⟩) (.string ⟨D.x.toArray⟩) h.r3 (.inr aP)) (.inr aP)) (.inr aP);have f:=World.cell?_setCell_same w ⟨n,0,none⟩ (.string ⟨D.x.toArray⟩) h.r0;have g:=World.cell?_setCell_same _ ⟨n,1,none⟩ (.bool D.bb) c;have i:=World.cell?_setCell_same _ ⟨n,2,none⟩ (.slice D.ao D.m D.cap) d;have j:=World.cell?_setCell_same _ ⟨n,3,none⟩ (.int .i64 D.p) e;refine⟨⟨?_,?_,?_,j⟩,?_,?_,c,d,e⟩
 ·exact setOther _ _ (setOther _ _ (setOther _ _ f (.inr aP)) (.inr aP)) (.inr aP)
 ·exact setOther _ _ (setOther _ _ g (.inr aP)) (.inr aP)
 ·exact setOther _ _ i (.inr aP)
 ·intro b a;unfold jk;rw[aC a,aC a,aC a,aC a]
 ·simp[jk,World.setCell]
theorem kK.start (w:World)(p:Nat):kK w.heap.size ((w.alloc (.cells #[.string ⟨#[]⟩,.bool false,.slice none 0 0,.int .i64 0] 138)).alloc (.cells #[.string ⟨#[]⟩,.bool false,.slice none 0 0,.int .i64 p] 138)) ⟨[],false,none,0,0,p⟩:=
 ⟨⟨aP,aP,aP,aP⟩,ah6,aP,aP,aP,aP,ah6,aP⟩
theorem kK.aav (w:World)(p:Nat):kK w.heap.size ((w.alloc (.cells #[.string ⟨#[]⟩,.bool false,.slice none 0 0,.int .i64 0] 138)).alloc (.cells #[.string ⟨#[]⟩,.bool true,.slice none 0 0,.int .i64 p] 138)) ⟨[],true,none,0,0,p⟩:=
 ⟨⟨aP,aP,aP,aP⟩,ah6,aP,aP,aP,aP,ah6,aP⟩
theorem kK.after (h:kK n w D)(a:Below w.heap.size w W):kK n W D:=by
 have b:=h.size
 exact⟨h.t.block (a.block _ b),fun o=>(a.frozen (p:=⟨n+1,o,none⟩) b).trans (h.fr o),(a.cell (p:=⟨n,0,none⟩) dh).trans h.r0,(a.cell (p:=⟨n,1,none⟩) dh).trans h.r1,
  (a.cell (p:=⟨n,2,none⟩) dh).trans h.r2,(a.cell (p:=⟨n,3,none⟩) dh).trans h.r3,fun o=>(a.frozen (p:=⟨n,o,none⟩) dh).trans (h.rf o),Nat.lt_of_lt_of_le b a.size⟩
theorem kK.Zy (h:kK n w D)(x:List UInt8):kK n (w.setCell ⟨n+1,0,none⟩ (.string ⟨x.toArray⟩)) { D with x:=x }:=by
 refine⟨⟨World.cell?_setCell_same _ _ _ h.t.x,setOther _ _ h.t.b (.inr aP),setOther _ _ h.t.k (.inr aP),setOther _ _ h.t.p (.inr aP)⟩,fun o=>by rw[World.frozen?_setCell];exact h.fr o,
  setOther _ _ h.r0 (.inl aP),setOther _ _ h.r1 (.inl aP),setOther _ _ h.r2 (.inl aP),setOther _ _ h.r3 (.inl aP),fun o=>by rw[World.frozen?_setCell];exact h.rf o,ajI⟩
theorem kK.agx (h:kK n w D)(b:Bool):kK n (w.setCell ⟨n+1,1,none⟩ (.bool b)) { D with bb:=b }:=by
 refine⟨⟨setOther _ _ h.t.x (.inr aP),World.cell?_setCell_same _ _ _ h.t.b,setOther _ _ h.t.k (.inr aP),setOther _ _ h.t.p (.inr aP)⟩,fun o=>by rw[World.frozen?_setCell];exact h.fr o,
  setOther _ _ h.r0 (.inl aP),setOther _ _ h.r1 (.inl aP),setOther _ _ h.r2 (.inl aP),setOther _ _ h.r3 (.inl aP),fun o=>by rw[World.frozen?_setCell];exact h.rf o,ajI⟩
theorem kK.fin (h:kK n W D)(a:Below w.heap.size w W)(c:w.heap.size<=n):kg (jk n W D) n 0 D/\Below w.heap.size w (jk n W D):=
 ⟨h.done.1,a.trans ⟨rfl,rfl,rfl,by rw[h.done.2.2.1];exact ae,fun b d=>h.done.2.1 b aO⟩⟩
theorem take_one (h:n<x.length):List.drop n (List.take (n+1) x)=[x[n]]:=by
 rw[List.take_add_one,aD h,List.drop_append_of_le_length aQ];exact aP
theorem p8 (l:List UInt8)(n i:Nat)(P:Nat->Prop)(w:World)(O:l.length<=1000000)(t:Doc.je l i)(o:l[i]?≠some 40) :
 Calls Tryz.prog 135 #[.string ⟨l.toArray⟩,.int .i64 i,.int .i64 n] w fun e u=>wC u P (n+1) (Doc.tree l n i) e/\Below w.heap.size w u:=by
 have Q:=fJ;rw[Doc.p8 o];have D:=t.lt
 have y:((l[i].toNat:Int)==40)=false:=by
  have:=mX (a:=l[i]) (n:=40) aO;rw[show(40:Int)=((40:Nat):Int) from rfl,this,beq_eq_false_iff_ne];intro e;apply o;rw[aD D,e];rfl
 have R:((l[i].toNat:Int) !=40)=true:=by rw[bne,y];rfl
 clear o t y;have E:=di (kK.start w i);have F:Hid (Below w.heap.size w ((w.alloc (.cells #[.string ⟨#[]⟩,.bool false,.slice none 0 0,.int .i64 0] 138)).alloc (.cells #[.string ⟨#[]⟩,.bool false,.slice none 0 0,.int .i64 i] 138))):=ag.alloc aP _;go_enter Tryz.func135,Tryz.ntmps135;go_wp2_with fail
 go_loopw [1] (fun v wr=>∃(k:Nat) (x:List UInt8),v=.int .i64 k/\k<=l.length/\x++Doc.fu l k=Doc.fu l i/\k=i+x.length/\kK w.heap.size wr ⟨x,false,none,0,0,i⟩/\Below w.heap.size w wr) (fun v _=>l.length-(intOf v).toNat)
 case atStart=>exact⟨i,[],rfl,aO,rfl,rfl,E.o,F.o⟩
 case round=>
  obtain⟨k,x,rfl,S,a,z,b,A⟩:=hrel;have p:=di a;have q:=di z;have B:=di b;have T:x.length<=l.length:=aO;have G:=b.t.x;have H:=b.t.b;have I:=b.t.k;have J:=b.t.p;have U:=b.fr;have V:=b.r0;have W:=b.rf;obtain⟨_,_,_,K,L,M⟩:=b.done;simp only at G H I J K L M;clear a z b;have C:=di (B.o.fin A ae)
  by_cases j:k<l.length
  ·have m:=di (GR l[k]);cases hnm:Doc.named l[k]
   ·rw[hnm]at m;have r:=di (Doc.xI j hnm);go_wp2_with fail;refine(m.o wr).mono ?_;rintro e N ⟨rfl,rfl⟩;go_wp2_with fail;obtain⟨c,s⟩:=C.o;have a:=p.o;rw[r.o,List.append_nil]at a;exact aln
   ·rw[hnm]at m;have r:=di (Doc.xJ j hnm);go_wp2_with fail;refine(m.o wr).mono ?_;rintro e N ⟨rfl,rfl⟩;go_wp2_with fail;go_region;go_wp2_with fail;go_roundw
    case rel=>
     refine⟨k+1,x++[l[k]],bJ,aO,?_,?_,?_,?_⟩
     ·rw[<-p.o,r.o];exact aP
     ·have:=q.o;exact aQ
     ·have:=B.o.Zy (x++[l[k]]);rw[<-take_one j]at this;rw[<-take_one j];exact this.after (af.drew)
     ·exact(A.setCell aP _).drew
    case measure=>exact akL
  ·go_wp2_with fail;obtain⟨c,s⟩:=C.o;have a:=p.o;rw[Doc.Eb aO,List.append_nil]at a;exact aln
theorem Tryz.infoTree:(Tryz.prog.info? 138).map (fun i=>(i.zero,i.size,i.bytes))=some (some (.agg #[.string ⟨#[]⟩,.bool false,.slice none 0 0,.int .i64 0]),4,56):=bL
theorem wV (l:List UInt8)(i:Nat)(P:Nat->Prop)(w:World)(d:i<l.length)(a:l[i]?=some 40) :
 Calls Tryz.prog 135 #[.string ⟨l.toArray⟩,.int .i64 i,.int .i64 0] w fun e b=>wC b P 1 (Doc.tree l 0 i) e/\Below w.heap.size w b:=by
 have f:=fJ;rw[Doc.wV a];have c:l[i]=40:=by rw[aD d]at a;simpa using a
 have g:((l[i].toNat:Int) !=40)=false:=by rw[c];rfl
 clear a c;have h:=di (kK.start w i);have j:Hid (Below w.heap.size w ((w.alloc (.cells #[.string ⟨#[]⟩,.bool false,.slice none 0 0,.int .i64 0] 138)).alloc (.cells #[.string ⟨#[]⟩,.bool false,.slice none 0 0,.int .i64 i] 138))):=ag.alloc aP _;go_enter Tryz.func135,Tryz.ntmps135;go_wp2_with fail;exact bodyPost_ret (v:=.tuple #[.agg #[.string ⟨#[]⟩,.bool false,.slice none 0 0,.int .i64 i],.int .i64 i,.int .i64 3]) (by simp[results,Tryz.results135,go_sem]) rfl ⟨⟨⟨[],false,none,0,0,i⟩,rfl⟩,ag.alloc aP _⟩
structure qY (B:Nat)(wx:World)(d:Nat)(i:Nat)(ao:Option Addr)(m cap:Nat)(acc:List Doc.Tr):Prop where
 box:kK B wx ⟨[],true,ao,m,cap,i⟩
 row:∃xs:List Tc,wx.ownsRow (B+1+1) 138 4 (.slice ao m cap) m (xs.map Tc.cells).flatten/\fO (ik wx (fun g=>B+1+1<=g/\(Value.slice ao m cap).ownBlock≠some g) d) xs acc/\m=acc.length
theorem qY.below (h:qY n w m k a i j A)(b:Below w.heap.size w W):qY n W m k a i j A:=by
 obtain⟨c,d,e,f⟩:=h.row;exact⟨h.box.after b,c,ownsRow_below d b,e.imp (fun _ _ h=>h.below b),f⟩
theorem aau (w:World)(c:Tc)(t:TypeId)(n:Nat)(a:n=w.heap.size):∀j u,c.cells[j]?=some u->(w.alloc (.cells #[.string ⟨c.x.toArray⟩,.bool c.bb,.slice c.ao c.m c.cap,.int .i64 c.p] t)).cell? ((⟨n,0,none⟩:Addr).add j)=some u:=by
 subst a;intro j u h
 match j,h with
 | 0,h=>simp[Tc.cells,dO,Addr.add]at h ⊢;exact h
 | 1,h=>simp[Tc.cells,Addr.add]at h ⊢;exact h
 | 2,h=>simp[Tc.cells,Addr.add]at h ⊢;exact h
 | 3,h=>simp[Tc.cells,Addr.add]at h ⊢;exact h
 | n+4,h=>simp[Tc.cells]at h
theorem qY.done (l:qY n w m k a i j A)(f:∀c,c≠n->W.heap[c]?=w.heap[c]?):ik W (fun g=>n<=g) (m+1) ⟨[],true,a,i,j,k⟩ (.list k A):=by
 obtain⟨d,o,h,p⟩:=l.row;refine⟨rfl,rfl,rfl,?_⟩;have C:=h.len;have q:=vw (xs:=d.map Tc.cells) o ake (by intro D r;obtain⟨E,_,rfl⟩:=List.mem_map.1 r;rfl);refine fA.imp' q p fun g b F s=>?_;obtain⟨t,e⟩:=s;have e:=e ake;have u:kg w g (b*4) (d[b]' aO):=kg.of_cells fun v x y z=>e v y x ajQ;exact⟨aO,fun B=>⟨d[b],u.block (f g aO),ik.kept (fun g _ t=>⟨f g aO,aO⟩) m _ _ (h.get b aO B)⟩⟩
theorem qY.snoc {w1:World}{cap:Nat}{c:Tc}(h:qY n w m k a i cap A)(B:ik w (fun g=>j<=g) m c Y)(C:∀b,(Value.slice a i cap).ownBlock=some b->b<j)(H:n+1+1<=j){g cap':Nat}(X:Obj){r:List Tc}
 (s:w.ownsRow (n+1+1) 138 4 (.slice a i cap) i (r.map Tc.cells).flatten) (t:fO (ik w (fun g=>n+1+1<=g/\(Value.slice a i cap).ownBlock≠some g) m) r A) (I:i=A.length)
 (D:w1.ownsRow (n+1+1) 138 4 (.slice (some ⟨g,0,none⟩) (i+1) cap') (i+1) ((r.map Tc.cells).flatten++c.cells)) (E:(w.alloc X).grownBy w1 (Value.slice a i cap).ownBlock) (v:(Value.slice a i cap).ownBlock=some g\/(w.alloc X).heap.size<=g) :
 qY n (w1.setCell ⟨n+1,2,none⟩ (.slice (some ⟨g,0,none⟩) (i+1) cap')) m k (some ⟨g,0,none⟩) (i+1) cap' (A++[Y])/\Below n w (w1.setCell ⟨n+1,2,none⟩ (.slice (some ⟨g,0,none⟩) (i+1) cap')):=by
 have l:Below w.heap.size w (w.alloc X):=af.alloc ae X;have p:=h.box.after l;have J:=h.box.size;have d:=fE (eb:=n+1) (f:=2) aO (s.alloc X) aQ p.t.k D E v;have x:∀b,(Value.slice a i cap).ownBlock=some b->n+1+1<=b:=fun b f=>(s.lt b f).1
 have u:∀b,b<w.heap.size->b≠n+1->(Value.slice a i cap).ownBlock≠some b->(w1.setCell ⟨n+1,2,none⟩ (.slice (some ⟨g,0,none⟩) (i+1) cap')).heap[b]?=w.heap[b]?:=
  fun b f s t=>(d.block b aQ s (fun e=>t e.symm)).trans (l.block b f)
 have y:∀b,b<w.heap.size->n+1+1<=b/\(Value.slice a i cap).ownBlock≠some b->(w1.setCell ⟨n+1,2,none⟩ (.slice (some ⟨g,0,none⟩) (i+1) cap')).heap[b]?=w.heap[b]?/\(n+1+1<=b/\(Value.slice (some ⟨g,0,none⟩) (i+1) cap').ownBlock≠some b):=by
  intro b f ⟨F,z⟩;refine⟨u b f aO z,F,?_⟩;intro e;have e:g=b:=by simpa[Value.ownBlock] using e
  subst e;rcases v with h|h
  ·exact z h
  ·simp at h;exact aO
 have G:w.heap.size<=(w1.setCell ⟨n+1,2,none⟩ (.slice (some ⟨g,0,none⟩) (i+1) cap')).heap.size:=Nat.le_trans l.size d.size;have q:(w1.setCell ⟨n+1,2,none⟩ (.slice (some ⟨g,0,none⟩) (i+1) cap')).heap[n]?=w.heap[n]?:=u n aO aO (fun e=>by have:=x n e;omega);refine⟨⟨⟨⟨?_,?_,d.cell,?_⟩,?_,?_,?_,?_,?_,?_,aO⟩,r++[c],?_,?_,aQ⟩,?_⟩
 ·exact(d.cells 0 aO).trans p.t.x
 ·exact(d.cells 1 aO).trans p.t.b
 ·exact(d.cells 3 aO).trans p.t.p
 ·intro o;exact(d.frozen o).trans (p.fr o)
 ·exact(World.cell?_of_block (w:=w) (a:=⟨n,0,none⟩) q).trans h.box.r0
 ·exact(World.cell?_of_block (w:=w) (a:=⟨n,1,none⟩) q).trans h.box.r1
 ·exact(World.cell?_of_block (w:=w) (a:=⟨n,2,none⟩) q).trans h.box.r2
 ·exact(World.cell?_of_block (w:=w) (a:=⟨n,3,none⟩) q).trans h.box.r3
 ·intro o;exact(World.frozen?_of_block (w:=w) (a:=⟨n,o,none⟩) q).trans (h.box.rf o)
 ·have:=d.own;simpa using this
 ·refine(t.imp (fun c Y h=>ik.kept y m c Y h)).app (.cons ?_ .nil);exact ik.kept (fun b f K=>y b f ⟨aO,fun e=>by have:=C b e;omega⟩) m _ _ B
 ·exact⟨d.below.os.trans l.os,d.below.tape.trans l.tape,d.below.output.trans l.output,G,fun b f=>u b aO aO (fun e=>by have:=x b e;omega)⟩
end Go.Proofs.YtbichedkajfmiaaGreatDoor
