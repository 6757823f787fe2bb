import Derived.Test.YtjiagbaaikifpaaGreatDoorGLW2
import Derived.Test.YtjiagbaaikifpaaGreatDoorGRef26
set_option maxRecDepth 100000
set_option maxHeartbeats 16000000
namespace Go.Proofs.YtjiagbaaikifpaaGreatDoor
open Go.RowKit Go.Proofs.Tryz
variable {A:List Doc.Tr}{C c:List fU}{N i j k m n:Nat}{O Q o:Own}{V v:Value}{W u w:World}{a d:eu}{b:List Value}{e:TypeId}{h:Ending}{x:dN}
def fJ (side k i:Nat):Nat:=13+2*side+4*(k*262144+i)
theorem EU (a:n<2)(b:i<2)(hi:k<262144)(c:N<262144)(h:fJ n m k=fJ i j N):n=i/\m=j/\k=N:=by
 unfold fJ at h;refine⟨?_,?_,?_⟩<;>omega
theorem jJ (s k i:Nat):fJ s k i % 2=1/\13<=fJ s k i:=by unfold fJ;omega
structure kK where
 eQ:List (Nat × Nat × Doc.dO)
 words:List (dN)
 reg:List fU
 ls:List (List fU)
 at_:Int
 n:Int
 ex:Int
def EJ (c:List Value)(s:Nat × Nat × Doc.dO):Prop:=c=[dK s.1 0,dK s.2.1 0]
def LP (c:List Value)(y:dN):Prop:=c=[eO y]
def Dz (w:World)(own:Own)(c:List Value)(e:fU):Prop:=sI w own 0 c e
theorem Jq:II Dz:=λw g own i b j k h=>sI.keep h (λc d a=>by
 obtain⟨e,f⟩:=b c d a;exact⟨e,by rw[f,a]⟩)
def Kept (own own':Own)(w w':World)(P:Nat->Prop):Prop:=∀b,b<w.heap.size->P (own b)->w'.heap[b]?=w.heap[b]?/\own' b=own b
theorem jU.keep {own:Own}{cd:Nat->Nat}(h:jU w own cd v c)(d:Kept own O w W (λo=>∃i,i<=c.length/\o=cd i)):jU W O cd v c:=by
 obtain⟨l,e,m,n,p⟩:=h.row;refine⟨⟨l,?_,m,n,λi x q r f=>(p i x q r f).keep (λb a s=>d b a ⟨i+1,aP ((aG f).1),s⟩)⟩,λb a=>?_⟩
 ·refine⟨e.1,?_⟩;rcases e.2 with t|⟨g,u,y,j,z,k,A⟩
  ·exact .inl t
  ·have B:=(Array.getElem?_eq_some_iff.1 k).1;exact .inr ⟨g,u,y,j,z,by rw[(d g B ⟨0,aR,h.head g aoQ⟩).1];exact k,A⟩
 ·rw[(d b (e.lt b a).2 ⟨0,aR,h.head b a⟩).2];exact h.head b a
structure iJ (w:World)(own:Own)(side:Nat)(v:Value)(Ls:List (List fU)):Prop where
 row:∃vs:List Value,w.ownsRow 0 38 1 v Ls.length vs/\vs.length=Ls.length/\∀(k:Nat) (u:Value) (L:List fU),vs[k]?=some u->Ls[k]?=some L->jU w own (fJ side k) u L
 head:∀b,v.ownBlock=some b->own b=9+2*side
theorem iJ.keep {own:Own}{e:List (List fU)}(h:iJ w own n v e)(c:Kept own O w W (λo=>o=9+2*n\/∃k i,o=fJ n k i)):iJ W O n v e:=by
 obtain⟨l,d,m,p⟩:=h.row;refine⟨⟨l,?_,m,λk u L q r=>(p k u L q r).keep (λb a ⟨i,_,s⟩=>c b a (.inr ⟨k,i,s⟩))⟩,λb a=>?_⟩
 ·refine⟨d.1,?_⟩;rcases d.2 with t|⟨g,x,y,f,z,j,A⟩
  ·exact .inl t
  ·have B:=(Array.getElem?_eq_some_iff.1 j).1;exact .inr ⟨g,x,y,f,z,by rw[(c g B (.inl (h.head g aoi))).1];exact j,A⟩
 ·rw[(c b (d.lt b a).2 (.inl (h.head b a))).2];exact h.head b a
structure gp (w:World)(own:Own)(wb:Nat)(M:kK):Prop where
 mine:own wb=1
 obj:∃cur,w.heap[wb]?=some (.cells cur 48 (0,0))
 fr:∀o,w.frozen? (dA wb o)=false
 s:∃v,w.cell? (dA wb 0)=some v/\eU w own 3 75 2 EJ v M.eQ
 words:∃v,w.cell? (dA wb 1)=some v/\eU w own 5 9 1 LP v M.words
 reg:∃v,w.cell? (dA wb 2)=some v/\eU w own 7 142 4 (Dz w own) v M.reg
 ls:∃v,w.cell? (dA wb 3)=some v/\iJ w own 0 v M.ls
 lw:∃v,w.cell? (dA wb 4)=some v/\iJ w own 1 v M.ls
 at_:w.cell? (dA wb 5)=some (dw M.at_)
 n:w.cell? (dA wb 6)=some (dw M.n)
 ex:w.cell? (dA wb 7)=some (dw M.ex)
 eQ:∀(i x m:Nat) (S:Doc.dO),M.eQ[i]?=some (x,m,S)->dI w own (4*i+2) x S/\ed w own (4*i+4) m S
 jq:gZ w
 g0:∀b,b<2->own b=0
variable {L:kK}
theorem gp.keep {own:Own}(h:gp w own n L)(c:∀b,b<w.heap.size->W.heap[b]?=w.heap[b]?/\O b=own b)(k:gZ W):gp W O n L:=by
 obtain⟨l,f⟩:=h.obj;have e:=(Array.getElem?_eq_some_iff.1 f).1;have d:∀{o:Nat} {v:Value},w.cell? (dA n o)=some v->W.cell? (dA n o)=some v:=λm=>(World.cell?_of_block (w:=w) (a:=dA n _) (c n e).1).trans m;obtain⟨p,q,g⟩:=h.s;obtain⟨r,s,i⟩:=h.words;obtain⟨t,u,j⟩:=h.reg;obtain⟨x,y,z⟩:=h.ls;obtain⟨A,B,C⟩:=h.lw;have M:=h.jq.size;have D:∀b,b<w.heap.size->own b=0->W.heap[b]?=w.heap[b]?/\O b=0:=λb a E=>⟨(c b a).1,by rw[(c b a).2];exact E⟩;refine⟨by rw[(c n e).2];exact h.mine,⟨l,by rw[(c n e).1];exact f⟩,λo=>(World.frozen?_of_block (w:=w) (a:=dA n o) (c n e).1).trans (h.fr o),⟨p,d q,g.kept (λb a=>c b (g.lt b a))⟩,⟨r,d s,i.kept (λb a=>c b (i.lt b a))⟩,⟨t,d u,j.step Jq D (λb a=>c b (j.lt b a))⟩,⟨x,d y,z.keep (λb a _=>c b a)⟩,⟨A,d B,C.keep (λb a _=>c b a)⟩,d h.at_,d h.n,d h.ex,λF G H S I=>?_,k,λb a=>by rw[(c b aR).2];exact h.g0 b a⟩;obtain⟨J,K⟩:=h.eQ F G H S I;exact⟨J.step (λb a _=>c b a),K.step (λb a _=>c b a)⟩
structure kv where
 kind:Int
 a:Int
 b:Int
 c:Int
 s:dN
 t:dN
def kv.val (o:kv):Value:=.agg #[dw o.kind,dw o.a,dw o.b,dw o.c,dD o.s,dD o.t]
structure vN (o:kv):Prop where
 a:-9223372036854775808<=o.a/\o.a<=9223372036854775807
 b:-9223372036854775808<=o.b/\o.b<=9223372036854775807
 c:-9223372036854775808<=o.c/\o.c<=9223372036854775807
 s:o.s.length<=70000
 t:o.t.length<=70000
theorem sI.at {own:Own}{e:fU}{g o:Nat}(p:sI w own n b e)(a:∀j u,j<4->b[j]?=some u->w.cell? (dA g (o+j))=some u):C8 w g o e:=by
 obtain⟨d,f,rfl,h,_⟩:=p
 have q:e.args.map eO=(e.args.map (λb=>[eO b])).flatten:=by
  generalize e.args=k
  induction k with
  | nil=>rfl
  | cons b k r=>simp[r]
 have l:jK w (.slice d e.args.length f) e.args:=by
  rw[q]at h;refine gu.imp' (Row.fq h aW aW).sl aW λg i hi s v=>?_;have:=s di 0 aR (eO e.args[i]) aW;rw[show i*1+0=i by omega]at this;exact this
 obtain⟨x,y,c,t,m,_⟩:=id l;injection c with _ _ c
 subst c;unfold maxLen at m;exact⟨a 0 _ aR rfl,a 1 _ aR rfl,⟨d,f,a 2 _ aR rfl,t,m,l⟩,a 3 _ aR rfl⟩
theorem jU.Eb {own:Own}{cd:Nat->Nat}(m:jU w own cd v c):∃a d,v=.slice a c.length d/\gI w a d c/\∀i,i<c.length->∃g,a=some (dA g 0):=by
 obtain⟨A,n,e,o,p⟩:=m.row;obtain⟨q,r,f,h,j,_,k⟩:=Row.fq n e.symm o;rw[e]at f h;unfold maxLen at j;refine⟨q,r,f,⟨h,j,λi s l=>?_⟩,λi hi=>?_⟩
 ·have hi:=(aG l).1;obtain⟨g,b,t⟩:=k i aR;refine⟨g,0,b,?_⟩;rw[Nat.zero_add];exact(p i _ s (aF aR) l).at (λu x y z=>t u y x z)
 ·obtain⟨g,b,_⟩:=k i aR;exact⟨g,b⟩
theorem iJ.get {own:Own}{a:List (List fU)}(j:iJ w own n v a):∃e d,v=.slice e a.length d/\a.length<=d/\d<=2 ^ 63-1/\∀k L,a[k]?=some L->∃g b c,e=some (dA g 0)/\w.cell? (dA g k)=some (.slice b L.length c)/\gI w b c L:=by
 obtain⟨f,l,B,m⟩:=j.row;obtain⟨o,p,q,r,s,t⟩:=eZ l;refine⟨o,p,q,r,s,λk L h=>?_⟩;have u:=(aG h).1;obtain⟨g,x,y,_⟩:=t k u;have i:f[k]?=some (f[k]' aR):=aF aR;obtain⟨b,c,z,A,_⟩:=(m k _ L i h).Eb;exact⟨g,b,c,x,by rw[y,i,z],A⟩
theorem WL (e:Nat)(own:Own)(M:kK)(w:World)(h:gp w own e M)(O:M.ls.length<=100000) :
 dH 23 #[dK e 0] w λf b=>f=dF (fu)/\gW w b:=by
 obtain⟨v3,s,t⟩:=h.ls;obtain⟨v4,u,v⟩:=h.lw;obtain⟨bg,P,rfl,Q,p2,x⟩:=t.get;obtain⟨bn,R,rfl,S,q2,y⟩:=v.get;have T:=dn x;have U:=dn y;obtain⟨N,g⟩:=aK M.ls.length;have V:=dn g;rw[g]at s u Q S O;clear h t v x y g;go_enter func23,ntmps23;go_wp2_with fail
 go_loopw [3] (fun i wr=>∃k:Nat,i=dw k/\k<=N/\gW w wr) (fun i _=>N-(intOf i).toNat)
 ·exact⟨0,rfl,aR,.refl _⟩
 case round=>
  obtain⟨k,rfl,hk,a⟩:=hrel;have d:=dn a;have z:=(a.cell _).trans s;have A:=(a.cell _).trans u
  by_cases X:k<N
  ·obtain⟨L,j⟩:∃L,M.ls[k]?=some L:=⟨_,aF (by rw[V.o];exact X)⟩;obtain⟨B,l,m,rfl,C,D⟩:=T.o k L j;obtain⟨E,o,p,rfl,F,G⟩:=U.o k L j;have q:=(a.cell _).trans C;have r:=(a.cell _).trans F;have H:Hid (∀W,gW w W->dH 52 #[.slice l L.length m,.slice o L.length p] W λf b=>f=dF (fu)/\gW W b):=λW I=>Dc l o L.length m p L W (D.drawn I) (G.drawn I) rfl;obtain⟨J,K⟩:=aK L.length;rw[K]at q r H;clear j C D F G a K;go_upto_region 4 with fail
   go_cut [4] (fun Y Z=>Y=fu/\gW w Z)
   case first=>
    go_region_held3 (fun b=>b.dQ e 3=some (dJ B N P)/\b.dQ e 4=some (dJ E N R)/\b.dQ B k=some (.slice l J m)/\b.dQ E k=some (.slice o J p)) (go_keep) (first|(go_at_call 52;refine(H.o _ (by first|exact d.o|exact d.o.more 1)).dX fun w3 c=>?_;have s0:=(c.cell _).trans z;have s1:=(c.cell _).trans A;have s2:=(c.cell _).trans q;have s3:=(c.cell _).trans r));go_wp2;go_meet
    ·exact⟨rfl,by first|exact d.o.trans c|exact(d.o.more 1).trans c⟩
   case rest=>
    obtain⟨rfl,a⟩:=hcut;have HD2:=dn a;clear a z A q r;go_wp2;go_roundw
    ·exact⟨k+1,bL,aR,HD2.o⟩
    ·exact aph
  ·clear a;go_wp2;go_ret;exact⟨rfl,d.o⟩
def LX (e:Ending):Prop:=∃y:dN,e=dF (dD y)/\y.length<=90000
theorem Nj (j:Nat)(own:Own)(M:kK)(o:kv)(w:World)(u:gp w own j M)(L:vN o)(v:∀y∈M.words,y.length<=90000)(x:M.words.length<=1000000) :
 dH 37 #[dK j 0,o.val] w λO c=>LX O/\dB w c:=by
 obtain⟨v1,z,l⟩:=u.words;obtain⟨P,Q,rfl,R,p2⟩:=l.form
 have S:Hid (∀i y,M.words[i]?=some y->∃g,P=some (dA g 0)/\g<w.heap.size/\w.dQ g i=some (dD y)):=λi y d=>by
  obtain⟨hi,T⟩:=aG d;obtain⟨ao,cap,m,_,_,U⟩:=l.sl;injection m with m _ _
  subst m;obtain⟨g,n,_,V⟩:=U i hi;obtain⟨X,_,A,Y⟩:=V hi;have Z:X=[eO M.words[i]]:=A;subst Z;have p:=Y 0 _ aR rfl;rw[show i*1+0=i by omega,T]at p;exact⟨g,n,aj p,p⟩
 have uQ:=dn v;obtain⟨kd,oa,ob,a,os,f⟩:=o;obtain⟨_,_,⟨B,C⟩,_,D⟩:=L;simp only at B C D;obtain⟨e,q⟩:∃e,w.alloc (.cells #[dw kd,dw oa,dw ob,dw a,dD os,dD f] 33)=e:=⟨_,rfl⟩;have r:dB w e:=aoF;have b:=dn r;have Am:=aj z;have e1:=r.dL z Am;have e3:e.dQ w.heap.size 3=some (dw a):=amB;have e5:e.dQ w.heap.size 5=some (dD f):=amB;have E:Hid (LX (dF (dD f))):=⟨f,rfl,aR⟩;have HPK:=dn (fun(s:Nat) W (h1:0<s) (A:s<=1000000)=>kJ a s W B C h1 aR);obtain⟨N,t⟩:=aK M.words.length;have HN:=dn t;rw[t]at e1 R x;clear u l v r t D;simp only[kv.val]
 by_cases h:a=0
 ·have tc:(a !=0)=false:=aoK;clear h;go_enter func37,ntmps37;go_wp2;go_ret;exact⟨E.o,b.o⟩
 ·have tc:(a !=0)=true:=aoX;clear h
  by_cases F:N=0
  ·subst F;go_enter func37,ntmps37;go_wp2;go_ret;exact⟨E.o,b.o⟩
  ·have G:0<N:=aR;have H:=oF a G;obtain⟨y,d⟩:∃y,M.words[pk a N]?=some y:=⟨_,aF (by rw[HN.o];exact H)⟩;obtain⟨g,rfl,n,I⟩:=S.o _ y d;have HY:Hid (LX (dF (dD y))):=⟨y,rfl,uQ.o y (List.mem_of_getElem? d)⟩;have J:=dn (λW=>HPK.o N W G x);have d2:=b.o.dL I n;obtain⟨k,K⟩:=aK (pk a N);rw[K]at J d2 H;have hki:(k:Int)<(N:Int):=aR;clear d I F K;go_enter func37,ntmps37;go_wp2_with fail;go_region_held3 (fun c=>c.dQ j 1=some (dJ g N Q)/\c.dQ w.heap.size 3=some (dw a)/\c.dQ g k=some (dD y)) (go_keep) (first|(go_at_call 38;refine(J.o _).dX fun w3 hw3=>?_;subst hw3));go_wp2;go_ret;exact⟨HY.o,by first|exact b.o.drew|exact b.o|exact below_drewN b.o _⟩
structure acx (w:World)(g:Nat)(e p v s:Int):Prop where
 c0:w.cell? (dA g 0)=some (dw e)
 c1:w.cell? (dA g 1)=some (dw p)
 c2:w.cell? (dA g 2)=some (dw v)
 c3:w.cell? (dA g 3)=some (dE)
 c4:w.cell? (dA g 4)=some (eB)
 c5:w.cell? (dA g 5)=some (dw s)
theorem Jo (g c:Nat)(e p v s:Int)(w:World)(h:acx w g e p v s)(i:acx w c e p v s) :
 dH 97 #[dK g 0,dK c 0] w λx b=>x=dF (fu)/\gW w b:=by
 obtain⟨j,k,l,d,m,n⟩:=h;obtain⟨o,q,r,f,t,u⟩:=i;have y:Hid (∀W,dH 52 #[dE,dE] W λe b=>e=dF (fu)/\gW W b):=λW=>Dc none none 0 0 0 [] W (gI.nil W) (gI.nil W) rfl;go_enter func97,ntmps97;go_upto_region 1 with fail
 go_cut [5] (fun z A=>z=fu/\gW w A)
 case first=>
  go_region_held3 (fun b=>b.dQ g 3=some (dE)/\b.dQ c 3=some (dE)) (go_keep) (first|(go_at_call 52;refine(y.o _).dX fun C a=>?_;have D:=(a.cell _).trans d;have E:=(a.cell _).trans f));go_wp2;go_meet
  ·exact⟨rfl,aoW⟩
 case rest=>
  obtain⟨rfl,a⟩:=hcut;have B:=dn a;rw[<-a.cell]at j k l m n o q r t u;clear a d f;go_wp2_with (go_quiet (fail));go_ret;exact⟨rfl,B.o.more _⟩
theorem gp.parts {w2:World}{own own':Own}(h:gp w own n L)(R:Nat->Prop)(e:∀b,b<w.heap.size->¬R (own b)->w2.heap[b]?=w.heap[b]?/\own' b=own b) :
 (¬R 3->∀v,w.cell? (dA n 0)=some v->eU w2 own' 3 75 2 EJ v L.eQ)/\
 (¬R 5->∀v,w.cell? (dA n 1)=some v->eU w2 own' 5 9 1 LP v L.words)/\
 (¬R 7->¬R 0->∀v,w.cell? (dA n 2)=some v->eU w2 own' 7 142 4 (Dz w2 own') v L.reg)/\
 (¬R 9->(∀k i,¬R (fJ 0 k i))->∀v,w.cell? (dA n 3)=some v->iJ w2 own' 0 v L.ls)/\
 (¬R 11->(∀k i,¬R (fJ 1 k i))->∀v,w.cell? (dA n 4)=some v->iJ w2 own' 1 v L.ls)/\
 (¬R 0->∀(i x m:Nat) (S:Doc.dO),¬R (4*i+2)->¬R (4*i+4)->L.eQ[i]?=some (x,m,S)->dI w2 own' (4*i+2) x S/\ed w2 own' (4*i+4) m S):=by
 obtain⟨D,q,g⟩:=h.s;obtain⟨E,r,j⟩:=h.words;obtain⟨F,s,l⟩:=h.reg;obtain⟨G,t,u⟩:=h.ls;obtain⟨H,y,z⟩:=h.lw;refine⟨λf v c=>?_,λf v c=>?_,λf o v c=>?_,λf p v c=>?_,λf p v c=>?_,λo i x m S I J A=>?_⟩
 ·rw[q]at c;injection c with c;subst c;exact g.kept (λb d=>e b (g.lt b d) (by rw[(g.type b d).1];exact f))
 ·rw[r]at c;injection c with c;subst c;exact j.kept (λb d=>e b (j.lt b d) (by rw[(j.type b d).1];exact f))
 ·rw[s]at c;injection c with c;subst c;exact l.step Jq (λb d a=>⟨(e b d (by rw[a];exact o)).1,by rw[(e b d (by rw[a];exact o)).2];exact a⟩) (λb d=>e b (l.lt b d) (by rw[(l.type b d).1];exact f))
 ·rw[t]at c;injection c with c;subst c;exact u.keep (λb d a=>e b d aoH)
 ·rw[y]at c;injection c with c;subst c;exact z.keep (λb d a=>e b d aoH)
 ·obtain⟨B,C⟩:=h.eQ i x m S A;exact⟨B.step (λb d a=>e b d (by rcases a with a|a<;>rw[a]<;>assumption)),C.step (λb d a=>e b d (by rcases a with a|a<;>rw[a]<;>assumption))⟩
theorem gp.lt {own:Own}(h:gp w own n L):n<w.heap.size:=by
 exact aqw
def Same (w w':World):Prop:=w'.os=w.os/\w'.tape=w.tape/\w'.output=w.output
theorem Same.trans {a:World}(h:Same a w)(g:Same w W):Same a W:=⟨g.1.trans h.1,g.2.1.trans h.2.1,g.2.2.trans h.2.2⟩
theorem Same.below (h:Below n w W):Same w W:=⟨h.os,h.tape,h.output⟩
structure xn (w w2:World)(own own':Own)(wb f r:Nat)(v':Value):Prop where
 keep:∀b,b<w.heap.size->¬(own b=1\/own b=r)->w2.heap[b]?=w.heap[b]?/\own' b=own b
 ext:∀b,b<w.heap.size->own' b=own b
 cell:w2.cell? (dA wb f)=some v'
 cells:∀f',f≠f'->w2.cell? (dA wb f')=w.cell? (dA wb f')
 frozen:∀o,w2.frozen? (dA wb o)=w.frozen? (dA wb o)
 type:∀cur e,w.heap[wb]?=some (.cells cur e (0,0))->∃cur',w2.heap[wb]?=some (.cells cur' e (0,0))
 fresh:eD own' w2
 size:w.heap.size<=w2.heap.size
 io:Same w w2
theorem wK {A:Type}{own:Own}{r f:Nat}{K:List Value->A->Prop}{L:List A}{n:Nat}(M:eU w own r e k K v L)(N:eD own w)(B:own m=1)(O:r≠1)(P:m<w.heap.size)
 (d:dB w W) (Q:w.cell? (dA m f)=some V) (t:u.ownsRow 0 e k (dJ i n j) n b) (g:W.grownBy u v.ownBlock) (C:v.ownBlock=some i\/W.heap.size<=i) :
 xn w (u.setCell (dA m f) (dJ i n j)) own (dG own i r) m f r (dJ i n j)/\(u.setCell (dA m f) (dJ i n j)).ownsRow 0 e k (dJ i n j) n b:=by
 have hsz:=d.size;have hgs:=g.size;have x:=M.type;have y:v.ownBlock≠some m:=λh=>O (by rw[<-(x m h).1];exact B)
 have hsg:m≠i:=by
  intro h;rcases C with l|l
  ·rw[h]at y;exact y l
  ·exact aR
 have D:∀a,a≠m->(u.setCell (dA m f) (dJ i n j)).heap[a]?=u.heap[a]?:=λa c=>aD c;have E:∀a,a<w.heap.size->v.ownBlock≠some a->u.heap[a]?=w.heap[a]?:=λa c h=>(g.block a aR (λe=>h e.symm)).trans (d.block a c);have p:u.heap[m]?=w.heap[m]?:=E m P y;have F:(u.setCell (dA m f) (dJ i n j)).heap.size=u.heap.size:=amn
 have G:∀a,a<w.heap.size->dG own i r a=own a:=λa c=>by
  unfold dG
  by_cases z:a=i
  ·rw[if_pos z];rcases C with h|h
   ·rw[z];exact(x i h).1.symm
   ·exact aR
  ·rw[if_neg z]
 refine⟨⟨λa c H=>⟨?_,G a c⟩,G,?_,?_,?_,?_,?_,by rw[F];omega,⟨g.os.trans d.os,g.tape.trans d.tape,g.output.trans d.output⟩⟩,?_⟩
 ·have R:a≠m:=λh=>H (.inl (by rw[h];exact B));have l:v.ownBlock≠some a:=λh=>H (.inr (x a h).1);rw[D a R];exact E a c l
 ·exact aC ((World.cell?_of_block (w:=w) (a:=dA m f) p).trans Q)
 ·intro S T;rw[ax (λh=>T amM)];exact World.cell?_of_block (w:=w) (a:=dA m S) p
 ·intro o;rw[World.frozen?_setCell];exact World.frozen?_of_block (w:=w) (a:=dA m o) p
 ·intro I e' h;exact lg (p.trans h)
 ·intro a c;rw[F]at c;unfold dG;rw[if_neg (by intro h;have h3:=(t.lt i rfl).2;omega)];exact N a aR
 ·refine⟨t.1,?_⟩;rcases t.2 with ⟨q,_⟩|⟨J,U,I,q,X,Y,Z⟩
  ·cases q
  ·refine .inr ⟨J,U,I,q,X,?_,Z⟩;injection q with s;injection s with s;injection s with s;rw[D J aR];exact Y
theorem xn.jq {own:Own}(h:xn w W own o n m k v)(c:gZ w)(d:∀b,b<2->own b=0)(f:k≠0):gZ W/\∀b,b<2->o b=0:=by
 have g:=c.size;exact⟨c.fT (λb a e=>(h.keep b e (by rw[d b a];omega)).1),λb a=>by rw[h.ext b aR];exact d b a⟩
def iT (w w':World)(own:Own)(wb:Nat)(M:kK):Prop:=∃own',eD own' w'/\gp w' own' wb M/\(∀b,b<w.heap.size->own b=0->w'.heap[b]?=w.heap[b]?/\own' b=0)/\w.heap.size<=w'.heap.size/\Same w w'
theorem iT.MU {own:Own}(a:xn w W own o n m k v)(f:k≠0)(e:gp W o n L):iT w W own n L:=
 ⟨o,a.fresh,e,λb c d=>⟨(a.keep b c (by rw[d];omega)).1,by rw[a.ext b c];exact d⟩,a.size,a.io⟩
theorem gp.ZO {own:Own}{b:List (dN)}(h:gp w own n L)(a:xn w W own O n 1 5 v)(q:eU W O 5 9 1 LP v b):gp W O n { L with words:=b }:=by
 obtain⟨r,J,t,u,x,y⟩:=h.parts (w2:=W) (own':=O) (λo=>o=1\/o=5) (λz A B=>a.keep z A B);obtain⟨c,d,K⟩:=h.s;obtain⟨e,f,M⟩:=h.reg;obtain⟨g,j,N⟩:=h.ls;obtain⟨l,m,P⟩:=h.lw;obtain⟨C,D⟩:=h.obj;obtain⟨E,F⟩:=a.jq h.jq h.g0 aR;have p:∀s k i,¬(fJ s k i=1\/fJ s k i=5):=λs k i=>aP (jJ s k i);exact⟨aos,a.type C _ D,λo=>(a.frozen o).trans (h.fr o),⟨c,(a.cells 0 aR).trans d,r aR c d⟩,⟨v,a.cell,q⟩,⟨e,(a.cells 2 aR).trans f,t aR aR e f⟩,⟨g,(a.cells 3 aR).trans j,u aR (p 0) g j⟩,⟨l,(a.cells 4 aR).trans m,x aR (p 1) l m⟩,(a.cells 5 aR).trans h.at_,(a.cells 6 aR).trans h.n,(a.cells 7 aR).trans h.ex,λi G H S I=>y aR i G H S aR aR I,E,F⟩
theorem Kv (a:Nat)(own:Own)(M:kK)(y:dN)(w:World)(h:gp w own a M)(r:eD own w)(E:M.words.length<=1000000) :
 dH 49 #[dK a 0,dD y] w λe F=>e=dF (dM #[])/\iT w F own a { M with words:=M.words++[y] }:=by
 obtain⟨G,hi,H,I,J⟩:=info_parts ni;obtain⟨v1,s,b⟩:=h.words;obtain⟨p,g,rfl,K,p2⟩:=b.form;have L:=dn b;obtain⟨O,i,t,u,v⟩:=id b;have x:=dn i;have P:=dn (show _/\_/\_ from⟨i,t,u⟩);have z:=dn h;have Q:=dn r;have j:=h.lt;have R:=h.fr 1
 have k:Hid (∀q,(Value.slice p M.words.length g).ownBlock=some q->q≠a):=λq S T=>by
  have U:=v q S;rw[T,h.mine]at U;exact aR
 have l:=dn s;have V:=dn R;obtain⟨N,m⟩:=aK M.words.length;have c:=dn m;rw[m]at s K E x k l;clear h b i t u v r m;go_enter func49,ntmps49;go_wp2_with (at_builtin;refine dU rfl (.tmp 8) (.tmp 10) 45 rfl 0 9 G (eB) 1 16 underlying45 hi H I J rfl aY (.slice p N g) N O.flatten rfl (by exact x.o.alloc _) (dA w.heap.size 0) 1 [dD y] rfl rfl bP bX bz aR aW ?_;intro n A o B d X C;have Y:o.cell? (dA a 1)=some (.slice p N g):=((eY d (a:=dA a 1) aX (λe=>k.o a e.symm rfl)).trans (dV _ _ _ j)).trans l.o;have Z:o.frozen? (dA a 1)=false:=((fo d (a:=dA a 1) aX (λe=>k.o a e.symm rfl)).trans (eF _ _ _ j)).trans V.o);have f:=wK (f:=1) (r:=5) L.o Q.o z.o.mine aR j ((Below.refl w.heap.size w).alloc ae _) l.o B (by rw[c.o];exact d) (by rw[c.o];exact C)
 have iP:Hid (iT w (o.setCell (dA a 1) (dJ n (N+1) A)) own a { M with words:=M.words++[y] }):=by
  refine iT.MU f.1 aR (z.o.ZO f.1 ?_);have D:=eU.snoc (own':=dG own n 5) (k:=5) (D:=LP) (a:=y) (c:=[dD y]) (g:=n) (cap:=A) P.o (by rw[c.o];exact f.2) (λ_ _ h=>h) rfl rfl amz;rw[c.o]at D;exact D
 clear f B d X C Y Z;go_end0;exact⟨rfl,iP.o⟩
theorem Ya:(prog.info? 38).map (λi=>(i.zero,i.size,i.bytes))=some (some (dE),1,24):=bR
def Ak (c:List Value)(u:Value):Prop:=c=[u]
theorem yT:∀a:List Value,(a.map λu=>[u]).flatten=a
 | []=>rfl
 | v::a=>by simp[yT a]
theorem KV:∀a:List Value,iw Ak (a.map λu=>[u]) a
 | []=>.nil
 | _::a=>.cons rfl (KV a)
theorem zZ:∀{a:List (List Value)} {b:List Value},iw Ak a b->a=b.map λu=>[u]
 | _,_,.nil=>rfl
 | _,_,.cons h c=>by rw[zZ c];unfold Ak at h;rw[h];rfl
theorem iJ.Zk {own:Own}{b:List (List fU)}(h:iJ w own n v b):∃a:List Value,eU w own (9+2*n) 38 1 Ak v a/\a.length=b.length/\∀(k:Nat) (u:Value) (L:List fU),a[k]?=some u->b[k]?=some L->jU w own (fJ n k) u L:=by
 obtain⟨a,d,c,e⟩:=h.row;refine⟨a,⟨a.map λu=>[u],?_,KV a,aW,h.head⟩,c,e⟩;rw[yT,c];exact d
theorem iJ.wH {own:Own}{a:List (List fU)}(h:eU w own (9+2*n) 38 1 Ak v b)(c:b.length=a.length)(e:∀(k:Nat) (u:Value) (L:List fU),b[k]?=some u->a[k]?=some L->jU w own (fJ n k) u L):iJ w own n v a:=by
 obtain⟨i,d,f,j,g⟩:=h;rw[zZ f,yT,c]at d;exact⟨⟨b,d,c,e⟩,g⟩
theorem iJ.snoc {w e:World}{own own':Own}{a:Nat}{h:Value}{f:List (List fU)}{vs:List Value}{u:Value}{L:List fU}(j:eU e own' (9+2*a) 38 1 Ak h (vs++[u]))(g:vs.length=f.length)(l:∀(k:Nat) (u:Value) (L:List fU),vs[k]?=some u->f[k]?=some L->jU w own (fJ a k) u L)(m:jU w own (fJ a f.length) u L)(n:∀b,b<w.heap.size->¬(own b=1\/own b=9\/own b=11)->e.heap[b]?=w.heap[b]?/\own' b=own b):iJ e own' a h (f++[L]):=by
 have i:∀{k:Nat} {u:Value} {L:List fU},jU w own (fJ a k) u L->jU e own' (fJ a k) u L:=λ{k u L} o=>o.keep (λb p ⟨q,_,r⟩=>n b p (by have:=jJ a k q;rw[r];omega));refine iJ.wH j (by simp[g]) (λk s t c d=>?_)
 by_cases v:k<vs.length
 ·rw[List.getElem?_append_left v]at c;rw[List.getElem?_append_left aR]at d;exact i (l k s t c d)
 ·have x:k=vs.length:=by
   have:=(aG c).1;simp at this;exact aR
  subst x;rw[List.getElem?_append_right aR]at c;rw[g,List.getElem?_append_right aR]at d;simp at c d;subst c;subst d;rw[g];exact i m
theorem xn.two {own:Own}(a:xn w W own o n 3 9 v)(d:xn W u o O n 4 11 V):∀b,b<w.heap.size->¬(own b=1\/own b=9\/own b=11)->u.heap[b]?=w.heap[b]?/\O b=own b:=λb e i=>by
 have j:=a.size;obtain⟨f,c⟩:=a.keep b e aR;obtain⟨g,h⟩:=d.keep b aR (by rw[c];omega);exact⟨g.trans f,h.trans c⟩
theorem gp.ZP {own:Own}{d:List (List fU)}(h:gp w own n L)(b:xn w W own O n 3 9 v)(a:xn W u O Q n 4 11 V)(t:iJ u Q 0 v d)(x:iJ u Q 1 V d):iT w u own n { L with ls:=d }:=by
 have j:=b.two a;have X:=b.size;have Y:=a.size;obtain⟨y,z,A,Z,k4,B⟩:=h.parts (w2:=u) (own':=Q) (λo=>o=1\/o=9\/o=11) j;obtain⟨k,l,b0⟩:=h.s;obtain⟨m,p,b1⟩:=h.words;obtain⟨q,r,b2⟩:=h.reg;obtain⟨C,D⟩:=h.obj;obtain⟨E,F⟩:=b.type C _ D;obtain⟨G,H⟩:=b.jq h.jq h.g0 aR;obtain⟨I,J⟩:=a.jq G H aR;have K:=h.lt;have c:∀f,f≠3->f≠4->u.cell? (dA n f)=w.cell? (dA n f):=λf e g=>(a.cells f (λi=>g i.symm)).trans (b.cells f (λi=>e i.symm));refine⟨Q,a.fresh,?_,λM N s=>?_,aR,b.io.trans a.io⟩
 ·exact⟨by rw[a.ext n aR,b.ext n K];exact h.mine,a.type E _ F,λo=>((a.frozen o).trans (b.frozen o)).trans (h.fr o),⟨k,(c 0 aR aR).trans l,y aR k l⟩,⟨m,(c 1 aR aR).trans p,z aR m p⟩,⟨q,(c 2 aR aR).trans r,A aR aR q r⟩,⟨v,(a.cells 3 aR).trans b.cell,t⟩,⟨V,a.cell,x⟩,(c 5 aR aR).trans h.at_,(c 6 aR aR).trans h.n,(c 7 aR aR).trans h.ex,λP R S T U=>B aR P R S T aR aR U,I,J⟩
 ·obtain⟨e,g⟩:=j M N (by rw[s];omega);exact⟨e,g.trans s⟩
theorem Q8 (a:Nat)(own:Own)(M:kK)(j k:eu)(l m:Nat)(L:List fU)(w:World)(h:gp w own a M)(hfr:eD own w)(hl:M.ls.length<=1000000)(hf:jU w own (fJ 0 M.ls.length) (.slice j L.length l) L)(hc:jU w own (fJ 1 M.ls.length) (.slice k L.length m) L) :
 dH 93 #[dK a 0,.slice j L.length l,.slice k L.length m] w λe w'=>e=dF (dM #[])/\iT w w' own a { M with ls:=M.ls++[L] }:=by
 obtain⟨i0,hi,hz0,hz1,hz2⟩:=info_parts Ya;obtain⟨v3,a3,b3⟩:=h.ls;obtain⟨v4,a4,b4⟩:=h.lw;obtain⟨v,x,l3,t3⟩:=b3.Zk;obtain⟨f,y,l4,t4⟩:=b4.Zk;obtain⟨E,F,rfl,p1,p2⟩:=x.form;obtain⟨q,g,rfl,q1,q2⟩:=y.form;obtain⟨xs,G,x2,x3,x4⟩:=id x;obtain⟨ys,n,o,y3,y4⟩:=id y;obtain⟨Z,H⟩:=aK L.length;have HZ:=dn H;have HF:=dn hf;have HC:=dn hc;rw[H]at HF HC ⊢;have HR3:=dn x;have HR4:=dn y;have HT3:=dn (show v.length=M.ls.length/\_ from⟨l3,t3⟩);have FN:=dn (show f.length=M.ls.length/\_ from⟨l4,t4⟩);have HX:=dn G;have FM:=dn (show _/\_/\_ from⟨G,x2,x3⟩);have HY:=dn n;have RF:=dn (show _/\_ from⟨o,y3⟩);have I:=dn h;have nV:=dn hfr;have z:=h.lt;have f3:=h.fr 3;have f4:=h.fr 4
 have J:Hid (∀b,(Value.slice E v.length F).ownBlock=some b->b≠a):=λb O P=>by
  have Q:=x4 b O;rw[P,h.mine]at Q;exact aR
 have R:Hid (∀b,(Value.slice q f.length g).ownBlock=some b->b≠a):=λb O P=>by
  have Q:=y4 b O;rw[P,h.mine]at Q;exact aR
 have S:=dn a3;have F3:=dn a4;have tJ:=dn f3;have HF4:=dn f4;obtain⟨N,T⟩:=aK v.length;have A:=dn T;obtain⟨K,V⟩:=aK f.length;have p:=dn V;have hN1:N<=1000000:=aR;have hK1:K<=1000000:=aR;rw[T]at a3 p1 HX J S;rw[V]at a4 q1 HY R F3;clear h b3 b4 x y l3 l4 t3 t4 G x2 x3 x4 n o y3 y4 hfr T V H hf hc hl;go_enter func93,ntmps93;go_upto_region 1 with (at_builtin;refine dU rfl (.tmp 10) (.tmp 12) 46 rfl 0 38 i0 (dE) 1 24 underlying46 hi hz0 hz1 hz2 rfl aY (.slice E N F) N xs.flatten rfl (by exact HX.o.alloc _) (dA w.heap.size 0) 1 [.slice j Z l] rfl rfl bP bX bz aR aW ?_;intro B fD W s c X t;have n:W.cell? (dA a 3)=some (.slice E N F):=((eY c (a:=dA a 3) aX (fun e=>J.o a e.symm rfl)).trans (dV _ _ _ z)).trans S.o;have o:W.frozen? (dA a 3)=false:=((fo c (a:=dA a 3) aX (fun e=>J.o a e.symm rfl)).trans (eF _ _ _ z)).trans tJ.o)
 have i:=wK (f:=3) (r:=9) HR3.o nV.o I.o.mine aR z ((Below.refl w.heap.size w).alloc ae _) S.o s (by rw[A.o];exact c) (by rw[A.o];exact t);have Y:=eU.snoc (own':=dG own B 9) (k:=9) (D:=Ak) (a:=.slice j Z l) (c:=[.slice j Z l]) (g:=B) (cap:=fD) FM.o (by rw[A.o];exact i.2) (λ_ _ h=>h) rfl rfl amz;have r:=i.1;rw[A.o]at Y;clear i s c X t n o;generalize W.setCell (dA a 3) (dJ B (N+1) fD)=d at *;generalize dG own B 9=SV at *;have hsz:=r.size;have hlt1:a<d.heap.size:=aR
 have hb4:eU d SV 11 38 1 Ak (.slice q f.length g) f:=HR4.o.kept (λu hb=>by
  obtain⟨t1,t2,_⟩:=HR4.o.type u hb;exact r.keep u t2 (by rw[t1];omega))
 have TG:d.ownsRow 0 38 1 (.slice q K g) K ys.flatten:=by
  obtain⟨zs,z1,z2,z3,z4⟩:=hb4;rw[zZ z2]at z1;have:=RF.o.1;rw[zZ this];rw[p.o]at z1;exact z1
 have HW4:=dn TG;have HY3:=dn (show _/\_/\_ from⟨TG,RF.o⟩);have c4:d.cell? (dA a 4)=some (.slice q K g):=(r.cells 4 aR).trans F3.o;have g4:d.frozen? (dA a 4)=false:=(r.frozen 4).trans HF4.o;have xI:=dn c4;have HG4:=dn g4;have rz:=dn hb4;have HH9:=dn Y;have C:=dn r;clear r Y hb4 TG;go_wp2_with (at_builtin;refine dU rfl (.tmp 20) (.tmp 22) 46 rfl 0 38 i0 (dE) 1 24 underlying46 hi hz0 hz1 hz2 rfl aY (.slice q K g) K ys.flatten rfl (by exact HW4.o.alloc _) (dA d.heap.size 0) 1 [.slice k Z m] rfl rfl bP bX bz aR aW ?_;intro gb Ox w5 s c X t;have n:w5.cell? (dA a 4)=some (.slice q K g):=((eY c (a:=dA a 4) aX (λe=>R.o a e.symm rfl)).trans (dV _ _ _ hlt1)).trans xI.o;have o:w5.frozen? (dA a 4)=false:=((fo c (a:=dA a 4) aX (λe=>R.o a e.symm rfl)).trans (eF _ _ _ hlt1)).trans HG4.o);have i:=wK (f:=4) (r:=11) rz.o C.o.fresh (by rw[C.o.ext a z];exact I.o.mine) aR hlt1 ((Below.refl d.heap.size d).alloc ae _) xI.o s (by rw[p.o];exact c) (by rw[p.o];exact t);have h11:=eU.snoc (own':=dG SV gb 11) (k:=11) (zs:=f) (C:=Ak) (D:=Ak) (v:=.slice q K g) (w:=d) (a:=.slice k Z m) (c:=[.slice k Z m]) (g:=gb) (cap:=Ox) (by rw[p.o];exact HY3.o) (by rw[p.o];exact i.2) (λ_ _ h=>h) rfl rfl amz;have D:=i.1;rw[p.o]at h11
 have iP:Hid (iT w (w5.setCell (dA a 4) (dJ gb (K+1) Ox)) own a { M with ls:=M.ls++[L] }):=by
  have k2:=C.o.two D;refine I.o.ZP C.o D ?_ ?_
  ·refine iJ.snoc (w:=w) (own:=own) (vs:=v) (u:=.slice j Z l) ?_ HT3.o.1 HT3.o.2 HF.o k2
   exact HH9.o.kept (λu hb=>by
    obtain⟨t1,t2,_⟩:=HH9.o.type u hb;exact D.keep u t2 (by rw[t1];omega))
  ·exact iJ.snoc (w:=w) (own:=own) (vs:=f) (u:=.slice k Z m) h11 FN.o.1 FN.o.2 HC.o k2
 clear i D h11 s c X t n o;go_end0;exact⟨rfl,iP.o⟩
theorem sI.type {own:Own}{e:fU}(j:sI w own n b e)(g:Nat)(k:Array Value)(l:w.heap[g]?=some (.cells k 142 (0,0))){f:World}(m:∀a,a≠g->f.heap[a]?=w.heap[a]?):sI f own n b e:=by
 obtain⟨o,p,q,h⟩:=j;refine⟨o,p,q,h.keep (λa c=>⟨m a (λr=>?_),rfl⟩)⟩;rcases h.1.2 with ⟨d,_⟩|⟨s,t,u,d,_,i,_⟩
 ·rw[d]at c;simp[Value.ownBlock]at c
 ·rw[d]at c;simp[Value.ownBlock]at c;rw[c,r,l]at i;simp at i
theorem jU.other {own:Own}{cd:Nat->Nat}{d:Array Value}(h:jU w own cd v c)(j:w.heap[n]?=some (.cells d 142 (0,0)))(k:own n≠cd 0)(f:∀b,b≠n->W.heap[b]?=w.heap[b]?):jU W own cd v c:=by
 obtain⟨l,g,m,o,p⟩:=h.row;refine⟨⟨l,⟨g.1,?_⟩,m,o,λq x e r s=>(p q x e r s).type n d j f⟩,h.head⟩;rcases g.2 with t|⟨a,u,y,i,z,A,B⟩
 ·exact .inl t
 ·exact .inr ⟨a,u,y,i,z,by rw[f a (λe=>k (by rw[<-e];exact h.head a ao9))];exact A,B⟩
theorem jU.put {own:Own}{cd:Nat->Nat}{e:fU}(p:jU w own cd (dJ n c.length m) c)(hi:k<c.length)(A:lS w own (cd (k+1)) (.slice a e.args.length i) e.args) :
 jU ((((w.setCell (dA n (k*4)) (dw e.sym)).setCell (dA n (k*4+1)) (.bool e.other)).setCell (dA n (k*4+2)) (.slice a e.args.length i)).setCell (dA n (k*4+3)) (eO e.val)) own cd (dJ n c.length m) (c.set k e):=by
 obtain⟨B,q,r,s,C⟩:=p.row;have D:=MC q s r k hi (dw e.sym) (.bool e.other) (.slice a e.args.length i) (eO e.val)
 obtain⟨g,t⟩:∃g,w.heap[n]?=some (.cells g 142 (0,0)):=by
  rcases q.2 with ⟨l,_⟩|⟨F,G,H,l,_,u,_⟩
  ·cases l
  ·injection l with d;injection d with d;injection d with d;rw[<-d]at u;exact⟨_,u⟩
 have v:∀h,h≠n->((((w.setCell (dA n (k*4)) (dw e.sym)).setCell (dA n (k*4+1)) (.bool e.other)).setCell (dA n (k*4+2)) (.slice a e.args.length i)).setCell (dA n (k*4+3)) (eO e.val)).heap[h]?=w.heap[h]?:=λh j=>by
  rw[aD j,aD j,aD j,aD j]
 refine⟨⟨B.set k [dw e.sym,.bool e.other,.slice a e.args.length i,eO e.val],by rw[List.length_set];exact D,by simp[r],λx b=>?_,λy x E b f=>?_⟩,p.head⟩
 ·rcases List.mem_or_eq_of_mem_set b with o|o
  ·exact s x o
  ·rw[o];rfl
 ·by_cases z:k=y
  ·subst z;rw[List.getElem?_set_self aR]at b f;simp at b f;subst b;subst f;exact sI.type ⟨a,i,rfl,A⟩ n g t v
  ·rw[List.getElem?_set_ne z]at b f;exact(C y x E b f).type n g t v
theorem iJ.put {own:Own}{e:List (List fU)}{t:Array Value}(h:iJ w own n v e)(u:e[m]?=some c)(x:∀b:List Value,w.ownsRow 0 38 1 v e.length b->b[m]?=some (dJ k c.length i))(y:w.heap[k]?=some (.cells t 142 (0,0)))(l:own k=fJ n m 0)(o:∀f,f≠k->W.heap[f]?=w.heap[f]?)(z:jU W own (fJ n m) (dJ k c.length i) C):iJ W own n v (e.set m C):=by
 obtain⟨b,g,A,B⟩:=h.row;have D:=x b g;refine⟨⟨b,?_,by simp[A],λp E M d a=>?_⟩,h.head⟩
 ·rw[List.length_set];refine⟨g.1,?_⟩;rcases g.2 with F|⟨j,G,H,q,I,J,K⟩
  ·exact .inl F
  ·refine .inr ⟨j,G,H,q,I,?_,K⟩;rw[o j (λL=>?_)]
   ·exact J
   ·have r:=h.head j (by rw[q];rfl);rw[L,l]at r;have:=jJ n m 0;unfold fJ at r;exact aR
 ·by_cases s:m=p
  ·subst s;rw[D]at d;injection d with d;subst d;rw[List.getElem?_set_self (aG u).1]at a;injection a with a;subst a;exact z
  ·rw[List.getElem?_set_ne s]at a;exact(B p E M d a).other y (by rw[l];unfold fJ;omega) o
theorem lS.put {own:Own}{a:List (dN)}(h:lS w own n (dJ m a.length k) a)(j:Nat)(y:dN):lS (w.setCell (dA m j) (eO y)) own n (dJ m a.length k) (a.set j y):=by
 refine⟨?_,h.2⟩;have b:=(h.1.stored j (eO y)).1;rw[List.length_set,List.map_set];exact b
theorem lS.type {own:Own}{e:List (dN)}(h:lS w own n v e):∀b,v.ownBlock=some b->own b=n/\∃f,w.heap[b]?=some (.cells f 9 (0,0)):=λb a=>by
 refine⟨h.2 b a,?_⟩;rcases h.1.2 with ⟨c,_⟩|⟨g,i,j,c,_,d,_⟩
 ·rw[c]at a;simp[Value.ownBlock]at a
 ·rw[c]at a;simp[Value.ownBlock]at a;rw[a]at d;exact⟨_,d⟩
theorem jU.texts {own:Own}{cd:Nat->Nat}{l:Array Value}(h:jU w own cd v c)(m:w.heap[n]?=some (.cells l 9 (0,0)))(o:∀i,i<c.length->own n≠cd (i+1))(d:∀b,b≠n->W.heap[b]?=w.heap[b]?):jU W own cd v c:=by
 obtain⟨p,f,q,r,s⟩:=h.row;refine⟨⟨p,⟨f.1,?_⟩,q,r,λi x e t g=>?_⟩,h.head⟩
 ·rcases f.2 with u|⟨j,y,z,A,B,a,C⟩
  ·exact .inl u
  ·refine .inr ⟨j,y,z,A,B,?_,C⟩;rw[d j (λe=>?_)]
   ·exact a
   ·rw[e,m]at a;simp at a
 ·obtain⟨D,E,F,k⟩:=s i x e t g;refine⟨D,E,F,k.keep (λb G=>⟨d b (λH=>?_),rfl⟩)⟩;exact o i (aG g).1 (by rw[<-H];exact k.2 b G)
theorem jU.DC {own:Own}{cd:Nat->Nat}{e:fU}(q:jU w own cd v c)(r:c[n]?=some e)(F:∀b:List (List Value),w.ownsRow 0 142 4 v c.length b.flatten->b.length=c.length->(∀h∈b,h.length=4)->b[n]?=some [dw e.sym,.bool e.other,dJ k e.args.length i,eO e.val])(G:∀n m,n<=c.length->m<=c.length->cd n=cd m->n=m) :
 jU (w.setCell (dA k m) (eO x)) own cd v (c.set n { e with args:=e.args.set m x }):=by
 obtain⟨b,j,s,t,u⟩:=q.row;have hi:=(aG r).1;have y:=F b j s t;obtain⟨V,W,a,z⟩:=u n _ e y r;injection a with _ a
 injection a with _ a;injection a with a _;injection a with a _ H;subst a H;obtain⟨I,X,J⟩:=z.type k rfl;have A:∀d,d≠k->(w.setCell (dA k m) (eO x)).heap[d]?=w.heap[d]?:=λd l=>aD l;refine⟨⟨b,?_,by simp[s],t,λo h K g f=>?_⟩,q.head⟩
 ·rw[List.length_set];refine⟨j.1,?_⟩;rcases j.2 with L|⟨B,M,N,O,P,p,Q⟩
  ·exact .inl L
  ·refine .inr ⟨B,M,N,O,P,?_,Q⟩;rw[A B (λe=>?_)]
   ·exact p
   ·rw[e,J]at p;simp at p
 ·by_cases C:n=o
  ·subst C;rw[List.getElem?_set_self hi]at f;injection f with f;rw[y]at g;injection g with g;subst g;subst f;refine⟨some (dA k 0),i,aW,?_⟩;have:=z.put m x;simpa using this
  ·rw[List.getElem?_set_ne C]at f;obtain⟨R,S,T,D⟩:=u o h K g f;have Y:=(aG f).1;refine⟨R,S,T,D.keep (λd l=>⟨A d (λU=>?_),rfl⟩)⟩;have E:=D.2 d l;rw[U,I]at E;have:=G (n+1) (o+1) aR aR E;exact aR
theorem iJ.DC {own:Own}{b:List (List fU)}{y:Array Value}(l:iJ w own n v b)(o:n<2)(p:b[m]?=some c)(q:∀c∈b,c.length<262143)(hi:k<c.length)(z:∀d:List Value,w.ownsRow 0 38 1 v b.length d->d[m]?=some V)(r:w.heap[i]?=some (.cells y 9 (0,0)))(A:own i=fJ n m (k+1))(s:∀f,f≠i->W.heap[f]?=w.heap[f]?)(B:jU W own (fJ n m) V C):iJ W own n v (b.set m C):=by
 obtain⟨d,g,D,E⟩:=l.row;have F:=z d g;have P:=q c (List.mem_of_getElem? p);refine⟨⟨d,?_,by simp[D],λt G M e a=>?_⟩,l.head⟩
 ·rw[List.length_set];refine⟨g.1,?_⟩;rcases g.2 with H|⟨u,I,J,K,L,h,N⟩
  ·exact .inl H
  ·refine .inr ⟨u,I,J,K,L,?_,N⟩;rw[s u (λO=>?_)]
   ·exact h
   ·rw[O,r]at h;exact anq
 ·by_cases j:m=t
  ·subst j;rw[F]at e;injection e with e;subst e;rw[List.getElem?_set_self (aG p).1]at a;injection a with a;subst a;exact B
  ·rw[List.getElem?_set_ne j]at a;have Q:=q M (List.mem_of_getElem? a);refine(E t G M e a).texts r (λR S x=>?_) s;rw[A]at x;exact j (EU o o aR aR x).2.1
theorem gp.ME {own:Own}{e:List (List fU)}(h:gp w own n L)(f:∀b,b<w.heap.size->(∀s k i,own b≠fJ s k i)->W.heap[b]?=w.heap[b]?)(A:∀v,w.cell? (dA n 3)=some v->iJ W own 0 v e)(B:∀v,w.cell? (dA n 4)=some v->iJ W own 1 v e):gp W own n { L with ls:=e }:=by
 have a:∀o,(o<13\/o % 2=0)->¬(∃s k i,o=fJ s k i):=λo P ⟨s,k,i,d⟩=>aP (jJ s k i);obtain⟨C,D,E,Q,R,F⟩:=h.parts (w2:=W) (own':=own) (λo=>∃s k i,o=fJ s k i) (λb g G=>⟨f b g (λs k i d=>G ⟨s,k,i,d⟩),rfl⟩);obtain⟨l,m,T⟩:=h.s;obtain⟨p,q,U⟩:=h.words;obtain⟨r,t,V⟩:=h.reg;obtain⟨u,x,X⟩:=h.ls;obtain⟨y,z,Y⟩:=h.lw;obtain⟨H,I⟩:=h.obj;have j:W.heap[n]?=w.heap[n]?:=f n h.lt (λs k i d=>a 1 aR ⟨s,k,i,by rw[<-d];exact h.mine.symm⟩);have c:∀{o:Nat} {v:Value},w.cell? (dA n o)=some v->W.cell? (dA n o)=some v:=λJ=>(World.cell?_of_block (w:=w) (a:=dA n _) j).trans J;exact⟨h.mine,⟨H,by rw[j];exact I⟩,λo=>(World.frozen?_of_block (w:=w) (a:=dA n o) j).trans (h.fr o),⟨l,c m,C (a 3 aR) l m⟩,⟨p,c q,D (a 5 aR) p q⟩,⟨r,c t,E (a 7 aR) (a 0 aR) r t⟩,⟨u,c x,A u x⟩,⟨y,c z,B y z⟩,c h.at_,c h.n,c h.ex,λi K M S N=>F (a 0 aR) i K M S (a _ aR) (a _ aR) N,h.jq.fT (λb g O=>f b O (λs k i d=>a 0 aR ⟨s,k,i,by rw[<-d];exact(h.g0 b g).symm⟩)),h.g0⟩
theorem uA {a:Array Value}(h:w.heap[n]?=some (.cells a e (0,0)))(o:Nat):w.frozen? (dA n o)=false:=by
 unfold World.frozen?;exact aoX
theorem iJ.pJ {own:Own}{a:List (List fU)}(i:iJ w own n v a)(j:a[m]?=some c):∃g e u,v=dJ g a.length e/\a.length<=e/\e<=2 ^ 63-1/\own g=9+2*n/\w.cell? (dA g m)=some u/\jU w own (fJ n m) u c/\∀b:List Value,w.ownsRow 0 38 1 v a.length b->b[m]?=some u:=by
 obtain⟨b,p,D,q⟩:=i.row;obtain⟨E,r,f,s,t,x⟩:=eZ p;have k:=(aG j).1;obtain⟨g,y,l,_⟩:=x m k;subst y;have h:b[m]?=some (b[m]' aR):=aF aR;refine⟨g,r,_,f,s,t,i.head g aoi,l.trans h,q m _ c h j,λF z=>?_⟩;obtain⟨G,H,o,_,_,A⟩:=eZ z;obtain⟨I,B,C,_⟩:=A m k;rw[f,B]at o;injection o with d
 injection d with d;injection d with d;rw[<-C,<-d,l,h]
structure ab4 (w:World)(own:Own)(cd:Nat->Nat)(u:Value)(L:List fU)(i:Nat)(e:fU)(g c:Nat)(a:eu)(ca:Nat):Prop where
 val:u=dJ g L.length c
 le:L.length<=c
 max:c<=2 ^ 63-1
 mine:own g=cd 0
 type:∃cur,w.heap[g]?=some (.cells cur 142 (0,0))
 c0:w.cell? (dA g (i*4))=some (dw e.sym)
 c1:w.cell? (dA g (i*4+1))=some (.bool e.other)
 c2:w.cell? (dA g (i*4+2))=some (.slice a e.args.length ca)
 c3:w.cell? (dA g (i*4+3))=some (eO e.val)
 row:∀rows:List (List Value),w.ownsRow 0 142 4 u L.length rows.flatten->rows.length=L.length->(∀x∈rows,x.length=4)->rows[i]?=some [dw e.sym,.bool e.other,.slice a e.args.length ca,eO e.val]
 args:lS w own (cd (i+1)) (.slice a e.args.length ca) e.args
theorem jU.pJ {own:Own}{cd:Nat->Nat}{e:fU}(q:jU w own cd v c)(r:c[n]?=some e):∃g F f h,ab4 w own cd v c n e g F f h:=by
 obtain⟨X,s,t,G,H⟩:=q.row;have hi:=(aG r).1;obtain⟨Y,I,d,u,x,_,J⟩:=Row.fq s t.symm G;rw[t]at d u;unfold maxLen at x;obtain⟨g,K,i⟩:=J n aR;subst K;obtain⟨f,h,j,L⟩:=H n _ e (aF aR) r;have y:=i 0 aR (dw e.sym) aoQ;have z:=i 1 aR (.bool e.other) aoQ;have A:=i 2 aR (.slice f e.args.length h) aoQ;have B:=i 3 aR (eO e.val) aoQ;refine⟨g,I,f,h,d,u,x,q.head g anj,?_,y,z,A,B,λC M N D=>?_,L⟩
 ·rcases s.2 with ⟨b,_⟩|⟨O,P,Z,b,_,E,_⟩
  ·rw[d]at b;cases b
  ·rw[d]at b;injection b with a;injection a with a;injection a with a;rw[<-a]at E;exact⟨_,E⟩
 ·obtain⟨ao',P,b,_,_,_,Q⟩:=Row.fq M N.symm D;obtain⟨O,R,k⟩:=Q n aR;rw[d,R]at b;injection b with a
  injection a with a;injection a with a;subst a;have S:=D (C[n]' aR) (List.getElem_mem _);rw[aF aR]
  match hm:C[n]' aR,S with
  | [T,U,V,W],_=>
   have l:=k 0 aR T (by rw[hm];rfl);have m:=k 1 aR U (by rw[hm];rfl);have o:=k 2 aR V (by rw[hm];rfl);have p:=k 3 aR W (by rw[hm];rfl);rw[y]at l;rw[z]at m;rw[A]at o;rw[B]at p;injection l with l
   injection m with m;injection o with o;injection p with p;rw[l,m,o,p]
theorem lS.pJ {own:Own}{b:List (dN)}(h:lS w own n (.slice a b.length m) b)(d:k<b.length):∃g y c,a=some (dA g 0)/\own g=n/\b.length<=m/\m<=2 ^ 63-1/\w.cell? (dA g k)=some (eO y)/\w.heap[g]?=some (.cells c 9 (0,0)):=by
 obtain⟨t,u,e,f,i,j⟩:=eZ h.1;injection e with l _ o
 subst l o;obtain⟨g,p,q,_⟩:=j k d;subst p;obtain⟨r,c,s⟩:=h.type g rfl;exact⟨g,b[k],c,rfl,r,f,i,by rw[q];simp[d],s⟩
structure AU (e:fU):Prop where
 EL:e.args.length<=70001
 val:e.val.length<=1000000
 args:∀y∈e.args,y.length<=1000000
 sym:-9223372036854775808<=e.sym/\e.sym<=9223372036854775807
structure iK (n:Nat)(M:kK):Prop where
 lim:n<=100000
 eQ:M.eQ.length<=n
 wf:∀s∈M.eQ,Doc.iq s.2.2
 words:M.words.length<=n
 word:∀y∈M.words,y.length<=90000
 reg:M.reg.length<=n
 yG:∀e∈M.reg,AU e
 ls:M.ls.length<=n
 l:∀L∈M.ls,L.length<=n
 la:∀L∈M.ls,∀e∈L,AU e
 at_:-9223372036854775808<=M.at_/\M.at_<=9223372036854775807
 n_:-9223372036854775808<=M.n/\M.n<=9223372036854775807
 ex:-9223372036854775808<=M.ex/\M.ex<=9223372036854775807
def jd (w w':World)(own:Own)(wb n:Nat):Prop:=∃M',iK n M'/\iT w w' own wb M'
theorem iT.below {own:Own}(h:gp w own n L)(d:eD own w)(a:dB w W):iT w W own n L:=by
 have e:=a.size;refine⟨own,λb c=>d b aR,h.keep (λb c=>⟨a.block b c,rfl⟩) (h.jq.fT (λb _ f=>a.block b f)),λb c g=>⟨a.block b c,g⟩,e,Same.below a⟩
theorem iT.more {own:Own}(h:iT w W own n L)(a:dB W u):iT w u own n L:=by
 obtain⟨g,i,d,e,l,j⟩:=h;have m:=a.size;refine⟨g,λb c=>i b aR,d.keep (λb c=>⟨a.block b c,rfl⟩) (d.jq.fT (λb _ k=>a.block b k)),λb c f=>⟨(a.block b aR).trans (e b c f).1,(e b c f).2⟩,aR,j.trans (Same.below a)⟩
theorem jd.more {own:Own}(h:jd w W own n m)(a:dB W u):jd w u own n m:=by
 obtain⟨M,b,c⟩:=h;exact⟨M,b,c.more a⟩
theorem iK.ael {k:Nat}{L':List fU}(h:iK n L)(d:L.ls[k]?=some c)(e:L'.length=c.length)(f:∀g∈L',AU g):iK n { L with ls:=L.ls.set k L' }:=by
 have i:=List.mem_of_getElem? d;refine⟨h.lim,h.eQ,h.wf,h.words,h.word,h.reg,h.yG,by simp[h.ls],λx b=>?_,λx b=>?_,h.at_,h.n_,h.ex⟩
 ·rcases List.mem_or_eq_of_mem_set b with a|a
  ·exact h.l x a
  ·rw[a,e];exact h.l c i
 ·rcases List.mem_or_eq_of_mem_set b with a|a
  ·exact h.la x a
  ·rw[a];exact f
theorem iJ.form {own:Own}{a:List (List fU)}(h:iJ w own n v a):∃e b,v=.slice e a.length b/\a.length<=b/\b<=2 ^ 63-1:=by
 obtain⟨k,f,g,l⟩:=h.Zk;obtain⟨p,i,c,d,j⟩:=f.form;rw[g]at c d;exact⟨p,i,c,d,j⟩
theorem DI (h:W.ownsRow n e m v k b)(f:∀a,v.ownBlock=some a->W.heap[a]?=w.heap[a]?):w.ownsRow n e m v k b:=by
 refine⟨h.1,?_⟩;rcases h.2 with g|⟨c,i,j,d,l,o,r⟩
 ·exact .inl g
 ·exact .inr ⟨c,i,j,d,l,by rw[<-f c anj];exact o,r⟩
theorem gp.adg {own:Own}{j:Nat}{g:fU}{u3 u4:Value}{H a I J K h M:Nat}{y:dN}{O P:Array Value}(Q:gp w own n L)(B:iK m L)(q:L.ls[k]?=some c)(u:c[i]?=some g)(R:w.cell? (dA n 3)=some v)(S:w.cell? (dA n 4)=some V)(T:iJ w own 0 v L.ls)(C:iJ w own 1 V L.ls)
 (U:∀o:List Value,w.ownsRow 0 38 1 v L.ls.length o->o[k]?=some u3) (W:∀o:List Value,w.ownsRow 0 38 1 V L.ls.length o->o[k]?=some u4) (X:jU w own (fJ 0 k) u3 c) (D:jU w own (fJ 1 k) u4 c)
 (Y:ab4 w own (fJ 0 k) u3 c i g N H (some (dA a 0)) I) (Z:ab4 w own (fJ 1 k) u4 c i g J K (some (dA h 0)) M) (r:own a=fJ 0 k (i+1)) (f:own h=fJ 1 k (i+1)) (hga:w.heap[a]?=some (.cells O 9 (0,0))) (hgb:w.heap[h]?=some (.cells P 9 (0,0))) :
 gp ((w.setCell (dA a j) (eO y)).setCell (dA h j) (eO y)) own n { L with ls:=L.ls.set k (c.set i { g with args:=g.args.set j y }) }:=by
 have hi:=(aG u).1;have x:∀c∈L.ls,c.length<262143:=λc q=>aQ (B.l c q) B.lim;have Oh:=x c (List.mem_of_getElem? q);have E:∀s,s<2->∀i j,i<=c.length->j<=c.length->fJ s k i=fJ s k j->i=j:=λs F i j hi hj e=>(EU F F aR aR e).2.2
 have hne:a≠h:=λe=>by
  rw[e,f]at r;have:=(EU aR aR aR aR r).1;exact aR
 have p:∀b,b≠a->(w.setCell (dA a j) (eO y)).heap[b]?=w.heap[b]?:=λb f=>aD f;have z:∀b,b≠h->((w.setCell (dA a j) (eO y)).setCell (dA h j) (eO y)).heap[b]?=(w.setCell (dA a j) (eO y)).heap[b]?:=λb f=>aD f;have s0:iJ (w.setCell (dA a j) (eO y)) own 0 v (L.ls.set k (c.set i { g with args:=g.args.set j y })):=T.DC aR q x hi U hga r p (X.DC u Y.row (E 0 aR))
 have s1:iJ ((w.setCell (dA a j) (eO y)).setCell (dA h j) (eO y)) own 0 v (L.ls.set k (c.set i { g with args:=g.args.set j y })):=s0.keep (λb _ d=>⟨z b (λe=>by
  rw[e,f]at d;rcases d with d|⟨k',A,d⟩
  ·have:=jJ 1 k (i+1);exact aR
  ·unfold fJ at d;omega),rfl⟩)
 have t:∀b,(own b=9+2*1\/∃k i,own b=fJ 1 k i)->b≠a:=λb d e=>by
  rw[e,r]at d;rcases d with d|⟨k',A,d⟩
  ·have:=jJ 0 k (i+1);exact aR
  ·unfold fJ at d;exact aR
 have q4:iJ (w.setCell (dA a j) (eO y)) own 1 V L.ls:=C.keep (λb _ d=>⟨p b (t b d),rfl⟩);have p4:jU (w.setCell (dA a j) (eO y)) own (fJ 1 k) u4 c:=D.keep (λb _ ⟨A,_,d⟩=>⟨p b (t b (.inr ⟨k,A,d⟩)),rfl⟩)
 have s2:iJ ((w.setCell (dA a j) (eO y)).setCell (dA h j) (eO y)) own 1 V (L.ls.set k (c.set i { g with args:=g.args.set j y })):=
  q4.DC aR q x hi (λo hvs=>W o (DI hvs (λb f=>p b (t b (.inl (C.head b f)))))) ((p h (λe=>hne e.symm)).trans hgb) f z (p4.DC u (λrows r1 r2 r3=>Z.row rows (DI r1 (λb f=>p b (t b (.inr ⟨k,0,D.head b f⟩)))) r2 r3) (E 1 aR))
 refine Q.ME (λb _ G=>?_) (λbg l=>?_) (λbg l=>?_)
 ·rw[z b (λe=>G 1 k (i+1) (by rw[e];exact f)),p b (λe=>G 0 k (i+1) (by rw[e];exact r))]
 ·rw[R]at l;injection l with l;rw[<-l];exact s1
 ·rw[S]at l;injection l with l;rw[<-l];exact s2
theorem adU (c:Nat)(own:Own)(M:kK)(o:kv)(bg:Nat)(w:World)(u:gp w own c M)(hfr:eD own w)(p:iK bg M)(ho:vN o) :
 dH 95 #[dK c 0,o.val] w λbn a=>bn=dF (dM #[])/\jd w a own c bg:=by
 obtain⟨kd,q,r,v,os,x⟩:=o;obtain⟨⟨xy,xw⟩,⟨pQ,sV⟩,⟨zI,zH⟩,_,ht⟩:=ho;simp only at xy xw pQ sV zI zH ht;obtain⟨d,H⟩:∃d,w.alloc (.cells #[dw kd,dw q,dw r,dw v,dD os,dD x] 33)=d:=⟨_,rfl⟩;have I:dB w d:=by rw[<-H];exact af.alloc ae _
 have h:gp d own c M:=u.keep (λe hb'=>⟨I.block e hb',rfl⟩) (u.jq.fT (λe _ hlt=>I.block e hlt));obtain⟨v3,J,K⟩:=h.ls;obtain⟨v4,a4,t4⟩:=h.lw;have sF:=h.lt;have f:=dn I;have ajw:=dn p.lim;have HQ:Hid (∀W,dB w W->jd w W own c bg):=λW hW=>⟨M,p,iT.below u hfr hW⟩;have Am:=u.lt;have f1:d.cell? (dA w.heap.size 1)=some (dw q):=by rw[<-H];simp
 have f2:d.cell? (dA w.heap.size 2)=some (dw r):=by rw[<-H];simp
 have f3:d.cell? (dA w.heap.size 3)=some (dw v):=by rw[<-H];simp
 have f5:d.cell? (dA w.heap.size 5)=some (dD x):=by rw[<-H];simp
 have BF:=dn (fun(m:Nat) W (h:0<m) (h2:m<=1000000)=>kJ q m W xy xw h aR);have Pn:=dn (fun(m:Nat) W (h:0<m) (h2:m<=1000000)=>kJ r m W pQ sV h aR);have HPC:=dn (fun(m:Nat) W (h:0<m) (h2:m<=1000000)=>kJ v m W zI zH h aR);have HH:=dn h;clear h;have nG:=dn p;have nV:=dn hfr;have O:=dn J;have P:=dn a4;have Q:=dn K;have FN:=dn t4;have hls:=p.ls;have hlim:=p.lim;simp only[kv.val]
 by_cases hn0:M.ls.length=0
 ·obtain⟨bA,cp,rfl,p1,p2⟩:=K.form;have e1:=J;rw[hn0]at e1;clear u hfr p K t4 J a4 hn0 I O Q;go_enter func95,ntmps95;go_wp2;exact dR (dM #[]) anZ rfl ⟨rfl,HQ.o _ f.o⟩
 ·have DY:0<M.ls.length:=aR;have hpk:=oF q DY;obtain⟨L,y⟩:∃L,M.ls[pk q M.ls.length]?=some L:=⟨_,aF hpk⟩;have R:=dn (λW=>BF.o M.ls.length W DY aR);obtain⟨k,hk⟩:=aK (pk q M.ls.length);rw[hk]at y R hpk;have KF:=List.mem_of_getElem? y;have Oh:=p.l L KF;have K7:=dn (p.la L KF);obtain⟨g,z,u3,rfl,q1,q2,o3,d3,l3,m3⟩:=K.pJ y;obtain⟨g4,c4,u4,rfl,q3,q4,o4,d4,l4,m4⟩:=t4.pJ y;have BG:=dn o3;have Yx:=dn o4;have HD4:=dn d4;have S:=dn l3;have T:=dn l4;have HM3:=dn m3;have HM4:=dn m4;have I6:=dn y;have FT:=dn (show M.ls.length=M.ls.length from rfl);have e3:=J;have e5:=d3;obtain⟨al,A,hu3,k1,_⟩:=l3.Eb;obtain⟨bl,dl0,WX,k2,_⟩:=l4.Eb;subst hu3 WX;have hkl:=k1.le;have hkm:=k1.max;obtain⟨N,hN⟩:=aK M.ls.length;have mP:=dn hN;rw[hN]at R hpk q1 q3 e3 hls DY;clear u hfr p K t4 J a4 hn0 I d3 d4 l3 l4 m3 m4 y hk KF o3 o4 FT k1 k2
  by_cases hl0:L.length=0
  ·rw[hl0]at e5;clear hl0 S T HD4 HM3 HM4 Q FN O P;go_enter func95,ntmps95;go_wp2_with fail;go_region_held3 (fun a=>a.cell? (dA c 3)=some (dJ g N z)/\a.cell? (dA w.heap.size 1)=some (dw q)/\a.cell? (dA g k)=some (.slice al 0 A)) (go_keep) (first|(go_at_call 38;refine(R.o _).dX fun U i=>?_;subst i));go_wp2;exact dR (dM #[]) anZ rfl ⟨rfl,HQ.o _ (by first|exact f.o.drew|exact f.o|exact below_drewN f.o _)⟩
  ·have hlp:0<L.length:=aR;have hpi:=oF r hlp;obtain⟨en,B⟩:∃en,L[pk r L.length]?=some en:=⟨_,aF hpi⟩;have jl:=dn (λW=>Pn.o L.length W hlp aR);obtain⟨s,hi⟩:=aK (pk r L.length);rw[hi]at B jl hpi;have V:=dn (K7.o en (List.mem_of_getElem? B));have hal:=V.o.EL;obtain⟨C,cl,aa,ca,X⟩:=S.o.pJ B;obtain⟨gm,cm,ab,cb,E4⟩:=T.o.pJ B;have hv:=X.val;injection hv with hv1 _ hv2
   subst hv1 hv2;have hv:=E4.val;injection hv with hv1 _ hv2;subst hv1 hv2;have RS:=dn X;have D:=dn E4;have HEN:=dn B;have z2:=X.c2;have hm3:=X.max;obtain⟨t,Fy⟩:=aK L.length;have U7:=dn Fy;rw[Fy]at jl hpi Oh e5 hkl hlp;clear hl0 hi B X E4 Fy;have hii:(s:Int)<(t:Int):=aR
   by_cases ha0:en.args.length=0
   ·rw[ha0]at z2;clear ha0 S T HD4 HM3 HM4 Q FN O P RS D;go_enter func95,ntmps95;go_wp2_with fail;go_region_held3 (fun a=>a.cell? (dA c 3)=some (dJ g N z)/\a.cell? (dA w.heap.size 1)=some (dw q)/\a.cell? (dA g k)=some (dJ C t A)) (go_keep) (first|(go_at_call 38;refine(R.o _).dX fun U i=>?_;subst i));go_wp2_with fail;go_region_held3 (fun a=>a.cell? (dA c 3)=some (dJ g N z)/\a.cell? (dA w.heap.size 2)=some (dw r)/\a.cell? (dA g k)=some (dJ C t A)) (go_keep) (first|(go_at_call 38;refine(jl.o _).dX fun U i=>?_;subst i));go_wp2;exact dR (dM #[]) anZ rfl ⟨rfl,HQ.o _ (by first|exact f.o.drew|exact f.o.drew.drew|exact f.o|exact below_drewN f.o _)⟩
   ·have hap:0<en.args.length:=aR;have Df:=oF v hap;have oQ:=dn (λW=>HPC.o en.args.length W hap aR);obtain⟨j,hj⟩:=aK (pk v en.args.length);rw[hj]at oQ Df;obtain⟨n,ya,alC,rfl,l,x1,x2,d5,x3⟩:=RS.o.args.pJ Df;obtain⟨E,yb,alB,rfl,F,x4,x5,d6,x6⟩:=D.o.args.pJ Df;have d7:=uA x3 j;have d8:=uA x6 j;have aaH:L.length<262143:=aP (nG.o.l L (List.mem_of_getElem? I6.o));have hilt:s<L.length:=(aG HEN.o).1
    have n1:n≠c:=λb=>by
     rw[b,HH.o.mine]at l;have:=jJ 0 k (s+1);exact aR
    have n2:n≠g4:=λb=>by
     rw[b,Yx.o]at l;have:=jJ 0 k (s+1);exact aR
    have n3:n≠gm:=λb=>by
     rw[b,D.o.mine]at l;unfold fJ at l;exact aR
    have n4:n≠E:=λb=>by
     rw[b,F]at l;unfold fJ at l;exact aR
    have n5:n≠w.heap.size:=λb=>by
     rw[b,nV.o _ ae]at l;unfold fJ at l;exact aR
    have n6:E≠w.heap.size:=λb=>by
     rw[b,nV.o _ ae]at F;unfold fJ at F;exact aR
    have iP:Hid (jd w ((d.setCell (dA n j) (dD x)).setCell (dA E j) (dD x)) own c bg):=by
     refine⟨_,?_,own,?_,HH.o.adg (j:=j) (y:=x) nG.o I6.o HEN.o O.o P.o Q.o FN.o HM3.o HM4.o S.o T.o RS.o D.o l F x3 x6,?_,?_,?_⟩
     ·refine nG.o.ael I6.o aW (λbn he=>?_);rcases List.mem_or_eq_of_mem_set he with h3|h3
      ·exact K7.o bn h3
      ·rw[h3];refine⟨by simpa using V.o.EL,V.o.val,λbq hy=>?_,V.o.sym⟩;rcases List.mem_or_eq_of_mem_set hy with h4|h4
       ·exact V.o.args bq h4
       ·rw[h4];exact aR
     ·intro e Y;have:=f.o.size;simp[World.setCell]at Y;exact nV.o e aR
     ·intro e Y Z;refine⟨?_,Z⟩;rw[aD (λb=>?_),aD (λb=>?_)]
      ·exact f.o.block e Y
      ·have hc':e=n:=b;rw[hc',l]at Z;unfold fJ at Z;exact aR
      ·have hc':e=E:=b;rw[hc',F]at Z;unfold fJ at Z;exact aR
     ·have:=f.o.size;simp[World.setCell];exact aR
     ·exact(Same.below f.o:Same w d)
    have e4:d.cell? (dA c 4)=some (dJ g4 N c4):=by rw[<-mP.o];exact P.o
    have e6:d.cell? (dA g4 k)=some (dJ gm t dl0):=by rw[<-U7.o];exact HD4.o
    have z3:=D.o.c2;obtain⟨NA,oM⟩:=aK en.args.length;rw[oM]at oQ Df z2 z3 hal hap x1 x4;obtain⟨wz,hwz⟩:=aK (d.setCell (dA n j) (dD x))
    have G:∀e m,e≠n->wz.cell? (dA e m)=d.cell? (dA e m):=λe m Y=>by
     rw[<-hwz];exact ax (λb=>Y (by injection b with b _ _;exact b.symm))
    have u4:=(G c 4 n1.symm).trans e4;have u6:=(G g4 k n2.symm).trans e6;have u7:=(G gm (s*4+2) n3.symm).trans z3;have u8:=(G E j n4.symm).trans d6;have u9:=(G w.heap.size 5 n5.symm).trans f5;have u10:wz.frozen? (dA E j)=false:=by rw[<-hwz,World.frozen?_setCell];exact d8
    rw[hwz]at iP;have hjj:(j:Int)<(NA:Int):=aR;clear G oM hj ha0 l F x3 x6 S T HD4 HM3 HM4 Q FN O P RS D aaH hilt;go_enter func95,ntmps95;go_wp2_with fail;go_region_held3 (fun a=>a.cell? (dA c 3)=some (dJ g N z)/\a.cell? (dA w.heap.size 1)=some (dw q)/\a.cell? (dA g k)=some (dJ C t A)) (go_keep) (first|(go_at_call 38;refine(R.o _).dX fun U i=>?_;subst i));go_wp2_with fail;go_region_held3 (fun a=>a.cell? (dA c 3)=some (dJ g N z)/\a.cell? (dA w.heap.size 2)=some (dw r)/\a.cell? (dA g k)=some (dJ C t A)) (go_keep) (first|(go_at_call 38;refine(jl.o _).dX fun U i=>?_;subst i));go_wp2_with fail;go_region_held3 (fun a=>a.cell? (dA c 3)=some (dJ g N z)/\a.cell? (dA w.heap.size 3)=some (dw v)/\a.cell? (dA g k)=some (dJ C t A)/\a.cell? (dA C (s*4+2))=some (dJ n NA ca)) (go_keep) (first|(go_at_call 38;refine(oQ.o _).dX fun U i=>?_;subst i));go_wp2_with fail;go_region
    all_goals go_wp2_with fail
    go_region
    all_goals go_wp2_with fail
    all_goals
     go_end0;exact⟨rfl,by first|exact iP.o|exact iP.o.more (af.drew.drew.drew.drew.drew)⟩
theorem iw.set {a:Type}{C:List Value->a->Prop}{z z':a}(e:∀f,C f z->C f z'):∀{g:List (List Value)} {b:List a} {i:Nat},iw C g b->b[i]?=some z->iw C g (b.set i z')
 | _,_,i,.nil,h=>anq
 | _,_,0,.cons c d,h=>by
  simp at h;subst h;exact .cons (e _ c) d
 | _,_,i+1,.cons c d,h=>by
  simp at h;exact .cons c (iw.set e d h)
theorem Zh {own:Own}{a:List (Nat × Nat × Doc.dO)}{S b:Doc.dO}(h:eU w own 3 75 2 EJ v a)(c:a[n]?=some (m,k,S)):eU w own 3 75 2 EJ v (a.set n (m,k,b)):=by
 obtain⟨d,e,f,g,i⟩:=h;exact⟨d,by rw[List.length_set];exact e,iw.set (z:=(m,k,S)) (z':=(m,k,b)) (λl j=>j) f c,g,i⟩
theorem gp.Mw {own own':Own}{S f:Doc.dO}(h:gp w own n L)(u:L.eQ[m]?=some (k,i,S))(g:∀b,b<w.heap.size->own b≠4*m+2->own b≠4*m+4->W.heap[b]?=w.heap[b]?/\own' b=own b)(K:eD own' W)(M:dI W own' (4*m+2) k f)(N:ed W own' (4*m+4) i f)(O:w.heap.size<=W.heap.size)(P:Same w W):iT w W own n { L with eQ:=L.eQ.set m (k,i,f) }:=by
 obtain⟨Q,R,T,U,V,X⟩:=h.parts (w2:=W) (own':=own') (λo=>o=4*m+2\/o=4*m+4) (λb d v=>g b d (λl=>v (.inl l)) (λl=>v (.inr l)));obtain⟨x,y,b0⟩:=h.s;obtain⟨z,A,b1⟩:=h.words;obtain⟨B,C,b2⟩:=h.reg;obtain⟨D,E,b3⟩:=h.ls;obtain⟨F,G,b4⟩:=h.lw;obtain⟨Y,Z⟩:=h.obj;have p:=h.lt;obtain⟨q,hwo⟩:=g n p (by rw[h.mine];omega) (by rw[h.mine];omega);have a:∀{o:Nat} {H:Value},w.cell? (dA n o)=some H->W.cell? (dA n o)=some H:=λhv=>(World.cell?_of_block (w:=w) (a:=dA n _) q).trans hv;have I:∀s c j,¬(fJ s c j=4*m+2\/fJ s c j=4*m+4):=λs c j=>aP (jJ s c j)
 have r:∀b,b<w.heap.size->own b=0->W.heap[b]?=w.heap[b]?/\own' b=0:=λb d t=>by
  obtain⟨q1,q2⟩:=g b d (by rw[t];omega) (by rw[t];omega);exact⟨q1,q2.trans t⟩
 have hgs:=h.jq.size;refine⟨own',K,?_,r,O,P⟩;refine⟨hwo.trans h.mine,⟨Y,by rw[q];exact Z⟩,λo=>(World.frozen?_of_block (w:=w) (a:=dA n o) q).trans (h.fr o),⟨x,a y,Zh (Q aR x y) u⟩,⟨z,a A,R aR z A⟩,⟨B,a C,T aR aR B C⟩,⟨D,a E,U aR (λc j=>I 0 c j) D E⟩,⟨F,a G,V aR (λc j=>I 1 c j) F G⟩,a h.at_,a h.n,a h.ex,λj x' m' S2 e=>?_,h.jq.fT (λb d p=>(r b p (h.g0 b d)).1),λb d=>(r b aR (h.g0 b d)).2⟩
 by_cases J:m=j
 ·subst J;rw[List.getElem?_set_self (aG u).1]at e;simp at e;obtain⟨rfl,rfl,rfl⟩:=e;exact⟨M,N⟩
 ·rw[List.getElem?_set_ne J]at e;exact X aR j x' m' S2 aR aR e
theorem zK {R:Except (Nat × Nat) Doc.dO}{r:Doc.dO × Bool}(h:R.map (λs=>(s,false))=.ok r):r.2=false:=by
 cases R with
 | error x=>cases h
 | ok s=>injection h with h;rw[<-h]
theorem V3 {S:Doc.dO}{r:Doc.dO × Bool}(h:Doc.run S n A=.ok r)(a:r.2=true):r.1=S:=by
 cases A with
 | nil=>cases h
 | cons k rest=>
  simp only[Doc.run]at h;split at h
  ·rw[zK h]at a;cases a
  ·split at h
   ·rw[zK h]at a;cases a
   ·split at h
    ·rw[zK h]at a;cases a
    ·split at h
     ·rw[zK h]at a;cases a
     ·split at h
      ·split at h
       ·cases h
       ·injection h with h;rw[<-h]
      ·split at h
       ·split at h
        ·cases h
        ·injection h with h;rw[<-h]at a;cases a
       ·cases h
theorem Ur {S:Doc.dO}{l:Doc.Str}{r:Doc.dO × Bool}(h:Doc.lK S l=.ok r)(a:r.2=true):r.1=S:=by
 unfold Doc.lK at h;split at h
 ·cases h
 ·split at h
  ·cases h
  ·exact V3 h a
theorem Uq {S a:Doc.dO}{l:Doc.Str}(h:jg S (Doc.lK S l)=(n,m,true,a)):n=0/\a=S:=by
 cases hd:Doc.lK S l with
 | error x=>rw[hd]at h;simp[jg]at h
 | ok r=>
  rw[hd]at h;simp[jg]at h;obtain⟨b,_,c,d⟩:=h;exact⟨b.symm,by rw[<-d];exact Ur hd c⟩
theorem Xw {S a:Doc.dO}{l:Doc.Str}(h:jg S (Doc.lK S l)=(n,m,false,a)):KL S l 0=(rep n m 0 0,a):=by
 unfold KL;rw[if_neg aR];cases hd:Doc.lK S l with
 | error x=>
  rw[hd]at h;simp[jg]at h;obtain⟨rfl,rfl,rfl⟩:=h;rfl
 | ok r=>
  rw[hd]at h;simp[jg]at h;obtain⟨rfl,rfl,b,rfl⟩:=h;simp[b]
theorem adG {S a:Doc.dO}{l:Doc.Str}{c:Bool}(b:Doc.iq S)(h:jg S (Doc.lK S l)=(n,m,c,a)):Doc.iq a:=by
 cases hd:Doc.lK S l with
 | error x=>
  rw[hd]at h;simp[jg]at h;rw[<-h.2.2.2];exact b
 | ok r=>
  rw[hd]at h;simp[jg]at h;rw[<-h.2.2.2];exact Doc.JI b hd
theorem QR (l g o j x m:Nat)(own:Own)(M:kK)(S:Doc.dO)(s:dN)(bu:Int)(w:World)(A:gp w own l M)(J:eD own w)(B:M.eQ[j]?=some (x,m,S))(v:Doc.iq S)(K:s.length<=1000000)(L:own g=3)(N:w.cell? (dA g o)=some (dK x 0))(p1:w.cell? (dA g (o+1))=some (dK m 0)) :
 dH 41 #[dK l 0,dK g o,dD s,dw bu,dP] w λt w'=>t=dF (fu)/\∃e,Doc.iq e/\iT w w' own l { M with eQ:=M.eQ.set j (x,m,e) }:=by
 obtain⟨O,Q⟩:=A.eQ j x m S B;obtain⟨E,P,C,e,y⟩:∃E P C e,jg S (Doc.lK S s)=(E,P,C,e):=⟨_,_,_,_,rfl⟩;have D:=dn (ad3 m (4*j+4) own S s w Q J aR v K);rw[y]at D;have R:=dn y;have T:=dn (adG v y);have hgl:=aj N;have n:=dn A;have U:=dn B;have V:=dn O;have HG:=dn L;have KZ:=dn v;have HP0:=dn N;have HP1:=dn p1;clear A J B v L O Q y;cases C with
 | true=>
  obtain⟨rfl,rfl⟩:=Uq R.o;go_enter func41,ntmps41;go_wp2_with fail;refine D.o.mono ?_;rintro t a ⟨p,h,rfl,u⟩;have c:=dn h;have F:=dn u;clear h u;go_wp2;go_ret
  have G:Hid (iT w a own l { M with eQ:=M.eQ.set j (x,m,e) }):=
   n.o.Mw (own':=p) U.o (λb f _ H=>⟨c.o.block b f H,c.o.ext b f⟩) c.o.fresh (V.o.fr' c.o aR aR) F.o c.o.size ⟨c.o.os,c.o.tape,c.o.output⟩
  exact⟨rfl,e,T.o,G.o.more ((Below.refl a.heap.size a).alloc ae _)⟩
 | false=>
  have HDR:=dn (Xw R.o);go_enter func41,ntmps41;go_wp2_with fail;refine D.o.mono ?_;rintro t a ⟨p,h,rfl,u⟩;have c:=dn h;have F:=dn u;have hsz1:=h.size;have q0:a.cell? (dA g o)=some (dK x 0):=(World.cell?_of_block (w:=w) (a:=dA g o) (h.block g hgl (by rw[HG.o];omega))).trans HP0.o;have aic:g<a.heap.size:=aR;have hgs:=n.o.jq.size;have W:gZ a:=n.o.jq.fT (λb f I=>h.block b I (by rw[n.o.g0 b f];omega));have X:∀b,b<2->p b=0:=λb f=>by rw[h.ext b aR];exact n.o.g0 b f
  clear h u;obtain⟨k,q⟩:∃k,a.alloc (.cells #[dw (E:Int),dw (P:Int),dP] 147)=k:=⟨_,rfl⟩;have r:dB a k:=aoF;have q3:k.cell? (dA a.heap.size 0)=some (dw (E:Int)):=amB;have q4:k.cell? (dA a.heap.size 1)=some (dw (P:Int)):=amB;have q5:k.cell? (dA a.heap.size 2)=some (dP):=amB;have q6:k.cell? (dA g o)=some (dK x 0):=r.dL q0 aic;have z:=dn r;have Y:=dn (PW x (4*j+2) p S s 0 k ((V.o.fr' c.o aR aR).below r) (λb f=>c.o.fresh b (aP r.size)) aR KZ.o (W.fT (λb _ I=>r.block b I)) X K);rw[HDR.o]at Y;have HWA:=dn q;clear r W X q;obtain⟨bE,tE⟩:=aK (((E:Int)==0));cases bE
  all_goals
   go_wp2_with fail;rw[HWA.o];refine Y.o.mono ?_;rintro t i ⟨pI,d,rfl,Z⟩;simp only[rep];have r0:i.cell? (dA a.heap.size 0)=some (dw (E:Int)):=d.cell (p:=dA a.heap.size 0) q3 aoY;have r1:i.cell? (dA a.heap.size 1)=some (dw (P:Int)):=d.cell (p:=dA a.heap.size 1) q4 aoY;have hr3:a.heap.size<i.heap.size:=aj r0
   have G:Hid (iT w i own l { M with eQ:=M.eQ.set j (x,m,e) }):=by
    have hsA:=z.o.size;have hs3:=d.size;refine n.o.Mw (own':=pI) U.o (λb f h2 H=>?_) d.fresh Z ((F.o.below z.o).fr' d aR aR) aR (Same.trans (Same.trans ⟨c.o.os,c.o.tape,c.o.output⟩ (Same.below z.o)) ⟨d.os,d.tape,d.output⟩);have k1:=c.o.ext b f;refine⟨?_,?_⟩
    ·rw[d.block b aR (by rw[k1];exact h2),z.o.block b aR,c.o.block b f H]
    ·rw[d.ext b aR,k1]
   clear d Z;go_wp2_with fail;refine(Jo i.heap.size (i.heap.size+1) E P 0 0 _ ?r1 ?r2).mono ?_
   case r1=>exact⟨aW,aW,aW,aW,aW,aW⟩
   case r2=>exact⟨aW,aW,aW,aW,aW,aW⟩
   rintro t w5 ⟨rfl,hd⟩
   have E8:Hid (iT w w5 own l { M with eQ:=M.eQ.set j (x,m,e) }):=by
    obtain⟨bg,rfl⟩:=hd;exact G.o.more (below_drewN (((Below.refl i.heap.size i).alloc ae _).alloc aW _) _)
   clear hd;go_wp2;go_ret;exact⟨rfl,e,T.o,E8.o⟩
def sj (kd:Int)(e:Ending):Prop:=∃v:Int,e=dF (dw v)/\(kd=3->v=16)/\(kd=4->v=32)
theorem Mv {own:Own}{k:Nat}{s:Nat × Nat × Doc.dO}(h:gp w own n L)(a:w.cell? (dA n 0)=some v)(f:L.eQ[k]?=some s):∃g c,v=dJ g L.eQ.length c/\L.eQ.length<=c/\c<=2 ^ 63-1/\own g=3/\w.cell? (dA g (k*2))=some (dK s.1 0)/\w.cell? (dA g (k*2+1))=some (dK s.2.1 0):=by
 obtain⟨z,i,j⟩:=h.s;rw[i]at a;injection a with a
 subst a;obtain⟨d,l⟩:=aG f;obtain⟨A,m,a,o,e,p⟩:=j.sl;unfold maxLen at e;obtain⟨g,q,r,t⟩:=p k d;obtain⟨x,_,u,b⟩:=t d;have y:x=[dK (L.eQ[k].1) 0,dK (L.eQ[k].2.1) 0]:=u;subst y;rw[l]at b;exact⟨g,m,by rw[a,q],o,e,r,b 0 _ aR rfl,b 1 _ aR rfl⟩
theorem Zy (n:Nat)(own:Own)(M:kK)(o:kv)(bn:Nat)(w:World)(h:gp w own n M)(D:iK bn M)(ho:vN o) :
 dH 21 #[dK n 0,o.val] w λZ f=>sj o.kind Z/\dB w f:=by
 obtain⟨v0,a0,b0⟩:=h.s;have HSG:=dn (λk s p=>Mv (k:=k) (s:=s) h a0 p);obtain⟨bA,cp,rfl,p1,p2⟩:=b0.form;have uU:=dn (λW (hb:dB w W)=>Nj n own M o W (h.keep (λbg hb'=>⟨hb.block bg hb',rfl⟩) (h.jq.fT (λbg _ hlt=>hb.block bg hlt))) ho D.word (aQ D.words D.lim));obtain⟨a,e,H,oc,Q,ot⟩:=o;obtain⟨⟨xy,xw⟩,⟨pQ,sV⟩,_,hos,ht⟩:=ho;simp only at xy xw pQ sV ht hos;simp only[kv.val]at uU;obtain⟨b,q⟩:∃b,w.alloc (.cells #[dw a,dw e,dw H,dw oc,dD Q,dD ot] 33)=b:=⟨_,rfl⟩;have hb1:dB w b:=aoF;have d:=dn hb1;have Am:=h.lt;have I:=hb1.dL a0 Am;have f0:b.dQ w.heap.size 0=some (dw a):=amB;have f1:b.dQ w.heap.size 1=some (dw e):=amB;have f2:b.dQ w.heap.size 2=some (dw H):=amB;have f3:b.dQ w.heap.size 3=some (dw oc):=amB;have f5:b.dQ w.heap.size 5=some (dD ot):=amB;have f4:b.dQ w.heap.size 4=some (dD Q):=amB;have BF:=dn (fun(m:Nat) W (g:0<m) (l:m<=1000000)=>kJ e m W xy xw g aR);have Pn:=dn (fun(m:Nat) W (g:0<m) (l:m<=1000000)=>kJ H m W pQ sV g aR);have hls:M.eQ.length<=100000:=aQ D.eQ D.lim;simp only[kv.val];clear h D b0 a0 hb1;have r:Hid (∀R,a≠3->a≠4->sj a (dF (dw R))):=λR g l=>⟨R,rfl,λh=>absurd h g,λh=>absurd h l⟩
 by_cases g:a=1
 ·have c:Hid (sj a (dF (dw 256))):=⟨256,rfl,λh=>aR,λh=>aR⟩;subst g;exact apH
 ·have t1:(a==1)=false:=ak g
  by_cases l:a=2
  ·by_cases t:M.eQ.length=0
   ·rw[t]at I;have c:Hid (sj a (dF (dw 0))):=r.o 0 aR aR;subst l;clear t;exact apH
   ·have u:0<M.eQ.length:=aR;have v:=oF e u;obtain⟨s,p⟩:∃s,M.eQ[pk e M.eQ.length]?=some s:=⟨_,aF v⟩;have x:=dn (λW=>BF.o M.eQ.length W u aR);obtain⟨i,c0,hv,k1,k2,_,y,z⟩:=HSG.o _ s p;obtain⟨k,J⟩:=aK (pk e M.eQ.length);rw[J]at x v y z;injection hv with hv1 _ hv2
    subst hv1 hv2;have K:Hid (i<w.heap.size):=aj y;have d2:=d.o.dL z K.o;obtain⟨N,L⟩:=aK M.eQ.length;rw[L]at x v I hls u k1 p1;clear t J p L y z;have hkk:(k:Int)<(N:Int):=aR;subst l;go_enter func21,ntmps21;go_wp2_with fail;go_region_held3 (fun f=>f.dQ n 0=some (dJ i N cp)/\f.dQ w.heap.size 1=some (dw e)/\f.dQ i (k*2+1)=some (dK s.2.1 0)) (go_keep) (first|(go_at_call 38;refine(x.o _).dX fun S hw3=>?_;subst hw3));go_wp2_with fail;refine(P5 s.2.1 Q _ aR).dX λw4 O=>?_;have j:=dn O;clear O;obtain⟨A,P⟩:=aK (Doc.asks Q);rw[P];clear P;cases A with
    | true=>
     exact aqY
    | false=>
     exact aqY
  ·have t2:(a==2)=false:=ak l
   by_cases T:a=15
   ·by_cases t:M.eQ.length=0
    ·rw[t]at I;have c:Hid (sj a (dF (dw 0))):=r.o 0 aR aR;subst T;clear t;exact apH
    ·have u:0<M.eQ.length:=aR;have v:=oF e u;obtain⟨s,p⟩:∃s,M.eQ[pk e M.eQ.length]?=some s:=⟨_,aF v⟩;have x:=dn (λW=>BF.o M.eQ.length W u aR);obtain⟨i,c0,hv,k1,k2,_,y,z⟩:=HSG.o _ s p;obtain⟨k,J⟩:=aK (pk e M.eQ.length);rw[J]at x v y z;injection hv with hv1 _ hv2
     subst hv1 hv2;have K:Hid (i<w.heap.size):=aj y;have d2:=d.o.dL z K.o;obtain⟨N,L⟩:=aK M.eQ.length;rw[L]at x v I hls u k1 p1;clear t J p L y z;have hkk:(k:Int)<(N:Int):=aR;subst T;go_enter func21,ntmps21;go_wp2_with fail;refine(uU.o b d.o).mono ?_;rintro Z E ⟨⟨bq,rfl,hy⟩,B⟩;have HB2:Hid (dB w E):=d.o.dW B;have Ue:w.heap.size<b.heap.size:=aj f0;have x0:=B.dL I (by show n<b.heap.size;omega);have x1:=B.dL f1 Ue;have x2:=B.dL f2 Ue;have x3:=B.dL d2 (by show i<b.heap.size;have:=K.o;omega);have akP:b.heap.size<=E.heap.size:=B.size;clear B;go_wp2_with fail;refine(Ed bq _ aR).mono ?_;rintro Z S ⟨⟨R,F,rfl,hown,hpos,hlen,hcnt⟩,G⟩;have HB3:Hid (dB w S):=HB2.o.dW G;obtain⟨ao,cap,rfl,m1,m2,hel⟩:=eZ hown;have U:=oF H hpos;have rZ:=dn (λW=>Pn.o F.length W hpos aR);obtain⟨g5,rfl,Fx,_⟩:=hel _ U;obtain⟨C,hj⟩:=aK (pk H F.length);rw[hj]at rZ U Fx;have hyl:=hlen (F[C]) (List.getElem_mem _);have hc6:S.cell? (dA g5 C)=some (dD (F[C])):=by rw[Fx,List.getElem?_map,aF U];rfl
     have y0:=G.dL x0 (by show n<E.heap.size;omega);have y1:=G.dL x1 (by show w.heap.size<E.heap.size;omega);have y2:=G.dL x2 (by show w.heap.size<E.heap.size;omega);have y3:=G.dL x3 (by show i<E.heap.size;have:=K.o;omega);obtain⟨V,htx⟩:=aK (F[C]);rw[htx]at hc6 hyl;obtain⟨NW,Xg⟩:=aK F.length;rw[Xg]at rZ U m1 hpos hcnt ⊢;have hjj:(C:Int)<(NW:Int):=aR;clear G hown hel hlen hj Fx htx Xg;go_wp2_with fail;refine(rZ.o _).dX λw4 hw4=>?_;subst hw4;go_wp2_with fail;go_region_held3 (fun f=>f.dQ n 0=some (dJ i N cp)/\f.dQ w.heap.size 1=some (dw e)/\f.dQ i (k*2+1)=some (dK s.2.1 0)) (go_keep) (first|(go_at_call 38;refine(x.o _).dX fun S hw3=>?_;subst hw3));go_wp2_with fail;refine(P5 s.2.1 V _ aR).dX λw9 O=>?_;have j:=dn O;clear O;obtain⟨A,P⟩:=aK (Doc.asks V);rw[P];clear P;cases A with
     | true=>
      exact aqU
     | false=>
      exact aqU
   ·have t15:(a==15)=false:=ak T
    by_cases h16:a=16
    ·have c:Hid (sj a (dF (dw 8))):=⟨8,rfl,λh=>aR,λh=>aR⟩;subst h16;exact apH
    ·have t16:(a==16)=false:=ak h16
     by_cases X:a=3
     ·have c:Hid (sj a (dF (dw 16))):=⟨16,rfl,λh=>aR,λh=>aR⟩;subst X;exact apH
     ·have t3:(a==3)=false:=ak X
      by_cases Y:a=4
      ·have c:Hid (sj a (dF (dw 32))):=⟨32,rfl,λh=>aR,λh=>aR⟩;subst Y;exact apH
      ·have t4:(a==4)=false:=ak Y
       by_cases h5:a=5
       ·have c:Hid (sj a (dF (dw 64))):=⟨64,rfl,λh=>aR,λh=>aR⟩;subst h5;exact apH
       ·have t5:(a==5)=false:=ak h5
        by_cases h6:a=6
        ·have c:Hid (sj a (dF (dw 128))):=⟨128,rfl,λh=>aR,λh=>aR⟩;subst h6;exact apH
        ·have t6:(a==6)=false:=ak h6;have c:Hid (sj a (dF (dw 0))):=r.o 0 X Y;clear g l T h16 X Y h5 h6;exact apH
structure UN (w:World)(g o:Nat)(v:kv):Prop where
 kind:w.cell? (dA g o)=some (dw v.kind)
 a:w.cell? (dA g (o+1))=some (dw v.a)
 b:w.cell? (dA g (o+2))=some (dw v.b)
 c:w.cell? (dA g (o+3))=some (dw v.c)
 s:w.cell? (dA g (o+4))=some (dD v.s)
 t:w.cell? (dA g (o+5))=some (dD v.t)
structure xZ (w:World)(ao:eu)(cap:Nat)(ops:List kv):Prop where
 le:ops.length<=cap
 max:cap<=2 ^ 63-1
 get:∀i v,ops[i]?=some v->∃g o,ao=some (dA g o)/\UN w g (o+i*6) v
theorem UN.same {o:Nat}{v:kv}(h:UN w n o v)(a:W.heap[n]?=w.heap[n]?):UN W n o v:=by
 have q:∀i,W.cell? (dA n i)=w.cell? (dA n i):=λi=>World.cell?_of_block (w:=w) (a:=dA n i) a;exact⟨(q _).trans h.kind,(q _).trans h.a,(q _).trans h.b,(q _).trans h.c,(q _).trans h.s,(q _).trans h.t⟩
theorem xZ.same {c:List kv}(h:xZ w a n c)(e:∀b,b<w.heap.size->W.heap[b]?=w.heap[b]?):xZ W a n c:=
 ⟨h.le,h.max,λi v f=>by
  obtain⟨g,o,j,d⟩:=h.get i v f;exact⟨g,o,j,d.same (e g (aj d.kind))⟩⟩
def l8:List kv->Nat
 | []=>0
 | o::os=>o.s.length+o.t.length+l8 os
theorem Qr {a:List kv}{v:kv}(h:a[n]?=some v):l8 (a.take (n+1))=l8 (a.take n)+v.s.length+v.t.length:=by
 induction a generalizing n with
 | nil=>simp at h
 | cons o c b=>
  cases n with
  | zero=>simp at h;subst h;simp[l8]
  | succ n=>
   simp at h;have:=b h;simp only[List.take_succ_cons,l8];exact aR
theorem SX {a:List kv}{v:kv}(h:v∈a):v.s.length+v.t.length<=l8 a:=by
 induction a with
 | nil=>simp at h
 | cons o c b=>
  rcases List.mem_cons.1 h with rfl|h
  ·simp only[l8];exact aR
  ·have:=b h;simp only[l8];exact aR
def IJ (ops:List kv)(e:Ending):Prop:=∃b:Bool,e=dF (.bool b)/\(b=true->ops.length<=65536/\l8 ops<=65536)
theorem VS (q:eu)(s b:Nat)(a:List kv)(w:World)(h:xZ w q s a)(g:a.length=b)(l:∀v∈a,v.s.length<=1000000000000000/\v.t.length<=1000000000000000) :
 dH 13 #[.slice q b s] w λB C=>IJ a B/\gW w C:=by
 have D:=h.le;have Q:=h.max;rw[g]at D;have E:=dn h.get;have F:=dn l;have t:Hid (IJ a (dF (dP))):=⟨false,rfl,aW⟩;have u:=dn g
 by_cases j:65536<b
 ·clear h g l;go_enter func13,ntmps13;go_wp2;go_ret;exact⟨t.o,gW.refl _⟩
 ·have G:Hid (l8 a<=65536->IJ a (dF (fu))):=λm=>⟨true,rfl,λ_=>⟨aR,m⟩⟩;have H:b<=65536:=aR;clear h g l j;go_enter func13,ntmps13;go_wp2_with fail
  go_loopw [3,4] (fun I r wr=>∃(i z:Nat),I=dw z/\r=dw i/\i<=b/\z=b+l8 (a.take i)/\z<=65536/\gW w wr) (fun _ r _=>b-(intOf r).toNat)
  ·exact⟨0,b,rfl,rfl,aR,by simp[l8],H,gW.refl _⟩
  case round=>
   obtain⟨i,z,rfl,rfl,hi,n,R,c⟩:=hrel;have d:=dn c;have x:=dn n
   by_cases J:i<b
   ·obtain⟨v,k⟩:∃v,a[i]?=some v:=⟨_,aF (by rw[u.o];exact J)⟩;obtain⟨y,o,rfl,p⟩:=E.o i v k;obtain⟨K,L⟩:=F.o v (List.mem_of_getElem? k);have M:=(c.cell (dA y (o+i*6+4))).trans p.s;have N:=(c.cell (dA y (o+i*6+5))).trans p.t
    have A:Hid (z+v.s.length+v.t.length=b+l8 (a.take (i+1))):=by
     show _=_;rw[Qr k,x.o];exact aR
    obtain⟨S,T,U,V,e,f⟩:=v;simp only at M N K L A;have W:(i:Int)<(b:Int):=aR;clear c k p n
    by_cases j:65536<z+e.length+f.length
    ·have O:(65536:Int)<(z:Int)+(e.length:Int)+(f.length:Int):=aR;clear j;go_wp2_with fail;go_quiet (fail);go_wp2;go_ret;exact⟨t.o,by first|exact d.o.more _|exact d.o⟩
    ·have O:(z:Int)+(e.length:Int)+(f.length:Int)<=65536:=aR;have X:¬(65536:Int)<(z:Int)+(e.length:Int)+(f.length:Int):=aR;clear j;go_wp2_with fail;go_quiet (fail);go_wp2;go_roundw
     ·exact⟨i+1,z+e.length+f.length,bL,bL,aR,A.o,aR,by first|exact d.o.more _|exact d.o⟩
     ·exact aph
   ·have P:Hid (IJ a (dF (fu))):=G.o (by
     have m:=x.o;rw[show i=a.length by rw[u.o];omega,List.take_length]at m;omega)
    clear c n;go_wp2;go_ret;exact⟨P.o,d.o⟩
def kK.zero:kK:=⟨[],[],[],[],0,0,0⟩
theorem iK.zero:iK 0 kK.zero:=⟨aR,ama,ama,ama,ama,ama,ama,ama,ama,ama,ama,ama,ama⟩
theorem iJ.nil (w:World)(own:Own)(a:Nat):iJ w own a (dE) []:=
 ⟨⟨[],World.ownsRow_nil _ _ _ _,rfl,λk u L b=>by simp at b⟩,λd c=>by simp[Value.ownBlock]at c⟩
theorem gp.new (a:gZ w):gp (w.alloc (.cells #[dE,dE,dE,dE,dE,dw 0,dw 0,dw 0] 48)) (dG (λ_=>0) w.heap.size 1) w.heap.size kK.zero:=by
 have f:=a.size;have b:dB w (w.alloc (.cells #[dE,dE,dE,dE,dE,dw 0,dw 0,dw 0] 48)):=ai;refine⟨amQ,⟨#[dE,dE,dE,dE,dE,dw 0,dw 0,dw 0],by first|(simp;done)|(simp[World.heap_alloc];done)|(show(w.heap.push _)[w.heap.size]?=_;rw[Array.getElem?_push_size])⟩,λo=>aW,⟨dE,aW,eU.nil _ _ _ _ _ _⟩,⟨dE,aW,eU.nil _ _ _ _ _ _⟩,⟨dE,aW,eU.nil _ _ _ _ _ _⟩,⟨dE,aW,iJ.nil _ _ _⟩,⟨dE,aW,iJ.nil _ _ _⟩,ama,ama,ama,λi x m S d=>by simp[kK.zero]at d,a.fT (λc _ e=>b.block c e),λc b=>?_⟩;unfold dG;rw[if_neg aR]
def oC (w:World)(g o:Nat)(v0 v1 v2 v3:Value):World:=(((w.setCell (dA g o) v0).setCell (dA g (o+1)) v1).setCell (dA g (o+2)) v2).setCell (dA g (o+3)) v3
theorem wE (w:World)(g o:Nat)(c d e f:Value)(b:Nat)(a:b≠g):(oC w g o c d e f).heap[b]?=w.heap[b]?:=by
 unfold oC;rw[aD a,aD a,aD a,aD a]
theorem Ki (w:World)(g o:Nat)(a b c d:Value):(oC w g o a b c d).heap.size=w.heap.size:=by
 unfold oC;exact amn
theorem Wd (w:World)(g o:Nat)(a c d e:Value)(b m:Nat)(f:b≠g):(oC w g o a c d e).cell? (dA b m)=w.cell? (dA b m):=World.cell?_of_block (wE w g o a c d e b f)
theorem Qj (w:World)(g o:Nat)(b c d e:Value)(a:Addr):(oC w g o b c d e).frozen? a=w.frozen? a:=by
 unfold oC;rw[World.frozen?_setCell,World.frozen?_setCell,World.frozen?_setCell,World.frozen?_setCell]
theorem gp.adf {own:Own}{i:Nat}{e:fU}{r x l B h y K C:Nat}(D:gp w own n L)(_hB:iK m L)(z:L.ls[k]?=some c)(hi:i<c.length)(M:w.cell? (dA n 3)=some (dJ j L.ls.length N))(O:w.cell? (dA n 4)=some (dJ r L.ls.length x))
 (d3:w.cell? (dA j k)=some (dJ l c.length B)) (d4:w.cell? (dA r k)=some (dJ h c.length y)) (s3:lS w own (fJ 0 k (i+1)) (.slice a e.args.length K) e.args) (P:lS w own (fJ 1 k (i+1)) (.slice d e.args.length C) e.args)
 (Q:oC w l (i*4) (dw e.sym) (.bool e.other) (.slice a e.args.length K) (eO e.val)=W) (R:oC W h (i*4) (dw e.sym) (.bool e.other) (.slice d e.args.length C) (eO e.val)=u) :
 gp u own n { L with ls:=L.ls.set k (c.set i e) }:=by
 obtain⟨v3,b3,S⟩:=D.ls;obtain rfl:v3=dJ j L.ls.length N:=Option.some.inj (b3.symm.trans M);obtain⟨v4,b4,E⟩:=D.lw;obtain rfl:v4=dJ r L.ls.length x:=Option.some.inj (b4.symm.trans O);obtain⟨g3',c3',u3,s,_,_,o3,T,F,m3⟩:=S.pJ z
 have Ii:j=g3':=by
  injection s with s;injection s with s;injection s
 rw[<-Ii]at T;obtain rfl:u3=dJ l c.length B:=Option.some.inj (T.symm.trans d3);obtain⟨g4',c4',u4,t,_,_,o4,U,G,m4⟩:=E.pJ z
 have e2':r=g4':=by
  injection t with t;injection t with t;injection t
 rw[<-e2']at U;obtain rfl:u4=dJ h c.length y:=Option.some.inj (U.symm.trans d4);have H:own l=fJ 0 k 0:=F.head l rfl;have A:own h=fJ 1 k 0:=G.head h rfl;obtain⟨q1,q2,q3,V,X⟩:=F.pJ (aF hi);obtain⟨r1,r2,r3,r4,Y⟩:=G.pJ (aF hi)
 have hv3:l=q1:=by
  have f:=X.val;injection f with f
  injection f with f;injection f
 have hv4:h=r1:=by
  have f:=Y.val;injection f with f
  injection f with f;injection f
 obtain⟨aiB,Z⟩:=X.type;obtain⟨afK,hgm⟩:=Y.type;rw[<-hv3]at Z;rw[<-hv4]at hgm;have o:∀b,b≠l->W.heap[b]?=w.heap[b]?:=λb p=>by rw[<-Q];exact wE _ _ _ _ _ _ _ b p
 have I:∀b,b≠h->u.heap[b]?=W.heap[b]?:=λb p=>by rw[<-R];exact wE _ _ _ _ _ _ _ b p
 have p3:jU W own (fJ 0 k) (dJ l c.length B) (c.set i e):=by
  rw[<-Q];unfold oC;exact F.put hi s3
 have s0:iJ W own 0 (dJ j L.ls.length N) (L.ls.set k (c.set i e)):=S.put z m3 Z H o p3
 have v:∀b,(own b=9+2*1\/∃k i,own b=fJ 1 k i)->b≠l:=λb g q=>by
  rw[q,H]at g;rcases g with g|⟨k',J,g⟩
  ·have:=jJ 0 k 0;exact aR
  ·unfold fJ at g;exact aR
 have hnm:∀b,(own b=9+2*0\/∃k i,own b=fJ 0 k i)->b≠h:=λb g q=>by
  rw[q,A]at g;rcases g with g|⟨k',J,g⟩
  ·have:=jJ 1 k 0;exact aR
  ·unfold fJ at g;exact aR
 have s1:iJ u own 0 (dJ j L.ls.length N) (L.ls.set k (c.set i e)):=s0.keep (λb _ g=>⟨I b (hnm b g),rfl⟩);have V:iJ W own 1 (dJ r L.ls.length x) L.ls:=E.keep (λb _ g=>⟨o b (v b g),rfl⟩);have p4:jU W own (fJ 1 k) (dJ h c.length y) c:=G.keep (λb _ ⟨J,_,g⟩=>⟨o b (v b (.inr ⟨k,J,g⟩)),rfl⟩);have s4':lS W own (fJ 1 k (i+1)) (.slice d e.args.length C) e.args:=P.keep (λb p=>⟨o b (v b (.inr ⟨k,i+1,P.2 b p⟩)),rfl⟩)
 have p5:jU u own (fJ 1 k) (dJ h c.length y) (c.set i e):=by
  rw[<-R];unfold oC;exact p4.put hi s4'
 have aib:W.heap[h]?=some (.cells afK 142 (0,0)):=(o h (v h (.inr ⟨k,0,A⟩))).trans hgm
 have s2:iJ u own 1 (dJ r L.ls.length x) (L.ls.set k (c.set i e)):=
  V.put z (λvs hvs=>m4 vs (DI hvs (λb p=>o b (v b (.inl (E.head b p)))))) aib A I p5
 refine D.ME (λb _ hn=>?_) (λbg f=>?_) (λbg f=>?_)
 ·rw[I b (λq=>hn 1 k 0 (by rw[q];exact A)),o b (λq=>hn 0 k 0 (by rw[q];exact H))]
 ·rw[M]at f;injection f with f;rw[<-f];exact s1
 ·rw[O]at f;injection f with f;rw[<-f];exact s2
structure PY (w w':World)(own own':Own)(c:Nat)(e:fU)(a:eu)(cp:Nat):Prop where
 ek:dB w w'
 lt:w.heap.size<w'.heap.size
 ext:∀b,b<w.heap.size->own' b=own b
 fresh:eD own' w'
 c0:w'.cell? (dA w.heap.size 0)=some (dw e.sym)
 c1:w'.cell? (dA w.heap.size 1)=some (.bool e.other)
 c2:w'.cell? (dA w.heap.size 2)=some (.slice a e.args.length cp)
 c3:w'.cell? (dA w.heap.size 3)=some (eO e.val)
 args:lS w' own' c (.slice a e.args.length cp) e.args
def Rq (c:Nat)(i:Nat):Nat:=if i=0 then 0 else c+(i-1)
theorem Rp (a:0<n):∀i j,i<=1->j<=1->Rq n i=Rq n j->i=j:=by
 intro i j hi b h;unfold Rq at h;split at h<;>split at h<;>omega
def AV (w w':World)(own:Own)(c:Nat)(e:fU)(x:Ending):Prop:=x=dF (dJ w.heap.size 1 1)/\∃own' a cp,PY w w' own own' c e a cp
theorem AV.Q9 {own:Own}{e:fU}(j:E9 w W own (Rq n) [e] h):AV w W own n e h:=by
 obtain⟨k,l,b⟩:=j;refine⟨k,l,?_⟩;obtain⟨m,o,f,p,q⟩:=b.row;have u:m.length=1:=f;obtain⟨v,x,a,_,_,_,r⟩:=Row.fq o f.symm p;obtain⟨y,s,c⟩:=r 0 aR;rw[s]at a;injection a with a
 injection a with a;injection a with a;subst a;obtain⟨g,i,d,t⟩:=q 0 _ e aW (aF aR) rfl;refine⟨g,i,b.ek,b.lt,b.ext,b.fresh,?_,?_,?_,?_,t⟩
 ·have:=c 0 aR (dw e.sym) anj;simpa using this
 ·have:=c 1 aR (.bool e.other) anj;simpa using this
 ·have:=c 2 aR (.slice g e.args.length i) anj;simpa using this
 ·have:=c 3 aR (eO e.val) anj;simpa using this
theorem AV.drawn {own:Own}{e:fU}(b:AV W u own n e h)(c:gW w W):AV w u own n e h:=by
 obtain⟨q,rfl⟩:=c;obtain⟨d,f,g,i,a⟩:=b;have j:(w.drewN q).heap.size=w.heap.size:=rfl;refine⟨d,f,g,i,?_⟩;exact⟨(below_drewN af q).trans a.ek,a.lt,a.ext,a.fresh,a.c0,a.c1,a.c2,a.c3,a.args⟩
theorem Zm {own:Own}{e:fU}(j:eU w own 7 142 4 (Dz w own) v c)(k:c[n]?=some e)(l:c.length=n+1):∃g a,v=dJ g (n+1) a/\n+1<=a/\a<=2 ^ 63-1/\gI w (some (dA g (n*4))) (a-n) [e]:=by
 obtain⟨m,o,d,p,D⟩:=j;have f:=d.len;obtain⟨E,q,r,F,h,_,s⟩:=Row.fq o f.symm p;obtain⟨g,t,u⟩:=s n aR;unfold maxLen at h;refine⟨g,q,by rw[r,t,f,l],aR,h,aX,aR,λx G b=>?_⟩
 have hi:x=0:=by
  have:=(aG b).1;simp at this;exact this
 subst hi;simp at b;subst b;refine⟨g,n*4,rfl,?_⟩
 have y:sI w own 0 (m[n]' aR) e:=by
  have i:=d.get n aR aR;rw[(aG k).2]at i;exact i
 have:=y.at (g:=g) (o:=n*4) (λz A B C=>u z B A C);simpa using this
