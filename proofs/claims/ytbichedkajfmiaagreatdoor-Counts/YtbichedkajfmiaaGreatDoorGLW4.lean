import Derived.BigRegion
import Derived.Test.YtbichedkajfmiaaGreatDoorGLW2
import Derived.Test.YtbichedkajfmiaaGreatDoorGPV2
import Derived.Test.YtbichedkajfmiaaGreatDoorGRef26
import Derived.Test.YtbichedkajfmiaaGreatDoorC
set_option maxRecDepth 100000
set_option maxHeartbeats 16000000
namespace Go.Proofs.YtbichedkajfmiaaGreatDoor
open Go.RowKit
variable {C c:List fU}{N i j k m n:Nat}{O Q o:Own}{V v:Value}{W u w:World}{a:Option Addr}{b:List Value}{e:TypeId}{x:List UInt8}
def eO (side k i:Nat):Nat:=13+2*side+4*(k*262144+i)
theorem Cw (a:n<2)(b:i<2)(hi:k<262144)(c:N<262144)(h:eO n m k=eO i j N):n=i/\m=j/\k=N:=by
 unfold eO at h;refine⟨?_,?_,?_⟩<;>omega
theorem iP (s k i:Nat):eO s k i % 2=1/\13<=eO s k i:=by unfold eO;omega
structure jv where
 dM:List (Nat × Nat × Doc.dB)
 words:List (List UInt8)
 reg:List fU
 ls:List (List fU)
 at_:Int
 n:Int
 ex:Int
def Cn (c:List Value)(s:Nat × Nat × Doc.dB):Prop:=c=[.pointer (some ⟨s.1,0,none⟩),.pointer (some ⟨s.2.1,0,none⟩)]
def IX (c:List Value)(y:List UInt8):Prop:=c=[dO y]
def AZ (w:World)(own:Own)(c:List Value)(e:fU):Prop:=pR w own 0 c e
theorem FL:EX AZ:=fun w g own i b j k h=>pR.keep h (fun c d a=>by
 obtain⟨e,f⟩:=b c d a;exact⟨e,by rw[f,a]⟩)
def Kept (own own':Own)(w w':World)(P:Nat->Prop):Prop:=∀b,b<w.heap.size->P (own b)->w'.heap[b]?=w.heap[b]?/\own' b=own b
theorem iX.keep {own:Own}{cd:Nat->Nat}(h:iX w own cd v c)(d:Kept own O w W (fun o=>∃i,i<=c.length/\o=cd i)):iX W O cd v c:=by
 obtain⟨l,e,m,n,p⟩:=h.row;refine⟨⟨l,?_,m,n,fun i x q r f=>(p i x q r f).keep (fun b a s=>d b a ⟨i+1,by have:=(List.getElem?_eq_some_iff.1 f).1;omega,s⟩)⟩,fun b a=>?_⟩
 ·refine⟨e.1,?_⟩;rcases e.2 with t|⟨g,u,y,j,z,k,A⟩
  ·exact .inl t
  ·have B:=(Array.getElem?_eq_some_iff.1 k).1;exact .inr ⟨g,u,y,j,z,by rw[(d g B ⟨0,aO,h.head g aj6⟩).1];exact k,A⟩
 ·rw[(d b (e.lt b a).2 ⟨0,aO,h.head b a⟩).2];exact h.head b a
structure gu (w:World)(own:Own)(side:Nat)(v:Value)(Ls:List (List fU)):Prop where
 row:∃vs:List Value,w.ownsRow 0 38 1 v Ls.length vs/\vs.length=Ls.length/\∀(k:Nat) (u:Value) (L:List fU),vs[k]?=some u->Ls[k]?=some L->iX w own (eO side k) u L
 head:∀b,v.ownBlock=some b->own b=9+2*side
theorem gu.keep {own:Own}{e:List (List fU)}(h:gu w own n v e)(c:Kept own O w W (fun o=>o=9+2*n\/∃k i,o=eO n k i)):gu W O n v e:=by
 obtain⟨l,d,m,p⟩:=h.row;refine⟨⟨l,?_,m,fun k u L q r=>(p k u L q r).keep (fun b a ⟨i,_,s⟩=>c b a (.inr ⟨k,i,s⟩))⟩,fun b a=>?_⟩
 ·refine⟨d.1,?_⟩;rcases d.2 with t|⟨g,x,y,f,z,j,A⟩
  ·exact .inl t
  ·have B:=(Array.getElem?_eq_some_iff.1 j).1;exact .inr ⟨g,x,y,f,z,by rw[(c g B (.inl (h.head g (by rw[f];rfl)))).1];exact j,A⟩
 ·rw[(c b (d.lt b a).2 (.inl (h.head b a))).2];exact h.head b a
structure eT (w:World)(own:Own)(wb:Nat)(M:jv):Prop where
 mine:own wb=1
 obj:∃cur,w.heap[wb]?=some (.cells cur 48 (0,0))
 fr:∀o,w.frozen? ⟨wb,o,none⟩=false
 s:∃v,w.cell? ⟨wb,0,none⟩=some v/\dN w own 3 75 2 Cn v M.dM
 words:∃v,w.cell? ⟨wb,1,none⟩=some v/\dN w own 5 9 1 IX v M.words
 reg:∃v,w.cell? ⟨wb,2,none⟩=some v/\dN w own 7 142 4 (AZ w own) v M.reg
 ls:∃v,w.cell? ⟨wb,3,none⟩=some v/\gu w own 0 v M.ls
 lw:∃v,w.cell? ⟨wb,4,none⟩=some v/\gu w own 1 v M.ls
 at_:w.cell? ⟨wb,5,none⟩=some (.int .i64 M.at_)
 n:w.cell? ⟨wb,6,none⟩=some (.int .i64 M.n)
 ex:w.cell? ⟨wb,7,none⟩=some (.int .i64 M.ex)
 dM:∀(i x m:Nat) (S:Doc.dB),M.dM[i]?=some (x,m,S)->dA w own (4*i+2) x S/\dE w own (4*i+4) m S
 iE:eU w
 g0:∀b,b<2->own b=0
variable {L:jv}
theorem eT.keep {own:Own}(h:eT w own n L)(c:∀b,b<w.heap.size->W.heap[b]?=w.heap[b]?/\O b=own b)(k:eU W):eT W O n L:=by
 obtain⟨l,f⟩:=h.obj;have e:=(Array.getElem?_eq_some_iff.1 f).1;have d:∀{o:Nat} {v:Value},w.cell? ⟨n,o,none⟩=some v->W.cell? ⟨n,o,none⟩=some v:=fun m=>(World.cell?_of_block (w:=w) (a:=⟨n,_,none⟩) (c n e).1).trans m;obtain⟨p,q,g⟩:=h.s;obtain⟨r,s,i⟩:=h.words;obtain⟨t,u,j⟩:=h.reg;obtain⟨x,y,z⟩:=h.ls;obtain⟨A,B,C⟩:=h.lw;have M:=h.iE.size;have D:∀b,b<w.heap.size->own b=0->W.heap[b]?=w.heap[b]?/\O b=0:=fun b a E=>⟨(c b a).1,by rw[(c b a).2];exact E⟩;refine⟨by rw[(c n e).2];exact h.mine,⟨l,by rw[(c n e).1];exact f⟩,fun o=>(World.frozen?_of_block (w:=w) (a:=⟨n,o,none⟩) (c n e).1).trans (h.fr o),⟨p,d q,g.kept (fun b a=>c b (g.lt b a))⟩,⟨r,d s,i.kept (fun b a=>c b (i.lt b a))⟩,⟨t,d u,j.step FL D (fun b a=>c b (j.lt b a))⟩,⟨x,d y,z.keep (fun b a _=>c b a)⟩,⟨A,d B,C.keep (fun b a _=>c b a)⟩,d h.at_,d h.n,d h.ex,fun F G H S I=>?_,k,fun b a=>by rw[(c b aO).2];exact h.g0 b a⟩;obtain⟨J,K⟩:=h.dM F G H S I;exact⟨J.step (fun b a _=>c b a),K.step (fun b a _=>c b a)⟩
structure iK where
 kind:Int
 a:Int
 b:Int
 c:Int
 s:List UInt8
 t:List UInt8
def iK.val (o:iK):Value:=.agg #[.int .i64 o.kind,.int .i64 o.a,.int .i64 o.b,.int .i64 o.c,.string ⟨o.s.toArray⟩,.string ⟨o.t.toArray⟩]
structure pX (o:iK):Prop where
 a:-9223372036854775808<=o.a/\o.a<=9223372036854775807
 b:-9223372036854775808<=o.b/\o.b<=9223372036854775807
 c:-9223372036854775808<=o.c/\o.c<=9223372036854775807
 s:o.s.length<=70000
 t:o.t.length<=70000
theorem pR.at {own:Own}{e:fU}{g o:Nat}(p:pR w own n b e)(a:∀j u,j<4->b[j]?=some u->w.cell? ⟨g,o+j,none⟩=some u):Ak w g o e:=by
 obtain⟨d,f,rfl,h,_⟩:=p
 have q:e.args.map dO=(e.args.map (fun b=>[dO b])).flatten:=by
  generalize e.args=k
  induction k with
  | nil=>rfl
  | cons b k r=>simp[r]
 have l:kD w (.slice d e.args.length f) e.args:=by
  rw[q]at h;refine fA.imp' (Row.dW h aP aP).sl aP fun g i hi s v=>?_;have:=s ahT 0 aO (dO e.args[i]) aP;rw[show i*1+0=i by omega]at this;exact this
 obtain⟨x,y,c,t,m,_⟩:=id l;injection c with _ _ c
 subst c;unfold maxLen at m;exact⟨a 0 _ aO rfl,a 1 _ aO rfl,⟨d,f,a 2 _ aO rfl,t,m,l⟩,a 3 _ aO rfl⟩
theorem iX.Bz {own:Own}{cd:Nat->Nat}(m:iX w own cd v c):∃a d,v=.slice a c.length d/\fZ w a d c/\∀i,i<c.length->∃g,a=some ⟨g,0,none⟩:=by
 obtain⟨A,n,e,o,p⟩:=m.row;obtain⟨q,r,f,h,j,_,k⟩:=Row.dW n e.symm o;rw[e]at f h;unfold maxLen at j;refine⟨q,r,f,⟨h,j,fun i s l=>?_⟩,fun i hi=>?_⟩
 ·have hi:=(List.getElem?_eq_some_iff.1 l).1;obtain⟨g,b,t⟩:=k i aO;refine⟨g,0,b,?_⟩;rw[Nat.zero_add];exact(p i _ s (aD aO) l).at (fun u x y z=>t u y x z)
 ·obtain⟨g,b,_⟩:=k i aO;exact⟨g,b⟩
theorem gu.get {own:Own}{a:List (List fU)}(j:gu w own n v a):∃e d,v=.slice e a.length d/\a.length<=d/\d<=2 ^ 63-1/\∀k L,a[k]?=some L->∃g b c,e=some ⟨g,0,none⟩/\w.cell? ⟨g,k,none⟩=some (.slice b L.length c)/\fZ w b c L:=by
 obtain⟨f,l,B,m⟩:=j.row;obtain⟨o,p,q,r,s,t⟩:=dQ l;refine⟨o,p,q,r,s,fun k L h=>?_⟩;have u:=(List.getElem?_eq_some_iff.1 h).1;obtain⟨g,x,y,_⟩:=t k u;have i:f[k]?=some (f[k]' aO):=aD aO;obtain⟨b,c,z,A,_⟩:=(m k _ L i h).Bz;exact⟨g,b,c,x,by rw[y,i,z],A⟩
theorem Sn (e:Nat)(own:Own)(M:jv)(w:World)(h:eT w own e M)(O:M.ls.length<=100000) :
 Calls Tryz.prog 22 #[.pointer (some ⟨e,0,none⟩)] w fun f b=>f=.returned (.bool true)/\fF w b:=by
 obtain⟨v3,s,t⟩:=h.ls;obtain⟨v4,u,v⟩:=h.lw;obtain⟨bg,P,rfl,Q,p2,x⟩:=t.get;obtain⟨bn,R,rfl,S,q2,y⟩:=v.get;have T:=di x;have U:=di y;obtain⟨N,g⟩:=aJ M.ls.length;have V:=di g;rw[g]at s u Q S O;clear h t v x y g;go_enter Tryz.func22,Tryz.ntmps22;go_wp2_with fail
 go_loopw [3] (fun i wr=>∃k:Nat,i=.int .i64 k/\k<=N/\fF w wr) (fun i _=>N-(intOf i).toNat)
 case atStart=>exact⟨0,rfl,aO,.refl _⟩
 case round=>
  obtain⟨k,rfl,hk,a⟩:=hrel;have d:=di a;have z:=(a.cell _).trans s;have A:=(a.cell _).trans u
  by_cases X:k<N
  ·obtain⟨L,j⟩:∃L,M.ls[k]?=some L:=⟨_,aD (by rw[V.o];exact X)⟩;obtain⟨B,l,m,rfl,C,D⟩:=T.o k L j;obtain⟨E,o,p,rfl,F,G⟩:=U.o k L j;have q:=(a.cell _).trans C;have r:=(a.cell _).trans F;have H:Hid (∀W,fF w W->Calls Tryz.prog 51 #[.slice l L.length m,.slice o L.length p] W fun f b=>f=.returned (.bool true)/\fF W b):=fun W I=>Ao l o L.length m p L W (D.drawn I) (G.drawn I) rfl;obtain⟨J,K⟩:=aJ L.length;rw[K]at q r H;clear j C D F G a K;go_upto_region 4 with fail
   go_cut [4] (fun Y Z=>Y=.bool true/\fF w Z)
   case first=>
    go_region_held3 (fun b=>b.cell? ⟨e,3,none⟩=some (.slice (some ⟨B,0,none⟩) N P)/\b.cell? ⟨e,4,none⟩=some (.slice (some ⟨E,0,none⟩) N R)/\b.cell? ⟨B,k,none⟩=some (.slice l J m)/\b.cell? ⟨E,k,none⟩=some (.slice o J p)) (go_keep) (first|(go_at_call 51;refine(H.o _ (by first|exact d.o|exact d.o.more 1)).mono ?_;rintro f w3 ⟨rfl,c⟩;have s0:=(c.cell _).trans z;have s1:=(c.cell _).trans A;have s2:=(c.cell _).trans q;have s3:=(c.cell _).trans r));go_wp2_with fail;go_meet
    case rel=>exact⟨rfl,by first|exact d.o.trans c|exact(d.o.more 1).trans c⟩
   case rest=>
    obtain⟨rfl,a⟩:=hcut;have HD2:=di a;clear a z A q r;go_wp2_with fail;go_roundw
    case rel=>exact⟨k+1,bJ,aO,HD2.o⟩
    case measure=>exact akL
  ·clear a;go_wp2_with fail;go_ret;exact⟨rfl,d.o⟩
def I5 (e:Ending):Prop:=∃y:List UInt8,e=.returned (.string ⟨y.toArray⟩)/\y.length<=90000
theorem J7 (f:Nat)(own:Own)(M:jv)(o:iK)(w:World)(u:eT w own f M)(O:pX o)(v:∀y∈M.words,y.length<=90000)(x:M.words.length<=1000000) :
 Calls Tryz.prog 36 #[.pointer (some ⟨f,0,none⟩),o.val] w fun z c=>I5 z/\Below w.heap.size w c:=by
 obtain⟨v1,A,l⟩:=u.words;obtain⟨P,Q,rfl,R,p2⟩:=l.form
 have S:Hid (∀i y,M.words[i]?=some y->∃g,P=some ⟨g,0,none⟩/\g<w.heap.size/\w.cell? ⟨g,i,none⟩=some (.string ⟨y.toArray⟩)):=fun i y d=>by
  obtain⟨hi,T⟩:=List.getElem?_eq_some_iff.1 d;obtain⟨ao,cap,m,_,_,U⟩:=l.sl;injection m with m _ _
  subst m;obtain⟨g,n,_,V⟩:=U i hi;obtain⟨X,_,B,Y⟩:=V hi;have Z:X=[dO M.words[i]]:=B;subst Z;have p:=Y 0 _ aO rfl;rw[show i*1+0=i by omega,T]at p;exact⟨g,n,ai p,p⟩
 have rJ:=di v;obtain⟨kd,oa,ob,a,os,h⟩:=o;obtain⟨_,_,⟨C,D⟩,_,E⟩:=O;simp only at C D E;obtain⟨e,q⟩:∃e,w.alloc (.cells #[.int .i64 kd,.int .i64 oa,.int .i64 ob,.int .i64 a,.string ⟨os.toArray⟩,.string ⟨h.toArray⟩] 33)=e:=⟨_,rfl⟩;have r:Below w.heap.size w e:=by rw[<-q];exact af.alloc ae _
 have b:=di r;have xQ:=ai A;have e1:=(r.cell (p:=⟨f,1,none⟩) xQ).trans A;have e3:e.cell? ⟨w.heap.size,3,none⟩=some (.int .i64 a):=akq;have e5:e.cell? ⟨w.heap.size,5,none⟩=some (.string ⟨h.toArray⟩):=akq;have F:Hid (I5 (.returned (.string ⟨h.toArray⟩))):=⟨h,rfl,aO⟩;have HPK:=di (fun(s:Nat) W (h1:0<s) (B:s<=1000000)=>jo a s W C D h1 aO);obtain⟨N,t⟩:=aJ M.words.length;have HN:=di t;rw[t]at e1 R x;clear u l v r t E;simp only[iK.val]
 by_cases j:a=0
 ·have tc:(a !=0)=false:=aj6;clear j;go_enter Tryz.func36,Tryz.ntmps36;go_wp2_with fail;go_ret;exact⟨F.o,b.o⟩
 ·have tc:(a !=0)=true:=by simp[j]
  clear j
  by_cases G:N=0
  ·subst G;go_enter Tryz.func36,Tryz.ntmps36;go_wp2_with fail;go_ret;exact⟨F.o,b.o⟩
  ·have H:0<N:=aO;have I:=l6 a H;obtain⟨y,d⟩:∃y,M.words[pk a N]?=some y:=⟨_,aD (by rw[HN.o];exact I)⟩;obtain⟨g,rfl,n,J⟩:=S.o _ y d;have HY:Hid (I5 (.returned (.string ⟨y.toArray⟩))):=⟨y,rfl,rJ.o y (List.mem_of_getElem? d)⟩;have K:=di (fun W=>HPK.o N W H x);have d2:=(b.o.cell (p:=⟨g,pk a N,none⟩) n).trans J;obtain⟨k,L⟩:=aJ (pk a N);rw[L]at K d2 I;have hki:(k:Int)<(N:Int):=aO;clear d J G L;go_enter Tryz.func36,Tryz.ntmps36;go_wp2_with fail;go_region_held3 (fun c=>c.cell? ⟨f,1,none⟩=some (.slice (some ⟨g,0,none⟩) N Q)/\c.cell? ⟨w.heap.size,3,none⟩=some (.int .i64 a)/\c.cell? ⟨g,k,none⟩=some (.string ⟨y.toArray⟩)) (go_keep) (first|(go_at_call 37;refine(K.o _).mono ?_;rintro z w3 ⟨rfl,hw3⟩;subst hw3));go_wp2_with fail;go_ret;exact⟨HY.o,bQ⟩
structure Yx (w:World)(g:Nat)(e p v s:Int):Prop where
 c0:w.cell? ⟨g,0,none⟩=some (.int .i64 e)
 c1:w.cell? ⟨g,1,none⟩=some (.int .i64 p)
 c2:w.cell? ⟨g,2,none⟩=some (.int .i64 v)
 c3:w.cell? ⟨g,3,none⟩=some (.slice none 0 0)
 c4:w.cell? ⟨g,4,none⟩=some (.string ⟨#[]⟩)
 c5:w.cell? ⟨g,5,none⟩=some (.int .i64 s)
theorem FJ (g c:Nat)(e p v s:Int)(w:World)(h:Yx w g e p v s)(i:Yx w c e p v s) :
 Calls Tryz.prog 96 #[.pointer (some ⟨g,0,none⟩),.pointer (some ⟨c,0,none⟩)] w fun x b=>x=.returned (.bool true)/\fF w b:=by
 obtain⟨j,k,l,d,m,n⟩:=h;obtain⟨o,q,r,f,t,u⟩:=i;have y:Hid (∀W,Calls Tryz.prog 51 #[.slice none 0 0,.slice none 0 0] W fun e b=>e=.returned (.bool true)/\fF W b):=fun W=>Ao none none 0 0 0 [] W (fZ.nil W) (fZ.nil W) rfl;go_enter Tryz.func96,Tryz.ntmps96;go_upto_region 1 with fail
 go_cut [5] (fun z A=>z=.bool true/\fF w A)
 case first=>
  go_region_held3 (fun b=>b.cell? ⟨g,3,none⟩=some (.slice none 0 0)/\b.cell? ⟨c,3,none⟩=some (.slice none 0 0)) (go_keep) (first|(go_at_call 51;refine(y.o _).mono ?_;rintro e C ⟨rfl,a⟩;have D:=(a.cell _).trans d;have E:=(a.cell _).trans f));go_wp2_with fail;go_meet
  case rel=>exact⟨rfl,akA⟩
 case rest=>
  obtain⟨rfl,a⟩:=hcut;have B:=di a;rw[<-a.cell]at j k l m n o q r t u;clear a d f;go_wp2_with (go_quiet (fail));go_ret;exact⟨rfl,B.o.more _⟩
theorem eT.parts {w2:World}{own own':Own}(h:eT w own n L)(R:Nat->Prop)(e:∀b,b<w.heap.size->¬R (own b)->w2.heap[b]?=w.heap[b]?/\own' b=own b) :
 (¬R 3->∀v,w.cell? ⟨n,0,none⟩=some v->dN w2 own' 3 75 2 Cn v L.dM)/\
 (¬R 5->∀v,w.cell? ⟨n,1,none⟩=some v->dN w2 own' 5 9 1 IX v L.words)/\
 (¬R 7->¬R 0->∀v,w.cell? ⟨n,2,none⟩=some v->dN w2 own' 7 142 4 (AZ w2 own') v L.reg)/\
 (¬R 9->(∀k i,¬R (eO 0 k i))->∀v,w.cell? ⟨n,3,none⟩=some v->gu w2 own' 0 v L.ls)/\
 (¬R 11->(∀k i,¬R (eO 1 k i))->∀v,w.cell? ⟨n,4,none⟩=some v->gu w2 own' 1 v L.ls)/\
 (¬R 0->∀(i x m:Nat) (S:Doc.dB),¬R (4*i+2)->¬R (4*i+4)->L.dM[i]?=some (x,m,S)->dA w2 own' (4*i+2) x S/\dE w2 own' (4*i+4) m S):=by
 obtain⟨D,q,g⟩:=h.s;obtain⟨E,r,j⟩:=h.words;obtain⟨F,s,l⟩:=h.reg;obtain⟨G,t,u⟩:=h.ls;obtain⟨H,y,z⟩:=h.lw;refine⟨fun f v c=>?_,fun f v c=>?_,fun f o v c=>?_,fun f p v c=>?_,fun f p v c=>?_,fun o i x m S I J A=>?_⟩
 ·rw[q]at c;injection c with c;subst c;exact g.kept (fun b d=>e b (g.lt b d) (by rw[(g.type b d).1];exact f))
 ·rw[r]at c;injection c with c;subst c;exact j.kept (fun b d=>e b (j.lt b d) (by rw[(j.type b d).1];exact f))
 ·rw[s]at c;injection c with c;subst c;exact l.step FL (fun b d a=>⟨(e b d (by rw[a];exact o)).1,by rw[(e b d (by rw[a];exact o)).2];exact a⟩) (fun b d=>e b (l.lt b d) (by rw[(l.type b d).1];exact f))
 ·rw[t]at c;injection c with c;subst c;exact u.keep (fun b d a=>e b d akl)
 ·rw[y]at c;injection c with c;subst c;exact z.keep (fun b d a=>e b d akl)
 ·obtain⟨B,C⟩:=h.dM i x m S A;exact⟨B.step (fun b d a=>e b d (by rcases a with a|a<;>rw[a]<;>assumption)),C.step (fun b d a=>e b d (by rcases a with a|a<;>rw[a]<;>assumption))⟩
theorem eT.lt {own:Own}(h:eT w own n L):n<w.heap.size:=by
 exact amf
def Same (w w':World):Prop:=w'.os=w.os/\w'.tape=w.tape/\w'.output=w.output
theorem Same.trans {a:World}(h:Same a w)(g:Same w W):Same a W:=⟨g.1.trans h.1,g.2.1.trans h.2.1,g.2.2.trans h.2.2⟩
theorem Same.below (h:Below n w W):Same w W:=⟨h.os,h.tape,h.output⟩
structure uA (w w2:World)(own own':Own)(wb f r:Nat)(v':Value):Prop where
 keep:∀b,b<w.heap.size->¬(own b=1\/own b=r)->w2.heap[b]?=w.heap[b]?/\own' b=own b
 ext:∀b,b<w.heap.size->own' b=own b
 cell:w2.cell? ⟨wb,f,none⟩=some v'
 cells:∀f',f≠f'->w2.cell? ⟨wb,f',none⟩=w.cell? ⟨wb,f',none⟩
 frozen:∀o,w2.frozen? ⟨wb,o,none⟩=w.frozen? ⟨wb,o,none⟩
 type:∀cur e,w.heap[wb]?=some (.cells cur e (0,0))->∃cur',w2.heap[wb]?=some (.cells cur' e (0,0))
 fresh:dH own' w2
 size:w.heap.size<=w2.heap.size
 io:Same w w2
theorem tJ {A:Type}{own:Own}{r f:Nat}{K:List Value->A->Prop}{L:List A}{n:Nat}(M:dN w own r e k K v L)(N:dH own w)(B:own m=1)(O:r≠1)(P:m<w.heap.size)
 (d:Below w.heap.size w W) (Q:w.cell? ⟨m,f,none⟩=some V) (t:u.ownsRow 0 e k (.slice (some ⟨i,0,none⟩) n j) n b) (g:W.grownBy u v.ownBlock) (C:v.ownBlock=some i\/W.heap.size<=i) :
 uA w (u.setCell ⟨m,f,none⟩ (.slice (some ⟨i,0,none⟩) n j)) own (dw own i r) m f r (.slice (some ⟨i,0,none⟩) n j)/\(u.setCell ⟨m,f,none⟩ (.slice (some ⟨i,0,none⟩) n j)).ownsRow 0 e k (.slice (some ⟨i,0,none⟩) n j) n b:=by
 have hsz:=d.size;have hgs:=g.size;have x:=M.type;have y:v.ownBlock≠some m:=fun h=>O (by rw[<-(x m h).1];exact B)
 have hsg:m≠i:=by
  intro h;rcases C with l|l
  ·rw[h]at y;exact y l
  ·exact aO
 have D:∀a,a≠m->(u.setCell ⟨m,f,none⟩ (.slice (some ⟨i,0,none⟩) n j)).heap[a]?=u.heap[a]?:=fun a c=>aC c;have E:∀a,a<w.heap.size->v.ownBlock≠some a->u.heap[a]?=w.heap[a]?:=fun a c h=>(g.block a aO (fun e=>h e.symm)).trans (d.block a c);have p:u.heap[m]?=w.heap[m]?:=E m P y;have F:(u.setCell ⟨m,f,none⟩ (.slice (some ⟨i,0,none⟩) n j)).heap.size=u.heap.size:=aik
 have G:∀a,a<w.heap.size->dw own i r a=own a:=fun a c=>by
  unfold dw
  by_cases z:a=i
  ·rw[if_pos z];rcases C with h|h
   ·rw[z];exact(x i h).1.symm
   ·exact aO
  ·rw[if_neg z]
 refine⟨⟨fun a c H=>⟨?_,G a c⟩,G,?_,?_,?_,?_,?_,by rw[F];omega,⟨g.os.trans d.os,g.tape.trans d.tape,g.output.trans d.output⟩⟩,?_⟩
 ·have R:a≠m:=fun h=>H (.inl (by rw[h];exact B));have l:v.ownBlock≠some a:=fun h=>H (.inr (x a h).1);rw[D a R];exact E a c l
 ·exact World.cell?_setCell_same _ _ _ ((World.cell?_of_block (w:=w) (a:=⟨m,f,none⟩) p).trans Q)
 ·intro S T;rw[ak (fun h=>T aiF)];exact World.cell?_of_block (w:=w) (a:=⟨m,S,none⟩) p
 ·intro o;rw[World.frozen?_setCell];exact World.frozen?_of_block (w:=w) (a:=⟨m,o,none⟩) p
 ·intro I e' h;exact jK (p.trans h)
 ·intro a c;rw[F]at c;unfold dw;rw[if_neg (by intro h;have h3:=(t.lt i rfl).2;omega)];exact N a aO
 ·refine⟨t.1,?_⟩;rcases t.2 with ⟨q,_⟩|⟨J,U,I,q,X,Y,Z⟩
  ·cases q
  ·refine .inr ⟨J,U,I,q,X,?_,Z⟩;injection q with s;injection s with s;injection s with s;rw[D J aO];exact Y
theorem uA.iE {own:Own}(h:uA w W own o n m k v)(c:eU w)(d:∀b,b<2->own b=0)(f:k≠0):eU W/\∀b,b<2->o b=0:=by
 have g:=c.size;exact⟨c.ed (fun b a e=>(h.keep b e (by rw[d b a];omega)).1),fun b a=>by rw[h.ext b aO];exact d b a⟩
def gJ (w w':World)(own:Own)(wb:Nat)(M:jv):Prop:=∃own',dH own' w'/\eT w' own' wb M/\(∀b,b<w.heap.size->own b=0->w'.heap[b]?=w.heap[b]?/\own' b=0)/\w.heap.size<=w'.heap.size/\Same w w'
theorem gJ.JO {own:Own}(a:uA w W own o n m k v)(f:k≠0)(e:eT W o n L):gJ w W own n L:=
 ⟨o,a.fresh,e,fun b c d=>⟨(a.keep b c (by rw[d];omega)).1,by rw[a.ext b c];exact d⟩,a.size,a.io⟩
theorem eT.Vy {own:Own}{b:List (List UInt8)}(h:eT w own n L)(a:uA w W own O n 1 5 v)(q:dN W O 5 9 1 IX v b):eT W O n { L with words:=b }:=by
 obtain⟨r,J,t,u,x,y⟩:=h.parts (w2:=W) (own':=O) (fun o=>o=1\/o=5) (fun z A B=>a.keep z A B);obtain⟨c,d,K⟩:=h.s;obtain⟨e,f,M⟩:=h.reg;obtain⟨g,j,N⟩:=h.ls;obtain⟨l,m,P⟩:=h.lw;obtain⟨C,D⟩:=h.obj;obtain⟨E,F⟩:=a.iE h.iE h.g0 aO;have p:∀s k i,¬(eO s k i=1\/eO s k i=5):=fun s k i=>ajU;exact⟨aj7,a.type C _ D,fun o=>(a.frozen o).trans (h.fr o),⟨c,(a.cells 0 aO).trans d,r aO c d⟩,⟨v,a.cell,q⟩,⟨e,(a.cells 2 aO).trans f,t aO aO e f⟩,⟨g,(a.cells 3 aO).trans j,u aO (p 0) g j⟩,⟨l,(a.cells 4 aO).trans m,x aO (p 1) l m⟩,(a.cells 5 aO).trans h.at_,(a.cells 6 aO).trans h.n,(a.cells 7 aO).trans h.ex,fun i G H S I=>y aO i G H S aO aO I,E,F⟩
theorem GX (a:Nat)(own:Own)(M:jv)(y:List UInt8)(w:World)(h:eT w own a M)(r:dH own w)(E:M.words.length<=1000000) :
 Calls Tryz.prog 48 #[.pointer (some ⟨a,0,none⟩),.string ⟨y.toArray⟩] w fun e F=>e=.returned (.tuple #[])/\gJ w F own a { M with words:=M.words++[y] }:=by
 obtain⟨G,hi,H,I,J⟩:=info_parts Tryz.oC;obtain⟨v1,s,b⟩:=h.words;obtain⟨p,g,rfl,K,p2⟩:=b.form;have L:=di b;obtain⟨O,i,t,u,v⟩:=id b;have x:=di i;have P:=di (show _/\_/\_ from⟨i,t,u⟩);have z:=di h;have Q:=di r;have j:=h.lt;have R:=h.fr 1
 have k:Hid (∀q,(Value.slice p M.words.length g).ownBlock=some q->q≠a):=fun q S T=>by
  have U:=v q S;rw[T,h.mine]at U;exact aO
 have l:=di s;have V:=di R;obtain⟨N,m⟩:=aJ M.words.length;have c:=di m;rw[m]at s K E x k l;clear h b i t u v r m;go_enter Tryz.func48,Tryz.ntmps48;go_wp2_with (at_builtin;refine dD rfl (.tmp 8) (.tmp 10) 45 rfl 0 9 G (.string ⟨#[]⟩) 1 16 Tryz.underlying45 hi H I J rfl aR (.slice p N g) N O.flatten rfl (by exact x.o.alloc _) ⟨w.heap.size,0,none⟩ 1 [.string ⟨y.toArray⟩] rfl rfl bM bX aX aO aP ?_;intro n A o B d X C;have Y:o.cell? ⟨a,1,none⟩=some (.slice p N g):=((dP d (a:=⟨a,1,none⟩) aQ (fun e=>k.o a e.symm rfl)).trans (dC _ _ _ j)).trans l.o;have Z:o.frozen? ⟨a,1,none⟩=false:=((dS d (a:=⟨a,1,none⟩) aQ (fun e=>k.o a e.symm rfl)).trans (dI _ _ _ j)).trans V.o);have f:=tJ (f:=1) (r:=5) L.o Q.o z.o.mine aO j ((Below.refl w.heap.size w).alloc ae _) l.o B (by rw[c.o];exact d) (by rw[c.o];exact C)
 have iQ:Hid (gJ w (o.setCell ⟨a,1,none⟩ (.slice (some ⟨n,0,none⟩) (N+1) A)) own a { M with words:=M.words++[y] }):=by
  refine gJ.JO f.1 aO (z.o.Vy f.1 ?_);have D:=dN.snoc (own':=dw own n 5) (k:=5) (D:=IX) (a:=y) (c:=[.string ⟨y.toArray⟩]) (g:=n) (cap:=A) P.o (by rw[c.o];exact f.2) (fun _ _ h=>h) rfl rfl aiv;rw[c.o]at D;exact D
 clear f B d X C Y Z;go_end0;exact⟨rfl,iQ.o⟩
theorem Tryz.VZ:(Tryz.prog.info? 38).map (fun i=>(i.zero,i.size,i.bytes))=some (some (.slice none 0 0),1,24):=bL
def xO (c:List Value)(u:Value):Prop:=c=[u]
theorem wo:∀a:List Value,(a.map fun u=>[u]).flatten=a
 | []=>rfl
 | v::a=>by simp[wo a]
theorem Hz:∀a:List Value,fO xO (a.map fun u=>[u]) a
 | []=>.nil
 | _::a=>.cons rfl (Hz a)
theorem xD:∀{a:List (List Value)} {b:List Value},fO xO a b->a=b.map fun u=>[u]
 | _,_,.nil=>rfl
 | _,_,.cons h c=>by rw[xD c];unfold xO at h;rw[h];rfl
theorem gu.Va {own:Own}{b:List (List fU)}(h:gu w own n v b):∃a:List Value,dN w own (9+2*n) 38 1 xO v a/\a.length=b.length/\∀(k:Nat) (u:Value) (L:List fU),a[k]?=some u->b[k]?=some L->iX w own (eO n k) u L:=by
 obtain⟨a,d,c,e⟩:=h.row;refine⟨a,⟨a.map fun u=>[u],?_,Hz a,aP,h.head⟩,c,e⟩;rw[wo,c];exact d
theorem gu.tF {own:Own}{a:List (List fU)}(h:dN w own (9+2*n) 38 1 xO v b)(c:b.length=a.length)(e:∀(k:Nat) (u:Value) (L:List fU),b[k]?=some u->a[k]?=some L->iX w own (eO n k) u L):gu w own n v a:=by
 obtain⟨i,d,f,j,g⟩:=h;rw[xD f,wo,c]at d;exact⟨⟨b,d,c,e⟩,g⟩
theorem gu.snoc {w:World}{own own':Own}{e:List (List fU)}{vs:List Value}{u:Value}(h:dN W own' (9+2*n) 38 1 xO v (vs++[u]))(f:vs.length=e.length)(i:∀(k:Nat) (u:Value) (c:List fU),vs[k]?=some u->e[k]?=some c->iX w own (eO n k) u c)(j:iX w own (eO n e.length) u c)(l:∀b,b<w.heap.size->¬(own b=1\/own b=9\/own b=11)->W.heap[b]?=w.heap[b]?/\own' b=own b):gu W own' n v (e++[c]):=by
 have g:∀{k:Nat} {u:Value} {c:List fU},iX w own (eO n k) u c->iX W own' (eO n k) u c:=fun {k u c} m=>m.keep (fun b o ⟨p,_,q⟩=>l b o (by have:=iP n k p;rw[q];omega));refine gu.tF h (by simp[f]) (fun k r s a d=>?_)
 by_cases t:k<vs.length
 ·rw[List.getElem?_append_left t]at a;rw[List.getElem?_append_left aO]at d;exact g (i k r s a d)
 ·have x:k=vs.length:=by
   have:=(List.getElem?_eq_some_iff.1 a).1;simp at this;exact aO
  subst x;rw[List.getElem?_append_right aO]at a;rw[f,List.getElem?_append_right aO]at d;simp at a d;subst a;subst d;rw[f];exact g j
theorem uA.two {own:Own}(a:uA w W own o n 3 9 v)(d:uA W u o O n 4 11 V):∀b,b<w.heap.size->¬(own b=1\/own b=9\/own b=11)->u.heap[b]?=w.heap[b]?/\O b=own b:=fun b e i=>by
 have j:=a.size;obtain⟨f,c⟩:=a.keep b e aO;obtain⟨g,h⟩:=d.keep b aO (by rw[c];omega);exact⟨g.trans f,h.trans c⟩
theorem eT.Vz {own:Own}{d:List (List fU)}(h:eT w own n L)(b:uA w W own O n 3 9 v)(a:uA W u O Q n 4 11 V)(t:gu u Q 0 v d)(x:gu u Q 1 V d):gJ w u own n { L with ls:=d }:=by
 have j:=b.two a;have X:=b.size;have Y:=a.size;obtain⟨y,z,A,Z,k4,B⟩:=h.parts (w2:=u) (own':=Q) (fun o=>o=1\/o=9\/o=11) j;obtain⟨k,l,b0⟩:=h.s;obtain⟨m,p,b1⟩:=h.words;obtain⟨q,r,b2⟩:=h.reg;obtain⟨C,D⟩:=h.obj;obtain⟨E,F⟩:=b.type C _ D;obtain⟨G,H⟩:=b.iE h.iE h.g0 aO;obtain⟨I,J⟩:=a.iE G H aO;have K:=h.lt;have c:∀f,f≠3->f≠4->u.cell? ⟨n,f,none⟩=w.cell? ⟨n,f,none⟩:=fun f e g=>(a.cells f (fun i=>g i.symm)).trans (b.cells f (fun i=>e i.symm));refine⟨Q,a.fresh,?_,fun M N s=>?_,aO,b.io.trans a.io⟩
 ·exact⟨by rw[a.ext n aO,b.ext n K];exact h.mine,a.type E _ F,fun o=>((a.frozen o).trans (b.frozen o)).trans (h.fr o),⟨k,(c 0 aO aO).trans l,y aO k l⟩,⟨m,(c 1 aO aO).trans p,z aO m p⟩,⟨q,(c 2 aO aO).trans r,A aO aO q r⟩,⟨v,(a.cells 3 aO).trans b.cell,t⟩,⟨V,a.cell,x⟩,(c 5 aO aO).trans h.at_,(c 6 aO aO).trans h.n,(c 7 aO aO).trans h.ex,fun P R S T U=>B aO P R S T aO aO U,I,J⟩
 ·obtain⟨e,g⟩:=j M N (by rw[s];omega);exact⟨e,g.trans s⟩
theorem Nu (a:Nat)(own:Own)(M:jv)(j k:Option Addr)(l m:Nat)(L:List fU)(w:World)(h:eT w own a M)(hfr:dH own w)(hl:M.ls.length<=1000000)(hf:iX w own (eO 0 M.ls.length) (.slice j L.length l) L)(hc:iX w own (eO 1 M.ls.length) (.slice k L.length m) L) :
 Calls Tryz.prog 92 #[.pointer (some ⟨a,0,none⟩),.slice j L.length l,.slice k L.length m] w fun e w'=>e=.returned (.tuple #[])/\gJ w w' own a { M with ls:=M.ls++[L] }:=by
 obtain⟨i0,hi,hz0,hz1,hz2⟩:=info_parts Tryz.VZ;obtain⟨v3,a3,b3⟩:=h.ls;obtain⟨v4,a4,b4⟩:=h.lw;obtain⟨v,x,l3,t3⟩:=b3.Va;obtain⟨f,y,l4,t4⟩:=b4.Va;obtain⟨E,F,rfl,p1,p2⟩:=x.form;obtain⟨q,g,rfl,q1,q2⟩:=y.form;obtain⟨xs,G,x2,x3,x4⟩:=id x;obtain⟨ys,n,o,y3,y4⟩:=id y;obtain⟨Z,H⟩:=aJ L.length;have HZ:=di H;have HF:=di hf;have HC:=di hc;rw[H]at HF HC ⊢;have HR3:=di x;have HR4:=di y;have HT3:=di (show v.length=M.ls.length/\_ from⟨l3,t3⟩);have Dh:=di (show f.length=M.ls.length/\_ from⟨l4,t4⟩);have HX:=di G;have H9:=di (show _/\_/\_ from⟨G,x2,x3⟩);have HY:=di n;have YE:=di (show _/\_ from⟨o,y3⟩);have I:=di h;have lS:=di hfr;have z:=h.lt;have f3:=h.fr 3;have f4:=h.fr 4
 have J:Hid (∀b,(Value.slice E v.length F).ownBlock=some b->b≠a):=fun b O P=>by
  have Q:=x4 b O;rw[P,h.mine]at Q;exact aO
 have R:Hid (∀b,(Value.slice q f.length g).ownBlock=some b->b≠a):=fun b O P=>by
  have Q:=y4 b O;rw[P,h.mine]at Q;exact aO
 have S:=di a3;have Ou:=di a4;have qw:=di f3;have HF4:=di f4;obtain⟨N,T⟩:=aJ v.length;have A:=di T;obtain⟨K,V⟩:=aJ f.length;have p:=di V;have hN1:N<=1000000:=aO;have hK1:K<=1000000:=aO;rw[T]at a3 p1 HX J S;rw[V]at a4 q1 HY R Ou;clear h b3 b4 x y l3 l4 t3 t4 G x2 x3 x4 n o y3 y4 hfr T V H hf hc hl;go_enter Tryz.func92,Tryz.ntmps92;go_upto_region 1 with (at_builtin;refine dD rfl (.tmp 10) (.tmp 12) 46 rfl 0 38 i0 (.slice none 0 0) 1 24 Tryz.underlying46 hi hz0 hz1 hz2 rfl aR (.slice E N F) N xs.flatten rfl (by exact HX.o.alloc _) ⟨w.heap.size,0,none⟩ 1 [.slice j Z l] rfl rfl bM bX aX aO aP ?_;intro B eZ W s c X t;have n:W.cell? ⟨a,3,none⟩=some (.slice E N F):=((dP c (a:=⟨a,3,none⟩) aQ (fun e=>J.o a e.symm rfl)).trans (dC _ _ _ z)).trans S.o;have o:W.frozen? ⟨a,3,none⟩=false:=((dS c (a:=⟨a,3,none⟩) aQ (fun e=>J.o a e.symm rfl)).trans (dI _ _ _ z)).trans qw.o)
 have i:=tJ (f:=3) (r:=9) HR3.o lS.o I.o.mine aO z ((Below.refl w.heap.size w).alloc ae _) S.o s (by rw[A.o];exact c) (by rw[A.o];exact t);have Y:=dN.snoc (own':=dw own B 9) (k:=9) (D:=xO) (a:=.slice j Z l) (c:=[.slice j Z l]) (g:=B) (cap:=eZ) H9.o (by rw[A.o];exact i.2) (fun _ _ h=>h) rfl rfl aiv;have r:=i.1;rw[A.o]at Y;clear i s c X t n o;generalize W.setCell ⟨a,3,none⟩ (.slice (some ⟨B,0,none⟩) (N+1) eZ)=d at *;generalize dw own B 9=JH at *;have hsz:=r.size;have hlt1:a<d.heap.size:=aO
 have hb4:dN d JH 11 38 1 xO (.slice q f.length g) f:=HR4.o.kept (fun u hb=>by
  obtain⟨t1,t2,_⟩:=HR4.o.type u hb;exact r.keep u t2 (by rw[t1];omega))
 have PI:d.ownsRow 0 38 1 (.slice q K g) K ys.flatten:=by
  obtain⟨zs,z1,z2,z3,z4⟩:=hb4;rw[xD z2]at z1;have:=YE.o.1;rw[xD this];rw[p.o]at z1;exact z1
 have HW4:=di PI;have HY3:=di (show _/\_/\_ from⟨PI,YE.o⟩);have c4:d.cell? ⟨a,4,none⟩=some (.slice q K g):=(r.cells 4 aO).trans Ou.o;have g4:d.frozen? ⟨a,4,none⟩=false:=(r.frozen 4).trans HF4.o;have uM:=di c4;have HG4:=di g4;have uO:=di hb4;have HH9:=di Y;have C:=di r;clear r Y hb4 PI;go_wp2_with (at_builtin;refine dD rfl (.tmp 20) (.tmp 22) 46 rfl 0 38 i0 (.slice none 0 0) 1 24 Tryz.underlying46 hi hz0 hz1 hz2 rfl aR (.slice q K g) K ys.flatten rfl (by exact HW4.o.alloc _) ⟨d.heap.size,0,none⟩ 1 [.slice k Z m] rfl rfl bM bX aX aO aP ?_;intro gb K5 w5 s c X t;have n:w5.cell? ⟨a,4,none⟩=some (.slice q K g):=((dP c (a:=⟨a,4,none⟩) aQ (fun e=>R.o a e.symm rfl)).trans (dC _ _ _ hlt1)).trans uM.o;have o:w5.frozen? ⟨a,4,none⟩=false:=((dS c (a:=⟨a,4,none⟩) aQ (fun e=>R.o a e.symm rfl)).trans (dI _ _ _ hlt1)).trans HG4.o);have i:=tJ (f:=4) (r:=11) uO.o C.o.fresh (by rw[C.o.ext a z];exact I.o.mine) aO hlt1 ((Below.refl d.heap.size d).alloc ae _) uM.o s (by rw[p.o];exact c) (by rw[p.o];exact t);have h11:=dN.snoc (own':=dw JH gb 11) (k:=11) (zs:=f) (C:=xO) (D:=xO) (v:=.slice q K g) (w:=d) (a:=.slice k Z m) (c:=[.slice k Z m]) (g:=gb) (cap:=K5) (by rw[p.o];exact HY3.o) (by rw[p.o];exact i.2) (fun _ _ h=>h) rfl rfl aiv;have D:=i.1;rw[p.o]at h11
 have iQ:Hid (gJ w (w5.setCell ⟨a,4,none⟩ (.slice (some ⟨gb,0,none⟩) (K+1) K5)) own a { M with ls:=M.ls++[L] }):=by
  have k2:=C.o.two D;refine I.o.Vz C.o D ?_ ?_
  ·refine gu.snoc (w:=w) (own:=own) (vs:=v) (u:=.slice j Z l) ?_ HT3.o.1 HT3.o.2 HF.o k2
   exact HH9.o.kept (fun u hb=>by
    obtain⟨t1,t2,_⟩:=HH9.o.type u hb;exact D.keep u t2 (by rw[t1];omega))
  ·exact gu.snoc (w:=w) (own:=own) (vs:=f) (u:=.slice k Z m) h11 Dh.o.1 Dh.o.2 HC.o k2
 clear i D h11 s c X t n o;go_end0;exact⟨rfl,iQ.o⟩
theorem pR.type {own:Own}{e:fU}(j:pR w own n b e)(g:Nat)(k:Array Value)(l:w.heap[g]?=some (.cells k 142 (0,0))){f:World}(m:∀a,a≠g->f.heap[a]?=w.heap[a]?):pR f own n b e:=by
 obtain⟨o,p,q,h⟩:=j;refine⟨o,p,q,h.keep (fun a c=>⟨m a (fun r=>?_),rfl⟩)⟩;rcases h.1.2 with ⟨d,_⟩|⟨s,t,u,d,_,i,_⟩
 ·rw[d]at c;simp[Value.ownBlock]at c
 ·rw[d]at c;simp[Value.ownBlock]at c;rw[c,r,l]at i;simp at i
theorem iX.other {own:Own}{cd:Nat->Nat}{d:Array Value}(h:iX w own cd v c)(j:w.heap[n]?=some (.cells d 142 (0,0)))(k:own n≠cd 0)(f:∀b,b≠n->W.heap[b]?=w.heap[b]?):iX W own cd v c:=by
 obtain⟨l,g,m,o,p⟩:=h.row;refine⟨⟨l,⟨g.1,?_⟩,m,o,fun q x e r s=>(p q x e r s).type n d j f⟩,h.head⟩;rcases g.2 with t|⟨a,u,y,i,z,A,B⟩
 ·exact .inl t
 ·exact .inr ⟨a,u,y,i,z,by rw[f a (fun e=>k (by rw[<-e];exact h.head a (by rw[i];rfl)))];exact A,B⟩
theorem iX.put {own:Own}{cd:Nat->Nat}{e:fU}(p:iX w own cd (.slice (some ⟨n,0,none⟩) c.length m) c)(hi:k<c.length)(A:jX w own (cd (k+1)) (.slice a e.args.length i) e.args) :
 iX ((((w.setCell ⟨n,k*4,none⟩ (.int .i64 e.sym)).setCell ⟨n,k*4+1,none⟩ (.bool e.other)).setCell ⟨n,k*4+2,none⟩ (.slice a e.args.length i)).setCell ⟨n,k*4+3,none⟩ (dO e.val)) own cd (.slice (some ⟨n,0,none⟩) c.length m) (c.set k e):=by
 obtain⟨B,q,r,s,C⟩:=p.row;have D:=Jw q s r k hi (.int .i64 e.sym) (.bool e.other) (.slice a e.args.length i) (dO e.val)
 obtain⟨g,t⟩:∃g,w.heap[n]?=some (.cells g 142 (0,0)):=by
  rcases q.2 with ⟨l,_⟩|⟨F,G,H,l,_,u,_⟩
  ·cases l
  ·injection l with d;injection d with d;injection d with d;rw[<-d]at u;exact⟨_,u⟩
 have v:∀h,h≠n->((((w.setCell ⟨n,k*4,none⟩ (.int .i64 e.sym)).setCell ⟨n,k*4+1,none⟩ (.bool e.other)).setCell ⟨n,k*4+2,none⟩ (.slice a e.args.length i)).setCell ⟨n,k*4+3,none⟩ (dO e.val)).heap[h]?=w.heap[h]?:=fun h j=>by
  rw[aC j,aC j,aC j,aC j]
 refine⟨⟨B.set k [.int .i64 e.sym,.bool e.other,.slice a e.args.length i,dO e.val],by rw[List.length_set];exact D,by simp[r],fun x b=>?_,fun y x E b f=>?_⟩,p.head⟩
 ·rcases List.mem_or_eq_of_mem_set b with o|o
  ·exact s x o
  ·rw[o];rfl
 ·by_cases z:k=y
  ·subst z;rw[List.getElem?_set_self aO]at b f;simp at b f;subst b;subst f;exact pR.type ⟨a,i,rfl,A⟩ n g t v
  ·rw[List.getElem?_set_ne z]at b f;exact(C y x E b f).type n g t v
theorem gu.put {own:Own}{e:List (List fU)}{t:Array Value}(h:gu w own n v e)(u:e[m]?=some c)(x:∀b:List Value,w.ownsRow 0 38 1 v e.length b->b[m]?=some (.slice (some ⟨k,0,none⟩) c.length i))(y:w.heap[k]?=some (.cells t 142 (0,0)))(l:own k=eO n m 0)(o:∀f,f≠k->W.heap[f]?=w.heap[f]?)(z:iX W own (eO n m) (.slice (some ⟨k,0,none⟩) c.length i) C):gu W own n v (e.set m C):=by
 obtain⟨b,g,A,B⟩:=h.row;have D:=x b g;refine⟨⟨b,?_,by simp[A],fun p E M d a=>?_⟩,h.head⟩
 ·rw[List.length_set];refine⟨g.1,?_⟩;rcases g.2 with F|⟨j,G,H,q,I,J,K⟩
  ·exact .inl F
  ·refine .inr ⟨j,G,H,q,I,?_,K⟩;rw[o j (fun L=>?_)]
   ·exact J
   ·have r:=h.head j (by rw[q];rfl);rw[L,l]at r;have:=iP n m 0;unfold eO at r;exact aO
 ·by_cases s:m=p
  ·subst s;rw[D]at d;injection d with d;subst d;rw[List.getElem?_set_self (List.getElem?_eq_some_iff.1 u).1]at a;injection a with a;subst a;exact z
  ·rw[List.getElem?_set_ne s]at a;exact(B p E M d a).other y (by rw[l];unfold eO;omega) o
theorem jX.put {own:Own}{a:List (List UInt8)}(h:jX w own n (.slice (some ⟨m,0,none⟩) a.length k) a)(j:Nat)(y:List UInt8):jX (w.setCell ⟨m,j,none⟩ (dO y)) own n (.slice (some ⟨m,0,none⟩) a.length k) (a.set j y):=by
 refine⟨?_,h.2⟩;have b:=(h.1.stored j (dO y)).1;rw[List.length_set,List.map_set];exact b
theorem jX.type {own:Own}{e:List (List UInt8)}(h:jX w own n v e):∀b,v.ownBlock=some b->own b=n/\∃f,w.heap[b]?=some (.cells f 9 (0,0)):=fun b a=>by
 refine⟨h.2 b a,?_⟩;rcases h.1.2 with ⟨c,_⟩|⟨g,i,j,c,_,d,_⟩
 ·rw[c]at a;simp[Value.ownBlock]at a
 ·rw[c]at a;simp[Value.ownBlock]at a;rw[a]at d;exact⟨_,d⟩
theorem iX.texts {own:Own}{cd:Nat->Nat}{l:Array Value}(h:iX w own cd v c)(m:w.heap[n]?=some (.cells l 9 (0,0)))(o:∀i,i<c.length->own n≠cd (i+1))(d:∀b,b≠n->W.heap[b]?=w.heap[b]?):iX W own cd v c:=by
 obtain⟨p,f,q,r,s⟩:=h.row;refine⟨⟨p,⟨f.1,?_⟩,q,r,fun i x e t g=>?_⟩,h.head⟩
 ·rcases f.2 with u|⟨j,y,z,A,B,a,C⟩
  ·exact .inl u
  ·refine .inr ⟨j,y,z,A,B,?_,C⟩;rw[d j (fun e=>?_)]
   ·exact a
   ·rw[e,m]at a;simp at a
 ·obtain⟨D,E,F,k⟩:=s i x e t g;refine⟨D,E,F,k.keep (fun b G=>⟨d b (fun H=>?_),rfl⟩)⟩;exact o i (List.getElem?_eq_some_iff.1 g).1 (by rw[<-H];exact k.2 b G)
theorem iX.A7 {own:Own}{cd:Nat->Nat}{e:fU}(q:iX w own cd v c)(r:c[n]?=some e)(F:∀b:List (List Value),w.ownsRow 0 142 4 v c.length b.flatten->b.length=c.length->(∀h∈b,h.length=4)->b[n]?=some [.int .i64 e.sym,.bool e.other,.slice (some ⟨k,0,none⟩) e.args.length i,dO e.val])(G:∀n m,n<=c.length->m<=c.length->cd n=cd m->n=m) :
 iX (w.setCell ⟨k,m,none⟩ (dO x)) own cd v (c.set n { e with args:=e.args.set m x }):=by
 obtain⟨b,j,s,t,u⟩:=q.row;have hi:=(List.getElem?_eq_some_iff.1 r).1;have y:=F b j s t;obtain⟨V,W,a,z⟩:=u n _ e y r;injection a with _ a
 injection a with _ a;injection a with a _;injection a with a _ H;subst a H;obtain⟨I,X,J⟩:=z.type k rfl;have A:∀d,d≠k->(w.setCell ⟨k,m,none⟩ (dO x)).heap[d]?=w.heap[d]?:=fun d l=>aC l;refine⟨⟨b,?_,by simp[s],t,fun o h K g f=>?_⟩,q.head⟩
 ·rw[List.length_set];refine⟨j.1,?_⟩;rcases j.2 with L|⟨B,M,N,O,P,p,Q⟩
  ·exact .inl L
  ·refine .inr ⟨B,M,N,O,P,?_,Q⟩;rw[A B (fun e=>?_)]
   ·exact p
   ·rw[e,J]at p;simp at p
 ·by_cases C:n=o
  ·subst C;rw[List.getElem?_set_self hi]at f;injection f with f;rw[y]at g;injection g with g;subst g;subst f;refine⟨some ⟨k,0,none⟩,i,aP,?_⟩;have:=z.put m x;simpa using this
  ·rw[List.getElem?_set_ne C]at f;obtain⟨R,S,T,D⟩:=u o h K g f;have Y:=(List.getElem?_eq_some_iff.1 f).1;refine⟨R,S,T,D.keep (fun d l=>⟨A d (fun U=>?_),rfl⟩)⟩;have E:=D.2 d l;rw[U,I]at E;have:=G (n+1) (o+1) aO aO E;exact aO
theorem gu.A7 {own:Own}{b:List (List fU)}{y:Array Value}(l:gu w own n v b)(o:n<2)(p:b[m]?=some c)(q:∀c∈b,c.length<262143)(hi:k<c.length)(z:∀d:List Value,w.ownsRow 0 38 1 v b.length d->d[m]?=some V)(r:w.heap[i]?=some (.cells y 9 (0,0)))(A:own i=eO n m (k+1))(s:∀f,f≠i->W.heap[f]?=w.heap[f]?)(B:iX W own (eO n m) V C):gu W own n v (b.set m C):=by
 obtain⟨d,g,D,E⟩:=l.row;have F:=z d g;have P:=q c (List.mem_of_getElem? p);refine⟨⟨d,?_,by simp[D],fun t G M e a=>?_⟩,l.head⟩
 ·rw[List.length_set];refine⟨g.1,?_⟩;rcases g.2 with H|⟨u,I,J,K,L,h,N⟩
  ·exact .inl H
  ·refine .inr ⟨u,I,J,K,L,?_,N⟩;rw[s u (fun O=>?_)]
   ·exact h
   ·rw[O,r]at h;exact ajo
 ·by_cases j:m=t
  ·subst j;rw[F]at e;injection e with e;subst e;rw[List.getElem?_set_self (List.getElem?_eq_some_iff.1 p).1]at a;injection a with a;subst a;exact B
  ·rw[List.getElem?_set_ne j]at a;have Q:=q M (List.mem_of_getElem? a);refine(E t G M e a).texts r (fun R S x=>?_) s;rw[A]at x;exact j (Cw o o aO aO x).2.1
theorem eT.Jy {own:Own}{e:List (List fU)}(h:eT w own n L)(f:∀b,b<w.heap.size->(∀s k i,own b≠eO s k i)->W.heap[b]?=w.heap[b]?)(A:∀v,w.cell? ⟨n,3,none⟩=some v->gu W own 0 v e)(B:∀v,w.cell? ⟨n,4,none⟩=some v->gu W own 1 v e):eT W own n { L with ls:=e }:=by
 have a:∀o,(o<13\/o % 2=0)->¬(∃s k i,o=eO s k i):=fun o P ⟨s,k,i,d⟩=>ajU;obtain⟨C,D,E,Q,R,F⟩:=h.parts (w2:=W) (own':=own) (fun o=>∃s k i,o=eO s k i) (fun b g G=>⟨f b g (fun s k i d=>G ⟨s,k,i,d⟩),rfl⟩);obtain⟨l,m,T⟩:=h.s;obtain⟨p,q,U⟩:=h.words;obtain⟨r,t,V⟩:=h.reg;obtain⟨u,x,X⟩:=h.ls;obtain⟨y,z,Y⟩:=h.lw;obtain⟨H,I⟩:=h.obj;have j:W.heap[n]?=w.heap[n]?:=f n h.lt (fun s k i d=>a 1 aO ⟨s,k,i,by rw[<-d];exact h.mine.symm⟩);have c:∀{o:Nat} {v:Value},w.cell? ⟨n,o,none⟩=some v->W.cell? ⟨n,o,none⟩=some v:=fun J=>(World.cell?_of_block (w:=w) (a:=⟨n,_,none⟩) j).trans J;exact⟨h.mine,⟨H,by rw[j];exact I⟩,fun o=>(World.frozen?_of_block (w:=w) (a:=⟨n,o,none⟩) j).trans (h.fr o),⟨l,c m,C (a 3 aO) l m⟩,⟨p,c q,D (a 5 aO) p q⟩,⟨r,c t,E (a 7 aO) (a 0 aO) r t⟩,⟨u,c x,A u x⟩,⟨y,c z,B y z⟩,c h.at_,c h.n,c h.ex,fun i K M S N=>F (a 0 aO) i K M S (a _ aO) (a _ aO) N,h.iE.ed (fun b g O=>f b O (fun s k i d=>a 0 aO ⟨s,k,i,by rw[<-d];exact(h.g0 b g).symm⟩)),h.g0⟩
theorem qR {a:Array Value}(h:w.heap[n]?=some (.cells a e (0,0)))(o:Nat):w.frozen? ⟨n,o,none⟩=false:=by
 unfold World.frozen?;simp[h]
theorem gu.mO {own:Own}{a:List (List fU)}(i:gu w own n v a)(j:a[m]?=some c):∃g e u,v=.slice (some ⟨g,0,none⟩) a.length e/\a.length<=e/\e<=2 ^ 63-1/\own g=9+2*n/\w.cell? ⟨g,m,none⟩=some u/\iX w own (eO n m) u c/\∀b:List Value,w.ownsRow 0 38 1 v a.length b->b[m]?=some u:=by
 obtain⟨b,p,D,q⟩:=i.row;obtain⟨E,r,f,s,t,x⟩:=dQ p;have k:=(List.getElem?_eq_some_iff.1 j).1;obtain⟨g,y,l,_⟩:=x m k;subst y;have h:b[m]?=some (b[m]' aO):=aD aO;refine⟨g,r,_,f,s,t,i.head g (by rw[f];rfl),l.trans h,q m _ c h j,fun F z=>?_⟩;obtain⟨G,H,o,_,_,A⟩:=dQ z;obtain⟨I,B,C,_⟩:=A m k;rw[f,B]at o;injection o with d
 injection d with d;injection d with d;rw[<-C,<-d,l,h]
structure XV (w:World)(own:Own)(cd:Nat->Nat)(u:Value)(L:List fU)(i:Nat)(e:fU)(g c:Nat)(a:Option Addr)(ca:Nat):Prop where
 val:u=.slice (some ⟨g,0,none⟩) L.length c
 le:L.length<=c
 max:c<=2 ^ 63-1
 mine:own g=cd 0
 type:∃cur,w.heap[g]?=some (.cells cur 142 (0,0))
 c0:w.cell? ⟨g,i*4,none⟩=some (.int .i64 e.sym)
 c1:w.cell? ⟨g,i*4+1,none⟩=some (.bool e.other)
 c2:w.cell? ⟨g,i*4+2,none⟩=some (.slice a e.args.length ca)
 c3:w.cell? ⟨g,i*4+3,none⟩=some (dO e.val)
 row:∀rows:List (List Value),w.ownsRow 0 142 4 u L.length rows.flatten->rows.length=L.length->(∀x∈rows,x.length=4)->rows[i]?=some [.int .i64 e.sym,.bool e.other,.slice a e.args.length ca,dO e.val]
 args:jX w own (cd (i+1)) (.slice a e.args.length ca) e.args
theorem iX.mO {own:Own}{cd:Nat->Nat}{e:fU}(q:iX w own cd v c)(r:c[n]?=some e):∃g F f h,XV w own cd v c n e g F f h:=by
 obtain⟨X,s,t,G,H⟩:=q.row;have hi:=(List.getElem?_eq_some_iff.1 r).1;obtain⟨Y,I,d,u,x,_,J⟩:=Row.dW s t.symm G;rw[t]at d u;unfold maxLen at x;obtain⟨g,K,i⟩:=J n aO;subst K;obtain⟨f,h,j,L⟩:=H n _ e (aD aO) r;have y:=i 0 aO (.int .i64 e.sym) aj6;have z:=i 1 aO (.bool e.other) aj6;have A:=i 2 aO (.slice f e.args.length h) aj6;have B:=i 3 aO (dO e.val) aj6;refine⟨g,I,f,h,d,u,x,q.head g aiL,?_,y,z,A,B,fun C M N D=>?_,L⟩
 ·rcases s.2 with ⟨b,_⟩|⟨O,P,Z,b,_,E,_⟩
  ·rw[d]at b;cases b
  ·rw[d]at b;injection b with a;injection a with a;injection a with a;rw[<-a]at E;exact⟨_,E⟩
 ·obtain⟨ao',P,b,_,_,_,Q⟩:=Row.dW M N.symm D;obtain⟨O,R,k⟩:=Q n aO;rw[d,R]at b;injection b with a
  injection a with a;injection a with a;subst a;have S:=D (C[n]' aO) (List.getElem_mem _);rw[aD aO]
  match hm:C[n]' aO,S with
  | [T,U,V,W],_=>
   have l:=k 0 aO T (by rw[hm];rfl);have m:=k 1 aO U (by rw[hm];rfl);have o:=k 2 aO V (by rw[hm];rfl);have p:=k 3 aO W (by rw[hm];rfl);rw[y]at l;rw[z]at m;rw[A]at o;rw[B]at p;injection l with l
   injection m with m;injection o with o;injection p with p;rw[l,m,o,p]
theorem jX.mO {own:Own}{b:List (List UInt8)}(h:jX w own n (.slice a b.length m) b)(d:k<b.length):∃g y c,a=some ⟨g,0,none⟩/\own g=n/\b.length<=m/\m<=2 ^ 63-1/\w.cell? ⟨g,k,none⟩=some (dO y)/\w.heap[g]?=some (.cells c 9 (0,0)):=by
 obtain⟨t,u,e,f,i,j⟩:=dQ h.1;injection e with l _ o
 subst l o;obtain⟨g,p,q,_⟩:=j k d;subst p;obtain⟨r,c,s⟩:=h.type g rfl;exact⟨g,b[k],c,rfl,r,f,i,by rw[q];simp[d],s⟩
structure Aj (e:fU):Prop where
 Co:e.args.length<=70001
 val:e.val.length<=1000000
 args:∀y∈e.args,y.length<=1000000
 sym:-9223372036854775808<=e.sym/\e.sym<=9223372036854775807
structure gD (n:Nat)(M:jv):Prop where
 lim:n<=100000
 dM:M.dM.length<=n
 wf:∀s∈M.dM,Doc.fQ s.2.2
 words:M.words.length<=n
 word:∀y∈M.words,y.length<=90000
 reg:M.reg.length<=n
 vP:∀e∈M.reg,Aj e
 ls:M.ls.length<=n
 l:∀L∈M.ls,L.length<=n
 la:∀L∈M.ls,∀e∈L,Aj e
 at_:-9223372036854775808<=M.at_/\M.at_<=9223372036854775807
 n_:-9223372036854775808<=M.n/\M.n<=9223372036854775807
 ex:-9223372036854775808<=M.ex/\M.ex<=9223372036854775807
def ic (w w':World)(own:Own)(wb n:Nat):Prop:=∃M',gD n M'/\gJ w w' own wb M'
theorem gJ.below {own:Own}(h:eT w own n L)(d:dH own w)(a:Below w.heap.size w W):gJ w W own n L:=by
 have e:=a.size;refine⟨own,fun b c=>d b aO,h.keep (fun b c=>⟨a.block b c,rfl⟩) (h.iE.ed (fun b _ f=>a.block b f)),fun b c g=>⟨a.block b c,g⟩,e,Same.below a⟩
theorem gJ.more {own:Own}(h:gJ w W own n L)(a:Below W.heap.size W u):gJ w u own n L:=by
 obtain⟨g,i,d,e,l,j⟩:=h;have m:=a.size;refine⟨g,fun b c=>i b aO,d.keep (fun b c=>⟨a.block b c,rfl⟩) (d.iE.ed (fun b _ k=>a.block b k)),fun b c f=>⟨(a.block b aO).trans (e b c f).1,(e b c f).2⟩,aO,j.trans (Same.below a)⟩
theorem ic.more {own:Own}(h:ic w W own n m)(a:Below W.heap.size W u):ic w u own n m:=by
 obtain⟨M,b,c⟩:=h;exact⟨M,b,c.more a⟩
theorem gD.aaw {k:Nat}{L':List fU}(h:gD n L)(d:L.ls[k]?=some c)(e:L'.length=c.length)(f:∀g∈L',Aj g):gD n { L with ls:=L.ls.set k L' }:=by
 have i:=List.mem_of_getElem? d;refine⟨h.lim,h.dM,h.wf,h.words,h.word,h.reg,h.vP,by simp[h.ls],fun x b=>?_,fun x b=>?_,h.at_,h.n_,h.ex⟩
 ·rcases List.mem_or_eq_of_mem_set b with a|a
  ·exact h.l x a
  ·rw[a,e];exact h.l c i
 ·rcases List.mem_or_eq_of_mem_set b with a|a
  ·exact h.la x a
  ·rw[a];exact f
theorem gu.form {own:Own}{a:List (List fU)}(h:gu w own n v a):∃e b,v=.slice e a.length b/\a.length<=b/\b<=2 ^ 63-1:=by
 obtain⟨k,f,g,l⟩:=h.Va;obtain⟨p,i,c,d,j⟩:=f.form;rw[g]at c d;exact⟨p,i,c,d,j⟩
theorem Ba (h:W.ownsRow n e m v k b)(f:∀a,v.ownBlock=some a->W.heap[a]?=w.heap[a]?):w.ownsRow n e m v k b:=by
 refine⟨h.1,?_⟩;rcases h.2 with g|⟨c,i,j,d,l,o,r⟩
 ·exact .inl g
 ·exact .inr ⟨c,i,j,d,l,by rw[<-f c aiL];exact o,r⟩
theorem eT.ZG {own:Own}{j:Nat}{g:fU}{u3 u4:Value}{H a I J K h M:Nat}{y:List UInt8}{O P:Array Value}(Q:eT w own n L)(B:gD m L)(q:L.ls[k]?=some c)(u:c[i]?=some g)(R:w.cell? ⟨n,3,none⟩=some v)(S:w.cell? ⟨n,4,none⟩=some V)(T:gu w own 0 v L.ls)(C:gu w own 1 V L.ls)
 (U:∀o:List Value,w.ownsRow 0 38 1 v L.ls.length o->o[k]?=some u3) (W:∀o:List Value,w.ownsRow 0 38 1 V L.ls.length o->o[k]?=some u4) (X:iX w own (eO 0 k) u3 c) (D:iX w own (eO 1 k) u4 c)
 (Y:XV w own (eO 0 k) u3 c i g N H (some ⟨a,0,none⟩) I) (Z:XV w own (eO 1 k) u4 c i g J K (some ⟨h,0,none⟩) M) (r:own a=eO 0 k (i+1)) (f:own h=eO 1 k (i+1)) (hga:w.heap[a]?=some (.cells O 9 (0,0))) (hgb:w.heap[h]?=some (.cells P 9 (0,0))) :
 eT ((w.setCell ⟨a,j,none⟩ (dO y)).setCell ⟨h,j,none⟩ (dO y)) own n { L with ls:=L.ls.set k (c.set i { g with args:=g.args.set j y }) }:=by
 have hi:=(List.getElem?_eq_some_iff.1 u).1;have x:∀c∈L.ls,c.length<262143:=fun c q=>by have:=B.l c q;have:=B.lim;omega
 have KS:=x c (List.mem_of_getElem? q);have E:∀s,s<2->∀i j,i<=c.length->j<=c.length->eO s k i=eO s k j->i=j:=fun s F i j hi hj e=>(Cw F F aO aO e).2.2
 have hne:a≠h:=fun e=>by
  rw[e,f]at r;have:=(Cw aO aO aO aO r).1;exact aO
 have p:∀b,b≠a->(w.setCell ⟨a,j,none⟩ (dO y)).heap[b]?=w.heap[b]?:=fun b f=>aC f;have z:∀b,b≠h->((w.setCell ⟨a,j,none⟩ (dO y)).setCell ⟨h,j,none⟩ (dO y)).heap[b]?=(w.setCell ⟨a,j,none⟩ (dO y)).heap[b]?:=fun b f=>aC f;have s0:gu (w.setCell ⟨a,j,none⟩ (dO y)) own 0 v (L.ls.set k (c.set i { g with args:=g.args.set j y })):=T.A7 aO q x hi U hga r p (X.A7 u Y.row (E 0 aO))
 have s1:gu ((w.setCell ⟨a,j,none⟩ (dO y)).setCell ⟨h,j,none⟩ (dO y)) own 0 v (L.ls.set k (c.set i { g with args:=g.args.set j y })):=s0.keep (fun b _ d=>⟨z b (fun e=>by
  rw[e,f]at d;rcases d with d|⟨k',A,d⟩
  ·have:=iP 1 k (i+1);exact aO
  ·unfold eO at d;omega),rfl⟩)
 have t:∀b,(own b=9+2*1\/∃k i,own b=eO 1 k i)->b≠a:=fun b d e=>by
  rw[e,r]at d;rcases d with d|⟨k',A,d⟩
  ·have:=iP 0 k (i+1);exact aO
  ·unfold eO at d;exact aO
 have q4:gu (w.setCell ⟨a,j,none⟩ (dO y)) own 1 V L.ls:=C.keep (fun b _ d=>⟨p b (t b d),rfl⟩);have p4:iX (w.setCell ⟨a,j,none⟩ (dO y)) own (eO 1 k) u4 c:=D.keep (fun b _ ⟨A,_,d⟩=>⟨p b (t b (.inr ⟨k,A,d⟩)),rfl⟩)
 have s2:gu ((w.setCell ⟨a,j,none⟩ (dO y)).setCell ⟨h,j,none⟩ (dO y)) own 1 V (L.ls.set k (c.set i { g with args:=g.args.set j y })):=
  q4.A7 aO q x hi (fun o hvs=>W o (Ba hvs (fun b f=>p b (t b (.inl (C.head b f)))))) ((p h (fun e=>hne e.symm)).trans hgb) f z (p4.A7 u (fun rows r1 r2 r3=>Z.row rows (Ba r1 (fun b f=>p b (t b (.inr ⟨k,0,D.head b f⟩)))) r2 r3) (E 1 aO))
 refine Q.Jy (fun b _ G=>?_) (fun bg l=>?_) (fun bg l=>?_)
 ·rw[z b (fun e=>G 1 k (i+1) (by rw[e];exact f)),p b (fun e=>G 0 k (i+1) (by rw[e];exact r))]
 ·rw[R]at l;injection l with l;rw[<-l];exact s1
 ·rw[S]at l;injection l with l;rw[<-l];exact s2
end Go.Proofs.YtbichedkajfmiaaGreatDoor
