import Derived.Laws.CopyOwn
import Derived.Test.YtjiagbaaikifpaaGreatDoorGLW0
import Derived.Test.YtjiagbaaikifpaaGreatDoorGSum0
set_option maxRecDepth 100000
set_option maxHeartbeats 16000000
namespace Go.Proofs.YtjiagbaaikifpaaGreatDoor
open Go.RowKit Go.Proofs.Tryz
variable {W w:World}{a:eu}{b:List Value}{c:List fU}{e:TypeId}{i k m n:Nat}{o:Own}{v:Value}
theorem IC:(prog.info? 142).map (λi=>(i.zero,i.size,i.bytes))=some (some (.agg #[dw 0,dP,dE,eB]),4,56):=bR
def lS (w:World)(own:Own)(c:Nat)(v:Value)(xs:List (dN)):Prop:=w.ownsRow 0 9 1 v xs.length (xs.map eO)/\∀b,v.ownBlock=some b->own b=c
def sI (w:World)(own:Own)(c:Nat)(x:List Value)(e:fU):Prop:=∃a cp,x=[dw e.sym,.bool e.other,.slice a e.args.length cp,eO e.val]/\lS w own c (.slice a e.args.length cp) e.args
theorem afL:∀(n:Nat) (a:List Value),a.length=n*4->∃b:List (List Value),b.length=n/\b.flatten=a/\∀x∈b,x.length=4:=by
 intro n
 induction n with
 | zero=>intro a h;exact⟨[],rfl,by simp at h;simp[h],aW⟩
 | succ n d=>
  intro a h;obtain⟨b,e,f,g⟩:=d (a.drop 4) aoz;refine⟨a.take 4::b,anm,by rw[List.flatten_cons,f,List.take_append_drop],λx c=>?_⟩;rcases List.mem_cons.1 c with rfl|c
  ·exact amg
  ·exact g x c
theorem rJ {a:List (List Value)}(b:∀x∈a,x.length=4):∀(i j:Nat) (u:Value) (hi:i<a.length),j<4->a.flatten.set (i*4+j) u=(a.set i (a[i].set j u)).flatten:=by
 induction a with
 | nil=>intro i j u hi;simp at hi
 | cons x a c=>
  intro i j u hi d;have e:=b x aW;cases i with
  | zero=>
   simp only[Nat.zero_mul,Nat.zero_add,List.flatten_cons,List.set_cons_zero,List.getElem_cons_zero];rw[List.set_append_left _ _ aR]
  | succ i=>
   simp only[List.flatten_cons,List.set_cons_succ,List.getElem_cons_succ];rw[List.set_append_right _ _ aR,e];rw[show(i+1)*4+j-4=i*4+j by omega];rw[c (λy f=>b y (by simp[f])) i j u di d]
theorem MC {c:List (List Value)}(B:w.ownsRow n 142 4 (dJ m k i) k c.flatten)(g:∀x∈c,x.length=4)(J:c.length=k)(a:Nat)(hi:a<k)(d f h l:Value) :
 ((((w.setCell (dA m (a*4)) d).setCell (dA m (a*4+1)) f).setCell (dA m (a*4+2)) h).setCell (dA m (a*4+3)) l).ownsRow n 142 4 (dJ m k i) k (c.set a [d,f,h,l]).flatten:=by
 obtain⟨r,p,o,j,e⟩:∃r p o j,c[a]' aR=[r,p,o,j]:=by
  have:=g (c[a]' aR) (List.getElem_mem _)
  match hm:c[a]' aR,this with
  | [C,D,E,F],_=>exact⟨C,D,E,F,rfl⟩
 have q:=rJ g a 0 d aR aR;rw[e]at q;simp only[Nat.add_zero,List.set_cons_zero]at q;have s:=(B.stored (a*4) d).1;rw[q]at s
 have G:∀x∈c.set a [d,p,o,j],x.length=4:=λx e=>by
  exact aqn
 have t:=rJ G a 1 f aX aR;simp only[List.getElem_set_self,List.set_set,List.set_cons_succ,List.set_cons_zero]at t;have u:=(s.stored (a*4+1) f).1;rw[t]at u
 have H:∀x∈c.set a [d,f,o,j],x.length=4:=λx e=>by
  exact aqn
 have v:=rJ H a 2 h aX aR;simp only[List.getElem_set_self,List.set_set,List.set_cons_succ,List.set_cons_zero]at v;have y:=(u.stored (a*4+2) h).1;rw[v]at y
 have I:∀x∈c.set a [d,f,h,j],x.length=4:=λx e=>by
  exact aqn
 have z:=rJ I a 3 l aX aR;simp only[List.getElem_set_self,List.set_set,List.set_cons_succ,List.set_cons_zero]at z;have A:=(y.stored (a*4+3) l).1;rw[z]at A;exact A
structure jU (w:World)(own:Own)(cd:Nat->Nat)(v:Value)(L:List fU):Prop where
 row:∃rows:List (List Value),w.ownsRow 0 142 4 v L.length rows.flatten/\rows.length=L.length/\(∀x∈rows,x.length=4)/\∀(i:Nat) (x:List Value) (e:fU),rows[i]?=some x->L[i]?=some e->sI w own (cd (i+1)) x e
 head:∀b,v.ownBlock=some b->own b=cd 0
structure qK (w wr:World)(own own':Own)(cd:Nat->Nat)(L:List fU)(i:Nat):Prop where
 ek:dB w wr
 lt:w.heap.size<wr.heap.size
 row:∃rows:List (List Value),wr.ownsRow w.heap.size 142 4 (dJ w.heap.size L.length L.length) L.length rows.flatten/\rows.length=L.length/\(∀x∈rows,x.length=4)/\∀(j:Nat) (x:List Value) (e:fU),j<i->rows[j]?=some x->L[j]?=some e->sI wr own' (cd (j+1)) x e
 head:own' w.heap.size=cd 0
 ext:∀b,b<w.heap.size->own' b=own b
 fresh:eD own' wr
theorem lS.keep {own:Own}{a:List (dN)}(h:lS w own n v a)(c:∀b,v.ownBlock=some b->W.heap[b]?=w.heap[b]?/\o b=own b):lS W o n v a:=by
 obtain⟨⟨f,i⟩,j⟩:=h;refine⟨⟨f,?_⟩,λb d=>by rw[(c b d).2];exact j b d⟩;rcases i with k|⟨g,l,m,e,p,q,r⟩
 ·exact .inl k
 ·exact .inr ⟨g,l,m,e,p,by rw[(c g ant).1];exact q,r⟩
theorem sI.keep {own:Own}{e:fU}(h:sI w own n b e)(f:∀a,a<w.heap.size->own a=n->W.heap[a]?=w.heap[a]?/\o a=own a):sI W o n b e:=by
 obtain⟨g,i,j,c⟩:=h;refine⟨g,i,j,c.keep (λa d=>f a (c.1.lt a d).2 (c.2 a d))⟩
theorem Km {size:Nat}(h:w.ownsRow n e size v m b):w.ownsRow 0 e size v m b:=qQ h (Nat.zero_le _)
theorem qK.next {wr wz w4:World}{own:Own}{cd:Nat->Nat}{e:fU}{aE:eu}{cE:Nat}(h:qK w wr own o cd c n)(m:c[n]?=some e)(z:∀n j,n<=c.length->j<=c.length->cd n=cd j->n=j)
 (i:(((wr.setCell (dA w.heap.size (n*4)) (dw e.sym)).setCell (dA w.heap.size (n*4+1)) (.bool e.other)).setCell (dA w.heap.size (n*4+2)) (.slice aE e.args.length cE)).setCell (dA w.heap.size (n*4+3)) (dD e.val)=wz)
 (k:dB wz w4) (K:wz.heap.size<w4.heap.size) (A:w4.heap[wz.heap.size]?=some (.cells (e.args.map eO).toArray 9 (0,0))) (L:e.args.length<=200000) :
 qK w (w4.setCell (dA w.heap.size (n*4+2)) (dJ wz.heap.size e.args.length e.args.length)) own (dG o wz.heap.size (cd (n+1))) cd c (n+1):=by
 obtain⟨hi,M⟩:=aG m;obtain⟨B,C,p,l,D⟩:=h.row;have N:=h.lt;have O:wz.heap.size=wr.heap.size:=by rw[<-i];simp[World.setCell]
 have q:=MC C l p n hi (dw e.sym) (.bool e.other) (.slice aE e.args.length cE) (dD e.val);rw[i]at q;have r:=(ownsRow_below q k).stored (n*4+2) (dJ wz.heap.size e.args.length e.args.length) |>.1
 have E:∀x∈B.set n [dw e.sym,.bool e.other,.slice aE e.args.length cE,dD e.val],x.length=4:=λx d=>by
  rcases List.mem_or_eq_of_mem_set d with f|f
  ·exact l x f
  ·exact aoi
 have s:=rJ E n 2 (dJ wz.heap.size e.args.length e.args.length) aX aR;simp only[List.getElem_set_self,List.set_set,List.set_cons_succ,List.set_cons_zero]at s;rw[s]at r
 have F:∀b,b≠w.heap.size->wz.heap[b]?=wr.heap[b]?:=λb a=>by
  rw[<-i,aD a,aD a,aD a,aD a]
 have t:∀b,b≠w.heap.size->(w4.setCell (dA w.heap.size (n*4+2)) (dJ wz.heap.size e.args.length e.args.length)).heap[b]?=w4.heap[b]?:=λb a=>aD a;have u:(w4.setCell (dA w.heap.size (n*4+2)) (dJ wz.heap.size e.args.length e.args.length)).heap.size=w4.heap.size:=amn;have G:dB w wz:=by rw[<-i];exact(((h.ek.setCell ae _).setCell ae _).setCell ae _).setCell ae _
 refine⟨(G.trans (k.mono aR)).setCell ae _,by rw[u];omega,⟨_,r,by simp[p],?_,?_⟩,?_,?_,?_⟩
 ·intro x d;rcases List.mem_or_eq_of_mem_set d with f|f
  ·exact l x f
  ·exact aoi
 ·intro j x H P d g
  by_cases I:j=n
  ·subst I;rw[m]at g;injection g with g;subst g;rw[List.getElem?_set_self aR]at d;injection d with d;subst d;refine⟨_,_,rfl,⟨aW,.inr ⟨wz.heap.size,e.args.length,(e.args.map eO).toArray,rfl,Nat.zero_le _,by rw[t _ aR];exact A,ae,bz,aW,by simp;exact List.take_of_length_le aW⟩⟩,λb a=>?_⟩;have:wz.heap.size=b:=aor;subst this;exact amz
  ·rw[List.getElem?_set_ne aR]at d;refine(D j x H aR d g).keep (λb a v=>?_)
   have y:b≠w.heap.size:=λJ=>by
    subst J;rw[h.head]at v;have Q:=(aG g).1;have:=z 0 (j+1) aR aR v;exact aR
   refine⟨by rw[t b y,k.block b aR,F b y],?_⟩;unfold dG;rw[if_neg aR]
 ·unfold dG;rw[if_neg aR];exact h.head
 ·intro b a;unfold dG;rw[if_neg aR];exact h.ext b a
 ·intro b a;rw[u]at a;unfold dG;rw[if_neg aR];exact h.fresh b aR
theorem ZX (h:w.ownsRow n e 1 (dJ m k k) k b):∃c:List Value,w.heap[m]?=some (.cells c.toArray e (0,0))/\c.length=k:=by
 rcases h.2 with ⟨a,_⟩|⟨i,j,c,a,_,d,_,_,f,_⟩
 ·cases a
 ·injection a with a _ g;injection a with a;injection a with a;subst a g;exact⟨c.toList,anF,ana⟩
theorem Y7 {b:List (dN)}(h:jK w (.slice a n m) b)(k:0<b.length):∃d,a=some d/\∀j v,(b.map eO)[j]?=some v->w.cell? (d.add j)=some v:=by
 obtain⟨l,f,_⟩:=h.get 0 _ (aF k);refine⟨_,f,λj v g=>?_⟩;rw[List.getElem?_map]at g;obtain⟨x,o,rfl⟩:=Option.map_eq_some_iff.1 g;obtain⟨c,i,p⟩:=h.get j x o;have:c=l:=by rw[f]at i;injection i with e;injection e with e;exact e.symm
 subst this;have e:((dA c 0):Addr).add j=(dA c j):=aob;rw[e];exact p
theorem Sv {c:Type}{b a:List c}(h:a.length=b.length):splice b 0 a=a:=by
 unfold splice;rw[List.drop_eq_nil_of_le aR];exact aW
def E9 (w w':World)(own:Own)(cd:Nat->Nat)(L:List fU)(e:Ending):Prop:=e=dF (dJ w.heap.size L.length L.length)/\∃own',qK w w' own own' cd L L.length
theorem yU (S:eu)(T n:Nat)(L:List fU)(w:World)(own:Own)(cd:Nat->Nat)(p:gI w S T L)(D:L.length=n)(U:eD own w)(V:∀i j,i<=L.length->j<=L.length->cd i=cd j->i=j)(hn1:n<=200000)(X:∀e∈L,e.args.length<=200000) :
 dH 92 #[.slice S n T] w λe w'=>E9 w w' own cd L e:=by
 obtain⟨i1,hi1,hy0,hy1,hy2⟩:=info_parts IC;obtain⟨i0,Y,hz0,Z,hz2⟩:=info_parts ni;have hc1:=p.le;have hc2:=p.max;rw[D]at hc1;have HG:=dn (λW (h:dB w W)=>(p.below h).get);have ajC:=dn V;have Lc:=dn X;have d:=dn D;have nV:=dn U;have hsz1:(prog.info? 9).map (·.size)=some 1:=by rw[Y];simp[Z]
 have GA:=dn hsz1;clear p D V X U hsz1;go_enter func92,ntmps92;go_wp2_with (at_make;refine wpList_make_full _ rfl (.tmp 7) (.tmp 7) 38 rfl w.heap.size 142 i1 (.agg #[dw 0,dP,dE,eB]) 4 underlying38 hi1 hy0 hy1 .i64 .i64 (n:Int) (n:Int) n rfl rfl rfl rfl (by rw[hy2];omega) bz ae ?_;intro w1 r ae5)
 have uG:Hid (∃f,qK w w1 own f cd L 0):=by
  obtain⟨s,q1,q2,q3⟩:=afL n _ r.1;have hlt1:w.heap.size<w1.heap.size:=(r.lt w.heap.size rfl).2;refine⟨dG own w.heap.size (cd 0),⟨af.grown ae5 ae (λbn E=>by cases E),hlt1,⟨s,by rw[d.o,q2];exact r,by rw[d.o];exact q1,q3,λj _ e F=>aR⟩,amz,λbg hb=>by unfold dG;rw[if_neg aR],λbg hb=>?_⟩⟩;unfold dG;rw[if_neg aR];exact nV.o bg aR
 clear r ae5;go_wp2_with fail
 go_loopw [4] (fun q wr=>∃(i:Nat) (f:Own),q=dw i/\i<=n/\qK w wr own f cd L i) (fun q _=>n-(intOf q).toNat)
 case atStart=>
  obtain⟨f,h⟩:=uG.o;exact⟨0,f,rfl,aR,h⟩
 case round=>
  obtain⟨i,f,rfl,hi,b⟩:=hrel;have HST:=dn b
  by_cases hlt:i<n
  ·obtain⟨e,t⟩:∃e,L[i]?=some e:=⟨_,aF (by rw[d.o];exact hlt)⟩;have HE:=dn t;have G:=Lc.o e (List.mem_of_getElem? t);obtain⟨bq,o,rfl,hen⟩:=HG.o w af i e t;obtain⟨H,z2,⟨u,v,I,a4,a5,a6⟩,z7⟩:=hen;have l:Hid (bq<w.heap.size):=aj H;have x:=dn (λW (h:dB w W)=>(h.dL I l.o));have a1:=b.ek.dL H l.o;have a2:=b.ek.dL z2 l.o;have J:=b.ek.dL I l.o;have a7:=b.ek.dL z7 l.o;have EB:=dn b.ek;clear H z2 I z7;obtain⟨s,y,K,M,_⟩:=b.row;rw[d.o]at y;have qI:=dn b.lt
   have z:Hid (∀j,j<4->∃bA,wr.cell? (dA w.heap.size (i*4+j))=some bA):=λj F=>by
    have hir:i<s.length:=by rw[K,d.o];exact hlt
    obtain⟨ao,cap,g,_,_,_,h4⟩:=Row.fq y (by rw[K,d.o]) M;obtain⟨g',hg',hc⟩:=h4 i hir;injection g with g
    rw[hg']at g;injection g with g;injection g with g;subst g;have h5:j<(s[i]' aR).length:=by rw[M _ (List.getElem_mem _)];exact F
    exact⟨_,hc j F _ (aF h5)⟩
   obtain⟨u0,b0⟩:=z.o 0 aR;obtain⟨u1,b1⟩:=z.o 1 aR;obtain⟨u2,b2⟩:=z.o 2 aR;obtain⟨u3,b3⟩:=z.o 3 aR;rw[Nat.add_zero]at b0;have bf:∀q,wr.frozen? (dA w.heap.size q)=false:=λq=>y.frozenAt q;have N:=dn (λW (h:dB w W)=>a6.below h);obtain⟨sy,ot,A,va⟩:=e;simp only at a1 a2 J a4 a7 G N x;obtain⟨c,O⟩:=aK A.length;have k:=dn O;rw[O]at J a4 G N x;obtain⟨a,m⟩:=aK ((((wr.setCell (dA w.heap.size (i*4)) (dw sy)).setCell (dA w.heap.size (i*4+1)) (.bool ot)).setCell (dA w.heap.size (i*4+2)) (.slice u c v)).setCell (dA w.heap.size (i*4+3)) (dD va));have HWZ:=dn m;have P:Hid (dB w a):=by rw[<-m];exact(((EB.o.setCell ae _).setCell ae _).setCell ae _).setCell ae _
   have FO:Hid (a.heap.size=wr.heap.size):=by show _=_;rw[<-m];simp[World.setCell]
   have HW2:Hid (w.heap.size<a.heap.size):=by show _<_;rw[FO.o];exact qI.o
   have HE2:Hid (a.cell? (dA w.heap.size (i*4+2))=some (.slice u c v)/\∀q,a.frozen? (dA w.heap.size q)=false):=by
    rw[<-m];refine⟨?_,λq=>by rw[World.frozen?_setCell,World.frozen?_setCell,World.frozen?_setCell,World.frozen?_setCell];exact bf q⟩;rw[ax (λh=>cZ)];exact aC ((ax (λh=>cZ)).trans ((ax (λh=>cZ)).trans b2))
   have c3:=x.o a P.o;clear b t y K M O a6;go_upto_region 6 with fail
   clear a1 a2 J a7 b0 b1 b2 b3 bf m;go_wp2_with (first|(at_make;refine wpList_make_full _ rfl (.tmp 27) (.tmp 27) 45 rfl a.heap.size 9 i0 (eB) 1 underlying45 Y hz0 Z .i64 .i64 (c:Int) (c:Int) c rfl rfl rfl rfl (by rw[hz2];omega) bz ae ?_;intro Q hown3 ae4;have B:dB a Q:=af.grown ae4 ae (λbn E=>by cases E);have HB3:=dn B;have c4:=x.o Q (P.o.dW B);have HSR:=dn (N.o Q (P.o.dW B));obtain⟨CUR,afl,hcl⟩:=ZX hown3;have aj2:=dn afl;have rY:=dn hcl;clear B hown3 ae4 afl hcl)|(refine wpList_copy_splice rfl (.tmp 29) (.tmp 34) 45 45 rfl 9 underlying45 GA.o (some (dA a.heap.size 0)) u c c c v rfl rfl a.heap.size 0 CUR 9 aj2.o (A.map eO) (by rw[List.length_map,k.o];simp) (λh0=>⟨rfl,Y7 HSR.o (by simpa using h0)⟩) (by rw[List.length_map,k.o,rY.o];omega) (by simp;intro bC hy;rfl) a.heap.size a HB3.o ae ?_;intro R HG4 C;have rz:=dn C;have d2:=C.dL HE2.o.1 HW2.o;have df:=λq=>(C.gq (HE2.o.2 q) HW2.o);clear C))
   have HG5:Hid (R.heap[a.heap.size]?=some (.cells (A.map eO).toArray 9 (0,0))):=by
    have h:=HG4.o;rw[Sv (by rw[List.length_map,k.o,rY.o])]at h;exact h
   have jF:Hid (qK w (R.setCell (dA w.heap.size (i*4+2)) (dJ a.heap.size c c)) own (dG f a.heap.size (cd (i+1))) cd L (i+1)):=by
    have h:=qK.next (aE:=u) (cE:=v) HST.o HE.o ajC.o (wz:=a) (w4:=R) (by show _=_;rw[k.o];exact HWZ.o) rz.o (by have h1:=(Array.getElem?_eq_some_iff.1 HG5.o).1;exact h1) HG5.o (by show A.length<=_;rw[k.o];exact G);simp only[k.o]at h;exact h
   go_wp2;go_roundw
   ·exact⟨i+1,_,bL,aR,jF.o⟩
   ·exact aph
  ·have HF:Hid (E9 w wr own cd L (dF (dJ w.heap.size n n))):=⟨by rw[d.o],f,by have h:=HST.o;rw[show i=L.length by rw[d.o];omega]at h;exact h⟩;clear b;go_wp2;go_ret;exact HF.o
