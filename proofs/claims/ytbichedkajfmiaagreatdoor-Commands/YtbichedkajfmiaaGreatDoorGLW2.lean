import Derived.Laws.CopyOwn
import Derived.Test.YtbichedkajfmiaaGreatDoorGLW0
import Derived.Test.YtbichedkajfmiaaGreatDoorGSum0
import Derived.Test.YtbichedkajfmiaaGreatDoorC
set_option maxRecDepth 100000
set_option maxHeartbeats 16000000
namespace Go.Proofs.YtbichedkajfmiaaGreatDoor
open Go.RowKit
variable {W w:World}{a:Option Addr}{b:List Value}{c:List fU}{e:TypeId}{i k m n:Nat}{o:Own}{v:Value}
theorem Tryz.G5:(Tryz.prog.info? 142).map (fun i=>(i.zero,i.size,i.bytes))=some (some (.agg #[.int .i64 0,.bool false,.slice none 0 0,.string ⟨#[]⟩]),4,56):=bL
def jX (w:World)(own:Own)(c:Nat)(v:Value)(xs:List (List UInt8)):Prop:=w.ownsRow 0 9 1 v xs.length (xs.map dO)/\∀b,v.ownBlock=some b->own b=c
def pR (w:World)(own:Own)(c:Nat)(x:List Value)(e:fU):Prop:=∃a cp,x=[.int .i64 e.sym,.bool e.other,.slice a e.args.length cp,dO e.val]/\jX w own c (.slice a e.args.length cp) e.args
theorem abU:∀(n:Nat) (a:List Value),a.length=n*4->∃b:List (List Value),b.length=n/\b.flatten=a/\∀x∈b,x.length=4:=by
 intro n
 induction n with
 | zero=>intro a h;exact⟨[],rfl,by simp at h;simp[h],aP⟩
 | succ n d=>
  intro a h;obtain⟨b,e,f,g⟩:=d (a.drop 4) (by rw[List.length_drop];omega);refine⟨a.take 4::b,by simp[e],by rw[List.flatten_cons,f,List.take_append_drop],fun x c=>?_⟩;rcases List.mem_cons.1 c with rfl|c
  ·rw[List.length_take];exact aO
  ·exact g x c
theorem oV {a:List (List Value)}(b:∀x∈a,x.length=4):∀(i j:Nat) (u:Value) (hi:i<a.length),j<4->a.flatten.set (i*4+j) u=(a.set i (a[i].set j u)).flatten:=by
 induction a with
 | nil=>intro i j u hi;simp at hi
 | cons x a c=>
  intro i j u hi d;have e:=b x aP;cases i with
  | zero=>
   simp only[Nat.zero_mul,Nat.zero_add,List.flatten_cons,List.set_cons_zero,List.getElem_cons_zero];rw[List.set_append_left _ _ aO]
  | succ i=>
   simp only[List.flatten_cons,List.set_cons_succ,List.getElem_cons_succ];rw[List.set_append_right _ _ aO,e];rw[show(i+1)*4+j-4=i*4+j by omega];rw[c (fun y f=>b y (by simp[f])) i j u ahT d]
theorem Jw {c:List (List Value)}(B:w.ownsRow n 142 4 (.slice (some ⟨m,0,none⟩) k i) k c.flatten)(g:∀x∈c,x.length=4)(J:c.length=k)(a:Nat)(hi:a<k)(d f h l:Value) :
 ((((w.setCell ⟨m,a*4,none⟩ d).setCell ⟨m,a*4+1,none⟩ f).setCell ⟨m,a*4+2,none⟩ h).setCell ⟨m,a*4+3,none⟩ l).ownsRow n 142 4 (.slice (some ⟨m,0,none⟩) k i) k (c.set a [d,f,h,l]).flatten:=by
 obtain⟨r,p,o,j,e⟩:∃r p o j,c[a]' aO=[r,p,o,j]:=by
  have:=g (c[a]' aO) (List.getElem_mem _)
  match hm:c[a]' aO,this with
  | [C,D,E,F],_=>exact⟨C,D,E,F,rfl⟩
 have q:=oV g a 0 d aO aO;rw[e]at q;simp only[Nat.add_zero,List.set_cons_zero]at q;have s:=(B.stored (a*4) d).1;rw[q]at s
 have G:∀x∈c.set a [d,p,o,j],x.length=4:=fun x e=>by
  exact al7
 have t:=oV G a 1 f aQ aO;simp only[List.getElem_set_self,List.set_set,List.set_cons_succ,List.set_cons_zero]at t;have u:=(s.stored (a*4+1) f).1;rw[t]at u
 have H:∀x∈c.set a [d,f,o,j],x.length=4:=fun x e=>by
  exact al7
 have v:=oV H a 2 h aQ aO;simp only[List.getElem_set_self,List.set_set,List.set_cons_succ,List.set_cons_zero]at v;have y:=(u.stored (a*4+2) h).1;rw[v]at y
 have I:∀x∈c.set a [d,f,h,j],x.length=4:=fun x e=>by
  exact al7
 have z:=oV I a 3 l aQ aO;simp only[List.getElem_set_self,List.set_set,List.set_cons_succ,List.set_cons_zero]at z;have A:=(y.stored (a*4+3) l).1;rw[z]at A;exact A
structure iX (w:World)(own:Own)(cd:Nat->Nat)(v:Value)(L:List fU):Prop where
 row:∃rows:List (List Value),w.ownsRow 0 142 4 v L.length rows.flatten/\rows.length=L.length/\(∀x∈rows,x.length=4)/\∀(i:Nat) (x:List Value) (e:fU),rows[i]?=some x->L[i]?=some e->pR w own (cd (i+1)) x e
 head:∀b,v.ownBlock=some b->own b=cd 0
structure nX (w wr:World)(own own':Own)(cd:Nat->Nat)(L:List fU)(i:Nat):Prop where
 dG:Below w.heap.size w wr
 lt:w.heap.size<wr.heap.size
 row:∃rows:List (List Value),wr.ownsRow w.heap.size 142 4 (.slice (some ⟨w.heap.size,0,none⟩) L.length L.length) L.length rows.flatten/\rows.length=L.length/\(∀x∈rows,x.length=4)/\∀(j:Nat) (x:List Value) (e:fU),j<i->rows[j]?=some x->L[j]?=some e->pR wr own' (cd (j+1)) x e
 head:own' w.heap.size=cd 0
 ext:∀b,b<w.heap.size->own' b=own b
 fresh:dH own' wr
theorem jX.keep {own:Own}{a:List (List UInt8)}(h:jX w own n v a)(c:∀b,v.ownBlock=some b->W.heap[b]?=w.heap[b]?/\o b=own b):jX W o n v a:=by
 obtain⟨⟨f,i⟩,j⟩:=h;refine⟨⟨f,?_⟩,fun b d=>by rw[(c b d).2];exact j b d⟩;rcases i with k|⟨g,l,m,e,p,q,r⟩
 ·exact .inl k
 ·exact .inr ⟨g,l,m,e,p,by rw[(c g akj).1];exact q,r⟩
theorem pR.keep {own:Own}{e:fU}(h:pR w own n b e)(f:∀a,a<w.heap.size->own a=n->W.heap[a]?=w.heap[a]?/\o a=own a):pR W o n b e:=by
 obtain⟨g,i,j,c⟩:=h;refine⟨g,i,j,c.keep (fun a d=>f a (c.1.lt a d).2 (c.2 a d))⟩
theorem GL {size:Nat}(h:w.ownsRow n e size v m b):w.ownsRow 0 e size v m b:=oq h (Nat.zero_le _)
theorem nX.next {wr wz w4:World}{own:Own}{cd:Nat->Nat}{e:fU}{aE:Option Addr}{cE:Nat}(h:nX w wr own o cd c n)(m:c[n]?=some e)(z:∀n j,n<=c.length->j<=c.length->cd n=cd j->n=j)
 (i:(((wr.setCell ⟨w.heap.size,n*4,none⟩ (.int .i64 e.sym)).setCell ⟨w.heap.size,n*4+1,none⟩ (.bool e.other)).setCell ⟨w.heap.size,n*4+2,none⟩ (.slice aE e.args.length cE)).setCell ⟨w.heap.size,n*4+3,none⟩ (.string ⟨e.val.toArray⟩)=wz)
 (k:Below wz.heap.size wz w4) (K:wz.heap.size<w4.heap.size) (A:w4.heap[wz.heap.size]?=some (.cells (e.args.map dO).toArray 9 (0,0))) (L:e.args.length<=200000) :
 nX w (w4.setCell ⟨w.heap.size,n*4+2,none⟩ (.slice (some ⟨wz.heap.size,0,none⟩) e.args.length e.args.length)) own (dw o wz.heap.size (cd (n+1))) cd c (n+1):=by
 obtain⟨hi,M⟩:=List.getElem?_eq_some_iff.1 m;obtain⟨B,C,p,l,D⟩:=h.row;have N:=h.lt;have O:wz.heap.size=wr.heap.size:=by rw[<-i];simp[World.setCell]
 have q:=Jw C l p n hi (.int .i64 e.sym) (.bool e.other) (.slice aE e.args.length cE) (.string ⟨e.val.toArray⟩);rw[i]at q;have r:=(ownsRow_below q k).stored (n*4+2) (.slice (some ⟨wz.heap.size,0,none⟩) e.args.length e.args.length) |>.1
 have E:∀x∈B.set n [.int .i64 e.sym,.bool e.other,.slice aE e.args.length cE,.string ⟨e.val.toArray⟩],x.length=4:=fun x d=>by
  rcases List.mem_or_eq_of_mem_set d with f|f
  ·exact l x f
  ·rw[f];rfl
 have s:=oV E n 2 (.slice (some ⟨wz.heap.size,0,none⟩) e.args.length e.args.length) aQ aO;simp only[List.getElem_set_self,List.set_set,List.set_cons_succ,List.set_cons_zero]at s;rw[s]at r
 have F:∀b,b≠w.heap.size->wz.heap[b]?=wr.heap[b]?:=fun b a=>by
  rw[<-i,aC a,aC a,aC a,aC a]
 have t:∀b,b≠w.heap.size->(w4.setCell ⟨w.heap.size,n*4+2,none⟩ (.slice (some ⟨wz.heap.size,0,none⟩) e.args.length e.args.length)).heap[b]?=w4.heap[b]?:=fun b a=>aC a;have u:(w4.setCell ⟨w.heap.size,n*4+2,none⟩ (.slice (some ⟨wz.heap.size,0,none⟩) e.args.length e.args.length)).heap.size=w4.heap.size:=aik;have G:Below w.heap.size w wz:=by rw[<-i];exact(((h.dG.setCell ae _).setCell ae _).setCell ae _).setCell ae _
 refine⟨(G.trans (k.mono aO)).setCell ae _,by rw[u];omega,⟨_,r,by simp[p],?_,?_⟩,?_,?_,?_⟩
 ·intro x d;rcases List.mem_or_eq_of_mem_set d with f|f
  ·exact l x f
  ·rw[f];rfl
 ·intro j x H P d g
  by_cases I:j=n
  ·subst I;rw[m]at g;injection g with g;subst g;rw[List.getElem?_set_self aO]at d;injection d with d;subst d;refine⟨_,_,rfl,⟨aP,.inr ⟨wz.heap.size,e.args.length,(e.args.map dO).toArray,rfl,Nat.zero_le _,by rw[t _ aO];exact A,ae,aX,aP,by simp;exact List.take_of_length_le aP⟩⟩,fun b a=>?_⟩;have:wz.heap.size=b:=aj5;subst this;exact aiv
  ·rw[List.getElem?_set_ne aO]at d;refine(D j x H aO d g).keep (fun b a v=>?_)
   have y:b≠w.heap.size:=fun J=>by
    subst J;rw[h.head]at v;have Q:=(List.getElem?_eq_some_iff.1 g).1;have:=z 0 (j+1) aO aO v;exact aO
   refine⟨by rw[t b y,k.block b aO,F b y],?_⟩;unfold dw;rw[if_neg aO]
 ·unfold dw;rw[if_neg aO];exact h.head
 ·intro b a;unfold dw;rw[if_neg aO];exact h.ext b a
 ·intro b a;rw[u]at a;unfold dw;rw[if_neg aO];exact h.fresh b aO
theorem VE (h:w.ownsRow n e 1 (.slice (some ⟨m,0,none⟩) k k) k b):∃c:List Value,w.heap[m]?=some (.cells c.toArray e (0,0))/\c.length=k:=by
 rcases h.2 with ⟨a,_⟩|⟨i,j,c,a,_,d,_,_,f,_⟩
 ·cases a
 ·injection a with a _ g;injection a with a;injection a with a;subst a g;exact⟨c.toList,ajw,ajB⟩
theorem UZ {b:List (List UInt8)}(h:kD w (.slice a n m) b)(k:0<b.length):∃d,a=some d/\∀j v,(b.map dO)[j]?=some v->w.cell? (d.add j)=some v:=by
 obtain⟨l,f,_⟩:=h.get 0 _ (aD k);refine⟨_,f,fun j v g=>?_⟩;rw[List.getElem?_map]at g;obtain⟨x,o,rfl⟩:=Option.map_eq_some_iff.1 g;obtain⟨c,i,p⟩:=h.get j x o;have:c=l:=by rw[f]at i;injection i with e;injection e with e;exact e.symm
 subst this;have e:(⟨c,0,none⟩:Addr).add j=⟨c,j,none⟩:=ajT;rw[e];exact p
theorem OI {c:Type}{b a:List c}(h:a.length=b.length):splice b 0 a=a:=by
 unfold splice;rw[List.drop_eq_nil_of_le aO];exact aP
def CF (w w':World)(own:Own)(cd:Nat->Nat)(L:List fU)(e:Ending):Prop:=e=.returned (.slice (some ⟨w.heap.size,0,none⟩) L.length L.length)/\∃own',nX w w' own own' cd L L.length
theorem wu (T:Option Addr)(U n:Nat)(L:List fU)(w:World)(own:Own)(cd:Nat->Nat)(s:fZ w T U L)(F:L.length=n)(V:dH own w)(X:∀i j,i<=L.length->j<=L.length->cd i=cd j->i=j)(hn1:n<=200000)(Y:∀e∈L,e.args.length<=200000) :
 Calls Tryz.prog 91 #[.slice T n U] w fun e w'=>CF w w' own cd L e:=by
 obtain⟨i1,hi1,hy0,hy1,hy2⟩:=info_parts Tryz.G5;obtain⟨i0,Z,hz0,hz1,hz2⟩:=info_parts Tryz.oC;have hc1:=s.le;have hc2:=s.max;rw[F]at hc1;have HG:=di (fun W (h:Below w.heap.size w W)=>(s.below h).get);have afJ:=di X;have Io:=di Y;have d:=di F;have lS:=di V;have hsz1:(Tryz.prog.info? 9).map (·.size)=some 1:=by rw[Z];simp[hz1]
 have DZ:=di hsz1;clear s F X Y V hsz1;go_enter Tryz.func91,Tryz.ntmps91;go_wp2_with (at_make;refine wpList_make_full _ rfl (.tmp 7) (.tmp 7) 38 rfl w.heap.size 142 i1 (.agg #[.int .i64 0,.bool false,.slice none 0 0,.string ⟨#[]⟩]) 4 Tryz.underlying38 hi1 hy0 hy1 .i64 .i64 (n:Int) (n:Int) n rfl rfl rfl rfl (by rw[hy2];omega) aX ae ?_;intro w1 t abf)
 have ry:Hid (∃f,nX w w1 own f cd L 0):=by
  obtain⟨u,q1,q2,q3⟩:=abU n _ t.1;have hlt1:w.heap.size<w1.heap.size:=(t.lt w.heap.size rfl).2;refine⟨dw own w.heap.size (cd 0),⟨af.grown abf ae (fun bn G=>by cases G),hlt1,⟨u,by rw[d.o,q2];exact t,by rw[d.o];exact q1,q3,fun j bB e H=>aO⟩,aiv,fun bg hb=>by unfold dw;rw[if_neg aO],fun bg hb=>?_⟩⟩;unfold dw;rw[if_neg aO];exact lS.o bg aO
 clear t abf;go_wp2_with fail
 go_loopw [4] (fun q wr=>∃(i:Nat) (f:Own),q=.int .i64 i/\i<=n/\nX w wr own f cd L i) (fun q _=>n-(intOf q).toNat)
 case atStart=>
  obtain⟨f,h⟩:=ry.o;exact⟨0,f,rfl,aO,h⟩
 case round=>
  obtain⟨i,f,rfl,hi,b⟩:=hrel;have HST:=di b
  by_cases hlt:i<n
  ·obtain⟨e,v⟩:∃e,L[i]?=some e:=⟨_,aD (by rw[d.o];exact hlt)⟩;have HE:=di v;have I:=Io.o e (List.mem_of_getElem? v);obtain⟨k,o,rfl,hen⟩:=HG.o w af i e v;obtain⟨J,z2,⟨x,y,K,a4,a5,a6⟩,z7⟩:=hen;have m:Hid (k<w.heap.size):=ai J;have z:=di (fun W (h:Below w.heap.size w W)=>(h.cell (p:=⟨k,o+i*4+2,none⟩) m.o).trans K);have a1:=(b.dG.cell (p:=⟨k,o+i*4,none⟩) m.o).trans J;have a2:=(b.dG.cell (p:=⟨k,o+i*4+1,none⟩) m.o).trans z2;have M:=(b.dG.cell (p:=⟨k,o+i*4+2,none⟩) m.o).trans K;have a7:=(b.dG.cell (p:=⟨k,o+i*4+3,none⟩) m.o).trans z7;have Ik:=di b.dG;clear J z2 K z7;obtain⟨u,A,N,O,_⟩:=b.row;rw[d.o]at A;have rC:=di b.lt
   have B:Hid (∀j,j<4->∃bq,wr.cell? ⟨w.heap.size,i*4+j,none⟩=some bq):=fun j H=>by
    have hir:i<u.length:=by rw[N,d.o];exact hlt
    obtain⟨ao,cap,g,_,_,_,h4⟩:=Row.dW A (by rw[N,d.o]) O;obtain⟨g',hg',hc⟩:=h4 i hir;injection g with g
    rw[hg']at g;injection g with g;injection g with g;subst g;have h5:j<(u[i]' aO).length:=by rw[O _ (List.getElem_mem _)];exact H
    exact⟨_,hc j H _ (aD h5)⟩
   obtain⟨u0,b0⟩:=B.o 0 aO;obtain⟨u1,b1⟩:=B.o 1 aO;obtain⟨u2,b2⟩:=B.o 2 aO;obtain⟨u3,b3⟩:=B.o 3 aO;rw[Nat.add_zero]at b0;have bf:∀q,wr.frozen? ⟨w.heap.size,q,none⟩=false:=fun q=>A.frozenAt q;have P:=di (fun W (h:Below w.heap.size w W)=>a6.below h);obtain⟨sy,ot,C,va⟩:=e;simp only at a1 a2 M a4 a7 I P z;obtain⟨c,Q⟩:=aJ C.length;have l:=di Q;rw[Q]at M a4 I P z;obtain⟨a,p⟩:∃a,(((wr.setCell ⟨w.heap.size,i*4,none⟩ (.int .i64 sy)).setCell ⟨w.heap.size,i*4+1,none⟩ (.bool ot)).setCell ⟨w.heap.size,i*4+2,none⟩ (.slice x c y)).setCell ⟨w.heap.size,i*4+3,none⟩ (.string ⟨va.toArray⟩)=a:=⟨_,rfl⟩;have HWZ:=di p;have r:Hid (Below w.heap.size w a):=by rw[<-p];exact(((Ik.o.setCell ae _).setCell ae _).setCell ae _).setCell ae _
   have YM:Hid (a.heap.size=wr.heap.size):=by show _=_;rw[<-p];simp[World.setCell]
   have HW2:Hid (w.heap.size<a.heap.size):=by show _<_;rw[YM.o];exact rC.o
   have HE2:Hid (a.cell? ⟨w.heap.size,i*4+2,none⟩=some (.slice x c y)/\∀q,a.frozen? ⟨w.heap.size,q,none⟩=false):=by
    rw[<-p];refine⟨?_,fun q=>by rw[World.frozen?_setCell,World.frozen?_setCell,World.frozen?_setCell,World.frozen?_setCell];exact bf q⟩;rw[ak (fun h=>cu)];exact World.cell?_setCell_same _ _ _ ((ak (fun h=>cu)).trans ((ak (fun h=>cu)).trans b2))
   have c3:=z.o a r.o;clear b v A N O Q a6;go_upto_region 6 with fail
   clear a1 a2 M a7 b0 b1 b2 b3 bf p;go_wp2_with (first|(at_make;refine wpList_make_full _ rfl (.tmp 27) (.tmp 27) 45 rfl a.heap.size 9 i0 (.string ⟨#[]⟩) 1 Tryz.underlying45 Z hz0 hz1 .i64 .i64 (c:Int) (c:Int) c rfl rfl rfl rfl (by rw[hz2];omega) aX ae ?_;intro R hown3 abe;have D:Below a.heap.size a R:=af.grown abe ae (fun bn G=>by cases G);have HB3:=di D;have c4:=z.o R (r.o.trans (D.mono r.o.size));have HSR:=di (P.o R (r.o.trans (D.mono r.o.size)));obtain⟨CUR,aby,hcl⟩:=VE hown3;have af6:=di aby;have uL:=di hcl;clear D hown3 abe aby hcl)|(refine wpList_copy_splice rfl (.tmp 29) (.tmp 34) 45 45 rfl 9 Tryz.underlying45 DZ.o (some ⟨a.heap.size,0,none⟩) x c c c y rfl rfl a.heap.size 0 CUR 9 af6.o (C.map dO) (by rw[List.length_map,l.o];simp) (fun h0=>⟨rfl,UZ HSR.o (by simpa using h0)⟩) (by rw[List.length_map,l.o,uL.o];omega) (by simp;intro bC hy;rfl) a.heap.size a HB3.o ae ?_;intro S HG4 E;have uO:=di E;have d2:=(E.cell (p:=⟨w.heap.size,i*4+2,none⟩) HW2.o).trans HE2.o.1;have df:=fun q=>(E.frozen (p:=⟨w.heap.size,q,none⟩) HW2.o).trans (HE2.o.2 q);clear E))
   have HG5:Hid (S.heap[a.heap.size]?=some (.cells (C.map dO).toArray 9 (0,0))):=by
    have h:=HG4.o;rw[OI (by rw[List.length_map,l.o,uL.o])]at h;exact h
   have jO:Hid (nX w (S.setCell ⟨w.heap.size,i*4+2,none⟩ (.slice (some ⟨a.heap.size,0,none⟩) c c)) own (dw f a.heap.size (cd (i+1))) cd L (i+1)):=by
    have h:=nX.next (aE:=x) (cE:=y) HST.o HE.o afJ.o (wz:=a) (w4:=S) (by show _=_;rw[l.o];exact HWZ.o) uO.o (by have h1:=(Array.getElem?_eq_some_iff.1 HG5.o).1;exact h1) HG5.o (by show C.length<=_;rw[l.o];exact I);simp only[l.o]at h;exact h
   go_wp2_with fail;go_roundw
   case rel=>exact⟨i+1,_,bJ,aO,jO.o⟩
   case measure=>exact akL
  ·have HF:Hid (CF w wr own cd L (.returned (.slice (some ⟨w.heap.size,0,none⟩) n n))):=⟨by rw[d.o],f,by have h:=HST.o;rw[show i=L.length by rw[d.o];omega]at h;exact h⟩;clear b;go_wp2_with fail;go_ret;exact HF.o
end Go.Proofs.YtbichedkajfmiaaGreatDoor
