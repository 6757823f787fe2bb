import Derived.Test.YtjiagbaaikifpaaGreatDoorGLaws0
set_option maxRecDepth 100000
set_option maxHeartbeats 16000000
namespace Go.Proofs.YtjiagbaaikifpaaGreatDoor
open Go.RowKit Go.Proofs.Tryz
variable {D:Tc}{O o:Own}{W u w:World}{Y:Doc.Tr}{h:Ending}{k m n:Nat}{l:List Nat}{v:Value}
theorem Ol (w:World)(t:TypeId):ad7 (w.alloc (.cells (Doc.forms.flatMap jE).toArray t)) w.heap.size:=by
 have b:∀j,(w.alloc (.cells (Doc.forms.flatMap jE).toArray t)).cell? (dA w.heap.size j)=(Doc.forms.map jE).flatten[j]?:=λj=>by
  rw[cell_of_row _ w.heap.size j (Doc.forms.flatMap jE).toArray t (0,0) (heap_alloc_new w _)];simp[List.flatMap_def]
 have c:∀x∈Doc.forms.map jE,x.length=7:=by
  intro x d;obtain⟨f,_,rfl⟩:=List.mem_map.1 d;rfl
 intro i hi
 have a:∀j,j<7->(w.alloc (.cells (Doc.forms.flatMap jE).toArray t)).cell? (dA w.heap.size (i*7+j))=(jE Doc.forms[i])[j]?:=λj e=>by
  rw[b,Aq c i j di e];exact aW
 exact⟨a 0 aR,a 1 aR,a 2 aR,a 3 aR,a 4 aR,a 5 aR,a 6 aR⟩
theorem XR (p:Doc.Form->Bool)(l:List Doc.Form)(k:Nat)(h:k<l.length):(l.drop k).any p=(p l[k]||(l.drop (k+1)).any p):=by rw[List.drop_eq_getElem_cons h,List.any_cons]
theorem Ma (x:dN)(w:World) :
 dH 242 #[dD x] w λe l=>e=dF (.bool (Doc.lT x))/\dB w l:=by
 have s:=gU;have m:Hid (∀i (t:i<Doc.forms.length),mQ (w.alloc (.cells (Doc.forms.flatMap jE).toArray 325)) w.heap.size (i*7) Doc.forms[i]):=Ol w 325;have c:Hid (dB w (w.alloc (.cells (Doc.forms.flatMap jE).toArray 325))):=ai;have n:Hid (Doc.lT x=(Doc.forms.drop 0).any (λf=>f.word==x)):=rfl;have d:Hid (Doc.forms.length=16):=rfl;have o:=dn (KG w);generalize Doc.lT x=p at *;generalize q:w.alloc (.cells (Doc.forms.flatMap jE).toArray 325)=wf at *;clear q;generalize Doc.forms=a at *;go_enter func242,ntmps242;go_wp2_with fail;refine o.o.mono ?_;rintro e u ⟨rfl,rfl⟩;go_wp2_with fail
 go_loop [4] (fun i=>∃k:Nat,i=dw k/\k<=16/\p=(a.drop k).any (fun f=>f.word==x)) (fun i=>16-(intOf i).toNat)
 ·exact⟨0,rfl,aR,n.o⟩
 case round=>
  obtain⟨k,rfl,v,g⟩:=hrel;have b:=dn g;clear g
  by_cases r:k<16
  ·have h:k<a.length:=by rw[d.o];exact r
   have y:=(m.o k h).word;have j:=dn (XR (λf=>f.word==x) a k h);cases hq:(a[k].word==x)
   ·go_wp2;go_round
    ·exact⟨k+1,bL,aR,by rw[b.o,j.o,hq];rfl⟩
    ·exact aph
   ·go_wp2;go_ret;exact⟨dS (by rw[b.o,j.o,hq];rfl),c.o⟩
  ·go_wp2;go_ret;exact⟨dS (by rw[b.o,List.drop_eq_nil_of_le (by rw[d.o];omega)];rfl),c.o⟩
theorem X3:(prog.info? 177).map (λi=>(i.zero,i.size,i.bytes))=some (some (.agg #[eB,dw 0,dw 0,dw 0,dE]),5,64):=bR
def lh (t:Doc.Term)(av:Value):List Value:=[eO t.text,dw t.op,dw t.sort,dw t.sym,av]
theorem Sl (w:World)(t:Doc.Term)(a:eu)(m b:Nat)(c:TypeId)(n:Nat)(d:n=w.heap.size):∀j u,(lh t (.slice a m b))[j]?=some u->((w.alloc (.cells #[dD t.text,dw t.op,dw t.sort,dw t.sym,.slice a m b] c)).drew).cell? (((dA n 0):Addr).add j)=some u:=by
 subst d;intro j u h;show(w.alloc _).cell? _=_
 match j,h with
 | 0,h=>simp[lh,eO,Addr.add]at h ⊢;exact h
 | 1,h=>simp[lh,Addr.add]at h ⊢;exact h
 | 2,h=>simp[lh,Addr.add]at h ⊢;exact h
 | 3,h=>simp[lh,Addr.add]at h ⊢;exact h
 | 4,h=>simp[lh,Addr.add]at h ⊢;exact h
 | n+5,h=>simp[lh]at h
theorem YZ (t:Doc.Term)(b:eu)(m c:Nat):∀u∈lh t (.slice b m c),u.oneCell'=true:=by
 intro u a;simp only[lh,List.mem_cons,List.not_mem_nil,or_false]at a;rcases a with rfl|rfl|rfl|rfl|rfl<;>rfl
def iZ (w w':World)(own:Own)(k sb:Nat)(S:Doc.dO)(R:Except Nat (List Doc.Term × Nat))(e:Ending):Prop:=
 ∃own',Fr own own' k w w'/\match R with
  | .ok r=>e=dF (dM #[dw r.2,dw 0])/\ed w' own' k sb { S with terms:=r.1 }
  | .error er=>e=dF (dM #[dw 0,dw er])/\ed w' own' k sb S
theorem MK {o:Option Nat}(h:o=some n):placeOf o=n:=aoK
theorem Gh (a k:Nat)(own:Own)(S:Doc.dO)(t:Doc.Term)(G:Value)(w:World)(s:ed w own k a S)(H:eD own w)(I:k≠0)(u:fG w own G t.args)(hn:S.terms.length<=80) :
 dH 278 #[dK a 0,.agg #[dD t.text,dw t.op,dw t.sort,dw t.sym,G]] w λe w'=>iZ w w' own k a S (Doc.note S.terms t) e:=by
 have hR:=gU;obtain⟨i0,hi,hz0,hz1,hz2⟩:=info_parts X3;have aiu:=u;obtain⟨p,q,rfl,hcA,hmA,_⟩:=aiu;have v:dB w (w.alloc (.cells #[dD t.text,dw t.op,dw t.sort,dw t.sym,.slice p t.args.length q] 177)):=ai;have f:=dn (Yf a S.terms t.text _ (s.book.terms.below v));have J:Hid (Doc.note S.terms t=match Doc.place S.terms t.text with|some k=>.ok (S.terms,k)|none=>if S.terms.length=80 then .error 9 else .ok (S.terms++[t],S.terms.length)):=rfl;generalize Doc.note S.terms t=R at *;have b:=dn s;have x:=dn H;have c:=dn v;have YJ:=dn u;clear s H v u;cases hp:Doc.place S.terms t.text with
 | some K=>
  have y:Hid (placeOf (Doc.place S.terms t.text)=(K:Int)):=MK hp;have g:R=.ok (S.terms,K):=by have h:=J.o;rw[hp]at h;exact h
  rw[y.o]at f;clear hp;exact ap9
 | none=>
  have y:Hid (placeOf (Doc.place S.terms t.text)=-1):=by show _=_;rw[hp];rfl
  rw[y.o]at f;have L:Hid (R=if S.terms.length=80 then .error 9 else .ok (S.terms++[t],S.terms.length)):=by have h:=J.o;rw[hp]at h;exact h
  clear hp;obtain⟨vT,z,A⟩:=b.o.terms;obtain⟨j,l,rfl,hcap,hmax⟩:=A.form;have B:=dn A;have M:=dn z;have N:=c.o.dL z b.o.lt;clear A z
  by_cases m:S.terms.length=80
  ·have o80:((S.terms.length:Int)==80)=true:=by rw[m];rfl
   have g:R=.error 9:=by rw[L.o,if_pos m]
   clear m;exact ap9
  ·have o80:((S.terms.length:Int)==80)=false:=ak aR;have g:R=.ok (S.terms++[t],S.terms.length):=by rw[L.o,if_neg m]
   have hlt:=b.o.lt;obtain⟨r,O,P,Q,x4⟩:=B.o;have T:=dn O;have U:=λo=>(c.o.gq (b.o.fr o) hlt)
   have V:(Value.slice j S.terms.length l).ownBlock≠some a:=by
    intro h;obtain⟨_,_,c1,hc1⟩:=B.o.type a h;obtain⟨c2,hc2⟩:=b.o.obj;exact iH hc1 hc2 aY rfl
   have C:=dn V;have W:=dn (show iw (EI w own) r S.terms/\(∀bn∈r,bn.length=5) from⟨P,Q⟩);clear m O P Q x4 V;go_enter func278,ntmps278;go_wp2_with fail;refine f.o.mono ?_;rintro e i ⟨rfl,rfl⟩;go_upto_region 6 with fail
   go_cut [] (fun X=>∃D Y d,ky w X own d k a 1 (.slice j S.terms.length l) (dJ D (S.terms.length+1) Y)/\X.ownsRow 0 177 5 (dJ D (S.terms.length+1) Y) (S.terms.length+1) (r.flatten++lh t (.slice p t.args.length q))/\d D=k)
   case first=>
    go_region_law (refine jC rfl (.tmp 24) (.tmp 26) 78 rfl 0 177 i0 (.agg #[eB,dw 0,dw 0,dw 0,dE]) 5 64 underlying78 hi hz0 hz1 hz2 rfl aY (.slice j S.terms.length l) S.terms.length r.flatten cO (by exact((T.o.alloc _).alloc _).drew) (dA (w.heap.size+1) 0) 1 (lh t (.slice p t.args.length q)) cO rfl (by exact Sl _ t _ _ _ _ _ aW) (YZ _ _ _ _) bz aR aW ?_;intro Z fD i hown' E hg1 hg2;have q1:i.cell? (dA a 1)=some (.slice j S.terms.length l):=((eY E (a:=dA a 1) aX (fun e=>C.o e.symm)).trans (dV _ _ (dA a 1) aX)).trans N;have q2:i.frozen? (dA a 1)=false:=((fo E (a:=dA a 1) aX (fun e=>C.o e.symm)).trans (eF _ _ (dA a 1) aX)).trans (U 1))
    all_goals
     have hap:=qF (n:=S.terms.length+1) B.o x.o b.o.mine b.o.lt C.o ((c.o.alloc aW _).drew) M.o hown' E hg2;go_wp2;go_meet
     ·exact⟨Z,fD,_,hap.1,hap.2.1,amQ⟩
   case rest=>
    obtain⟨Z,fD,d,F,hown2,uk⟩:=hcut;have hcell:=F.cell;have n:=dn F;have HOWN:=dn hown2;have xD:=dn uk;clear F hown2 uk N U;go_wp2;go_ret2;rw[g];have hro:fG wc d (.slice p t.args.length q) t.args:=YJ.o.fr n.o.fr I;refine⟨d,n.o.fr,?_,b.o.sD M.o n.o I ?_⟩
    ·congr 2
    ·exact eU.snoc (w:=w) (C:=EI w own) (v:=.slice j S.terms.length l) ⟨T.o,W.o.1,W.o.2⟩ HOWN.o (λbq bA h=>uX w wc own d (λbg hb h0=>⟨n.o.fr.block bg hb aR,by rw[n.o.fr.ext bg hb,h0]⟩) bq bA h) ⟨_,rfl,hro⟩ rfl xD.o
theorem iZ.lift {own:Own}{S:Doc.dO}{R:Except Nat (List Doc.Term × Nat)}(a:eD own w)(b:dB w W)(c:iZ W u own n m S R h):iZ w u own n m S R h:=by
 exact ap5
theorem iZ.two {own:Own}{S:Doc.dO}{R:Except Nat (List Doc.Term × Nat)}(b:iZ w W own n m S R h):∃c d:Nat,h=dF (dM #[dw c,dw d]):=by
 obtain⟨f,g,a⟩:=b;cases R with
 | ok r=>exact⟨r.2,0,a.1⟩
 | error e=>exact⟨0,e,a.1⟩
theorem eD.below {own:Own}(h:eD own w)(a:dB w W):eD own W:=λb c=>h b (Nat.le_trans a.size c)
theorem Z9 (g k:Nat)(own:Own)(S:Doc.dO)(x:dN)(w:World)(v:ed w own k g S)(y:eD own w)(Z:k≠0)(hn:S.terms.length<=80)(hx:x.length<=1000000) :
 dH 243 #[dK g 0,dD x] w λe o=>iZ w o own k g S (Doc.leaf S.syms S.terms x) e:=by
 have hR:=gU
 have z:Hid (∀(t:Doc.Term) W,t.args=[]->dB w W->dH 278 #[dK g 0,.agg #[dD t.text,dw t.op,dw t.sort,dw t.sym,dE]] W λe o=>iZ w o own k g S (Doc.note S.terms t) e):=
  λt W ht i=>(Gh g k own S t (dE) W (v.below i) (y.below i) Z (by rw[ht];exact fG.nil _ _) hn).mono (λe o h=>h.lift y i)
 have p:Hid (∀W,dB w W->dH 190 #[dK g 0,dD x] W λe o=>e=dF (dw (placeOf (Doc.gD S.syms x)))/\o=W):=
  λW i=>Gw g S.syms S.terms x W (v.below i).book
 have q:=dn (λW=>Jg x W hx)
 have r:Hid (Doc.leaf S.syms S.terms x=if x=Doc.ou then Doc.note S.terms ⟨x,1,1,0,[]⟩
  else if x=Doc.lZ then Doc.note S.terms ⟨x,2,1,0,[]⟩
  else if Doc.digits x=true then Doc.note S.terms ⟨x,14,2,0,[]⟩
  else match Doc.gD S.syms x with
   | none=>.error 5
   | some s=>if 0<(Doc.iD S.syms s).length then .error 7 else Doc.note S.terms ⟨x,13,Doc.iW S.syms s,s,[]⟩):=rfl
 generalize Doc.leaf S.syms S.terms x=R at *;have A:=dn v;have K:=dn y;have a:Hid (∀(L M N:Int) ,dB w (w.alloc (.cells #[dD x,dw L,dw M,dw N,dE] 177))):=λL M N=>ai;have HDD:=dn (λs=>Doc.nK (ss:=S.syms) (w:=x) (s:=s));generalize hdg:Doc.digits x=dg at *;generalize hfs:Doc.gD S.syms x=fs at *;clear v y hdg hfs;cases h1:(x==[116,114,117,101])
 ·have d:x≠Doc.ou:=by simpa[Doc.ou] using h1
  cases h2:(x==[102,97,108,115,101])
  ·have j:x≠Doc.lZ:=by simpa[Doc.lZ] using h2
   cases dg
   ·cases fs with
    | none=>
     have b:R=.error 5:=by have h:=r.o;rw[if_neg d,if_neg j,if_neg aW]at h;exact h
     clear d j;go_enter func243,ntmps243;go_wp2_with fail;refine(q.o _).mono ?_;rintro e f ⟨rfl,rfl⟩;go_wp2_with fail;refine(p.o _ (a.o 1 1 0)).mono ?_;rintro e f ⟨rfl,rfl⟩;have hm1:placeOf none=-1:=rfl;exact aqX
    | some s=>
     have B:R=if 0<(Doc.iD S.syms s).length then .error 7 else Doc.note S.terms ⟨x,13,Doc.iW S.syms s,s,[]⟩:=by have h:=r.o;rw[if_neg d,if_neg j,if_neg aW]at h;exact h
     obtain⟨u,hs2⟩:=HDD.o s rfl;have O:Doc.iD S.syms s=S.syms[s].args:=by unfold Doc.iD;rw[aF u]
     have P:Doc.iW S.syms s=S.syms[s].sort:=by unfold Doc.iW;rw[aF u]
     rw[O,P]at B;have Q:=dn B;obtain⟨vS,C,c2⟩:=A.o.book.syms;obtain⟨aS,Uw,rfl,hcap,hmax,T⟩:=c2;unfold maxLen at hmax;obtain⟨D,rfl,E⟩:=T s u;obtain⟨av,F,e2⟩:=(E u).args;have U:=(E u).sort;obtain⟨aA,mY,rfl,hcA,hmA,hju⟩:=e2;unfold maxLen at hmA;have V:=aj F;have lb:=aj C;have X:Hid (∀W,dB w W->W.dQ g 0=some (dJ D S.syms.length Uw)/\W.dQ D (s*3+1)=some (.slice aA S.syms[s].args.length mY)/\W.dQ D (s*3+2)=some (dw S.syms[s].sort)):=λW i=>⟨(i.dL C lb),(i.dL F V),(i.dL U V)⟩;obtain⟨d1,d2,d3⟩:=X.o _ (a.o 1 1 0);obtain⟨d1',d2',d3'⟩:=X.o _ (a.o 13 1 0);have hps:placeOf (some s)=(s:Int):=rfl;clear d j B C F U T E O P hs2 hju;generalize S.syms[s].args.length=na at *;generalize S.syms[s].sort=G at *
     by_cases Y:0<na
     ·have b:R=.error 7:=by rw[Q.o,if_pos Y]
      go_enter func243,ntmps243;go_wp2_with fail;refine(q.o _).mono ?_;rintro e f ⟨rfl,rfl⟩;go_wp2_with fail;refine(p.o _ (a.o 1 1 0)).mono ?_;rintro e f ⟨rfl,rfl⟩;exact aqX
     ·have b:R=Doc.note S.terms ⟨x,13,G,s,[]⟩:=by rw[Q.o,if_neg Y]
      have l:=dn b;have m:=dn (z.o ⟨x,13,G,s,[]⟩ _ rfl (a.o 13 G s));clear b;exact apr
   ·have b:R=Doc.note S.terms ⟨x,14,2,0,[]⟩:=by have h:=r.o;rw[if_neg d,if_neg j,if_pos rfl]at h;exact h
    have l:=dn b;have m:=dn (z.o ⟨x,14,2,0,[]⟩ _ rfl (a.o 14 2 0));clear b d j;exact apr
  ·have j:x=Doc.lZ:=by simpa[Doc.lZ] using h2
   have b:R=Doc.note S.terms ⟨x,2,1,0,[]⟩:=by have h:=r.o;rw[if_neg d,if_pos j]at h;exact h
   have l:=dn b;have m:=dn (z.o ⟨x,2,1,0,[]⟩ _ rfl (a.o 2 1 0));clear b d j;exact apr
 ·have d:x=Doc.ou:=by simpa[Doc.ou] using h1
  have b:R=Doc.note S.terms ⟨x,1,1,0,[]⟩:=by have h:=r.o;rw[if_pos d]at h;exact h
  have l:=dn b;have m:=dn (z.o ⟨x,1,1,0,[]⟩ _ rfl (a.o 1 1 0));clear b d;exact apr
theorem VM {a:List Doc.Sym}{r:List fB}(t:ab6 w n a r){s:Nat}(e:s<a.length):∃g c f d,a.length<=c/\c<=2 ^ 63-1/\a[s].args.length<=d/\d<=2 ^ 63-1/\
 (∀W,dB w W->W.cell? (dA n 0)=some (dJ g a.length c)/\W.cell? (dA g (s*3))=some (dD a[s].name)/\W.cell? (dA g (s*3+1))=some (.slice f a[s].args.length d)/\W.cell? (dA g (s*3+2))=some (dw a[s].sort))/\
 (∀j (i:j<a[s].args.length),∃h,f=some (dA h 0)/\∀W,dB w W->W.cell? (dA h j)=some (dw a[s].args[j])):=by
 obtain⟨G,m,u⟩:=t.syms;obtain⟨H,c,rfl,v,o,x⟩:=u;unfold maxLen at o;obtain⟨g,rfl,k⟩:=x s e;obtain⟨I,p,y⟩:=(k e).args;have z:=(k e).sort;have A:=(k e).name;obtain⟨f,d,rfl,B,q,C⟩:=y;unfold maxLen at q;have l:=aj p;have D:=aj m;refine⟨g,c,f,d,v,o,B,q,λW b=>⟨(b.dL m D),(b.dL A l),(b.dL p l),(b.dL z l)⟩,λj i=>?_⟩;obtain⟨h,E,F⟩:=C j i;exact⟨h,E,λW b=>(b.eT (F i))⟩
theorem KR {a:List fB}(o:oU w n a)(p:eX w v l)(q:∀r∈l,r<a.length):∃d b e c,v=.slice d l.length b/\l.length<=b/\b<=2 ^ 63-1/\a.length<=c/\c<=2 ^ 63-1/\
 (∀W,dB w W->W.cell? (dA n 1)=some (.slice e a.length c))/\
 (∀j (i:j<l.length),∃f gt,d=some (dA f 0)/\e=some (dA gt 0)/\l[j]<a.length/\∀W,dB w W->W.cell? (dA f j)=some (dw l[j])/\W.cell? (dA gt (l[j]*5+2))=some (dw (Doc.dY a l[j]))):=by
 obtain⟨F,s,t⟩:=o;obtain⟨e,c,rfl,u,k,x⟩:=t;unfold maxLen at k;obtain⟨d,b,rfl,y,m,z⟩:=p;unfold maxLen at m;refine⟨d,b,e,c,rfl,y,m,u,k,λW g=>(g.eT s),λj i=>?_⟩;obtain⟨f,A,B⟩:=z j i;have h:l[j]<a.length:=q _ aW;obtain⟨gt,C,D⟩:=x l[j] h;have E:=(D h).sort;refine⟨f,gt,A,C,h,λW g=>⟨(g.eT (B i)),?_⟩⟩;rw[uZ h];exact(g.eT E)
theorem QU (b k:Nat)(own:Own)(S:Doc.dO)(s:Nat)(I:Value)(a:List Nat)(w:World)(h:ed w own k b S)(o:eD own w)(hk:k≠0)(hn:S.terms.length<=80)(p:s<S.syms.length)(r:fG w own I a)(J:∀bg∈a,bg<S.terms.length)
 (hl:∀t∈S.terms,t.text.length<=800) (hnm:S.syms[s].name.length<=1000) (hna:a.length<=1000) :
 dH 244 #[dK b 0,dw s,I] w λf i=>iZ w i own k b S (Doc.applied S.syms S.terms s a) f:=by
 have hR:=gU;obtain⟨bn,Uw,aA,mY,u1,u2,u3,u4,u5,u6⟩:=VM h.book p;obtain⟨u,v,aT,lL,rfl,v1,v2,v3,v4,K,L⟩:=KR h.book.terms r.ints J
 have uT:Hid (∀(t:Doc.Term) W,t.args=a->dB w W->dH 278 #[dK b 0,.agg #[dD t.text,dw t.op,dw t.sort,dw t.sym,.slice u a.length v]] W λf i=>iZ w i own k b S (Doc.note S.terms t) f):=
  λt W ht g=>(Gh b k own S t (.slice u a.length v) W (h.below g) (o.below g) hk (by rw[ht];exact r.below g) hn).mono (λf i x=>x.lift o g)
 have IV:Hid (∀W,dB w W->dH 279 #[dK b 0,dD S.syms[s].name,.slice u a.length v] W λf i=>f=dF (eO (Doc.written S.terms S.syms[s].name a))/\dB W i):=
  λW g=>Ff b S.terms S.syms[s].name (.slice u a.length v) a W (h.below g).book.terms (r.below g).ints J hl hnm hna
 have M:Doc.iD S.syms s=S.syms[s].args:=by unfold Doc.iD;rw[aF p]
 have N:Doc.iW S.syms s=S.syms[s].sort:=by unfold Doc.iW;rw[aF p]
 have en:Doc.lC S.syms s=S.syms[s].name:=Doc.qP p
 have C:Hid (Doc.applied S.syms S.terms s a=if a.length=0\/a.length≠S.syms[s].args.length then .error 7 else if a.map (Doc.dY S.terms)≠S.syms[s].args then .error 7 else Doc.note S.terms ⟨Doc.written S.terms S.syms[s].name a,13,S.syms[s].sort,s,a⟩):=by
  show _=_;unfold Doc.applied;rw[M,N,en]
 generalize Doc.applied S.syms S.terms s a=R at *;have D:=dn h;have E:=dn o;have O:=dn u5;have jl:=dn u6;have oQ:=dn K;have xI:=dn L;obtain⟨d1,d2,d3,d4⟩:=u5 w af;clear h o M N en u5 u6 K L r
 by_cases l:a.length=0
 ·have o0:((a.length:Int)==0)=true:=by rw[l];rfl
  have c:R=.error 7:=by rw[C.o,if_pos (.inl l)]
  clear l;exact aq5
 ·have o0:((a.length:Int)==0)=false:=ak aR
  by_cases m:a.length=S.syms[s].args.length
  ·have ol:((a.length:Int) !=(S.syms[s].args.length:Int))=false:=by rw[m];simp
   have RN:=dn m;have P:Hid (R=if a.map (Doc.dY S.terms)≠S.syms[s].args then .error 7 else Doc.note S.terms ⟨Doc.written S.terms S.syms[s].name a,13,S.syms[s].sort,s,a⟩):=by show _=_;rw[C.o,if_neg aR]
   have hle:a.length<=S.syms[s].args.length:=aR;clear m l;go_enter func244,ntmps244;go_wp2_with fail
   go_loopw [8] (fun F wr=>∃q:Nat,F=dw q/\q<=a.length/\(∀j (d:j<a.length) (y:j<S.syms[s].args.length),j<q->Doc.dY S.terms a[j]=S.syms[s].args[j])/\dB w wr) (fun F _=>a.length-(intOf F).toNat)
   ·exact⟨0,rfl,aR,by intro j _ _ x;omega,af⟩
   case round=>
    obtain⟨q,rfl,hq,Q,e⟩:=hrel;obtain⟨c1,c2,c3,c4⟩:=O.o wr e;have c5:=oQ.o wr e;have T:=dn Q;have z:=dn e;clear d1 d2 d3 d4 Q
    by_cases U:q<a.length
    ·have V:q<S.syms[s].args.length:=aR;obtain⟨ga,gt,rfl,rfl,hal,X⟩:=xI.o q U;obtain⟨e1,e2⟩:=X wr e;obtain⟨gs,rfl,Y⟩:=jl.o q V;have e3:=Y wr e;clear X Y e;generalize A:a[q]=G at *
     by_cases n:Doc.dY S.terms G=S.syms[s].args[q]
     ·have o1:((Doc.dY S.terms G:Int) !=(S.syms[s].args[q]:Int))=false:=by rw[n];simp
      have HSQ:=dn n;have HA':=dn A;clear n A;go_wp2_with fail;go_quiet (fail);go_wp2;go_roundw
      case rel=>
       refine⟨q+1,bL,aR,?_,below_drewN z.o _⟩;intro j d y h3
       by_cases hjq:j=q
       ·subst hjq;rw[HA'.o];exact HSQ.o
       ·exact T.o j d y aR
      case measure=>exact aph
     ·have o1:((Doc.dY S.terms G:Int) !=(S.syms[s].args[q]:Int))=true:=bJ
      have c:R=.error 7:=by
       rw[P.o,if_pos];intro x;apply n;have d:(a.map (Doc.dY S.terms))[q]?=S.syms[s].args[q]?:=by rw[x]
       rw[List.getElem?_map,aF U,aF V,A]at d;exact anF
      clear n A;go_wp2_with fail;go_quiet (fail);go_wp2;go_ret2;rw[c];exact⟨own,Fr.of_below k E.o (below_drewN z.o _),rfl,D.o.below (below_drewN z.o _)⟩
    ·have c:R=Doc.note S.terms ⟨Doc.written S.terms S.syms[s].name a,13,S.syms[s].sort,s,a⟩:=by
      rw[P.o,if_neg];rw[ne_eq,Decidable.not_not];apply List.ext_getElem
      ·rw[List.length_map];exact RN.o
      ·intro j d y;rw[List.getElem_map];rw[List.length_map]at d;exact T.o j d y aR
     have Yt:=dn c;have HW:=dn (IV.o wr e);clear c e;go_wp2_with fail;refine HW.o.dX λZ hb1=>?_;have B:=z.o.dW hb1;have HB2:=dn B;obtain⟨c1',c2',c3',c4'⟩:=O.o Z B;have HN:=dn (uT.o ⟨Doc.written S.terms S.syms[s].name a,13,S.syms[s].sort,s,a⟩ Z rfl B);generalize Doc.written S.terms S.syms[s].name a=bq at *;clear hb1 B c1 c2 c3 c4 c5;unfold eO;go_wp2_with fail;refine HN.o.mono ?_;rintro f w2 H;obtain⟨bA,q',rfl⟩:=H.two;have HP:=dn H;clear H;go_wp2;go_ret2;rw[Yt.o];exact HP.o
  ·have ol:((a.length:Int) !=(S.syms[s].args.length:Int))=true:=bJ;have c:R=.error 7:=by rw[C.o,if_pos (.inr m)]
   clear m l;exact aq5
theorem mQ.new (w:World)(f:Doc.Form)(t:TypeId):mQ (w.alloc (.cells #[dD f.word,dD f.print,dw f.op,dw f.least,dw f.most,dw f.args,dw f.sort] t)) w.heap.size 0 f:=⟨aW,aW,aW,aW,aW,aW,aW⟩
theorem mQ.below {o:Nat}{f:Doc.Form}(h:mQ w n o f)(a:dB w W):mQ W n o f:=h.block (a.block n (aj h.word))
theorem MP (a:List fB)(x:dN)(b:List Nat)(k:Nat)(h:k<Doc.forms.length):Doc.jY a x b (Doc.forms.drop k)=if Doc.forms[k].word=x then(match Doc.fits a Doc.forms[k] b with|none=>Doc.jY a x b (Doc.forms.drop (k+1))|some c=>match Doc.turned a x Doc.forms[k] b with|none=>.error 8|some l=>Doc.note a ⟨Doc.written a Doc.forms[k].print l,Doc.forms[k].op,c,0,l⟩) else Doc.jY a x b (Doc.forms.drop (k+1)):=by
 rw[List.drop_eq_getElem_cons h]
 conv=>lhs;unfold Doc.jY
 rfl
theorem Ny (w:World)(own:Own)(a b:Nat)(t:TypeId)(c:own w.heap.size=0):fG (w.alloc (.cells #[dw a,dw b] t)) own (dJ w.heap.size 2 2) [a,b]:=by
 refine⟨some (dA w.heap.size 0),2,rfl,aW,bz,λi hi=>⟨w.heap.size,rfl,c,λh=>?_⟩⟩
 match i,h with
 | 0,_=>simp
 | 1,_=>simp
theorem Uj:∀f∈Doc.forms,f.print.length<=1000:=aY
theorem adE:∀f∈Doc.forms,f.word=[62,61]\/f.word=[62]->f.op≠18:=aY
theorem Vp {e:List Doc.Sym}{a:List fB}(f:Doc.iB e a)(k:Nat)(c:k<a.length):a[k].op=15->∃b,a[k].args[0]?=some b/\b<a.length:=by
 intro l;have d:=f.terms k c
 have g:0<a[k].args.length:=by
  cases d.made with
  | bool b=>omega
  | num b=>omega
  | app b=>omega
  | form h i b _ j _ _=>
   have m:=Doc.nX h i;have n:=Doc.jO j;exact aR
 exact⟨a[k].args[0],aF g,Nat.lt_trans (d.args _ aW) c⟩
theorem MN (i F:Nat)(own:Own)(S:Doc.dO)(x:dN)(G:Value)(a:List Nat)(w:World)(H:ed w own F i S)(hfr:eD own w)(hk:F≠0)(hw:Doc.iB S.syms S.terms)(j:fG w own G a)(hlt:∀u∈a,u<S.terms.length)(hna:a.length<=1000) :
 dH 245 #[dK i 0,dD x,G] w λe p=>iZ w p own F i S (Doc.oH S.terms x a) e:=by
 have hR:=gU;obtain⟨aB,Oy,aT,lL,rfl,v1,v2,v3,v4,v5,v6⟩:=KR H.book.terms j.ints hlt;have hn:=hw.many
 have uT:Hid (∀(D:Doc.Term) G W,fG W own G D.args->dB w W->dH 278 #[dK i 0,.agg #[dD D.text,dw D.op,dw D.sort,dw D.sym,G]] W λe p=>iZ w p own F i S (Doc.note S.terms D) e):=
  λD G W hi r=>(Gh i F own S D G W (H.below r) (hfr.below r) hk hi hn).mono (λe p h=>h.lift hfr r)
 have IV:Hid (∀(f:Doc.Form) v vl W,f∈Doc.forms->(∀u∈v,u<S.terms.length)->v.length<=1000->fG W own vl v->dB w W->dH 279 #[dK i 0,dD f.print,vl] W λe p=>e=dF (eO (Doc.written S.terms f.print v))/\dB W p):=
  λf v vl W hf hl hll hi r=>Ff i S.terms f.print vl v W (H.below r).book.terms hi.ints hl hw.long (Uj f hf) hll
 have HFI:Hid (∀(f:Doc.Form) fb W,f∈Doc.forms->mQ W fb 0 f->dB w W->dH 280 #[dK i 0,dK fb 0,.slice aB a.length Oy] W λe p=>e=ES (Doc.fits S.terms f a)/\dB W p):=
  λf fb W hf hfa r=>aaN i fb S.terms f (.slice aB a.length Oy) a W (H.below r).book.terms hfa hf (j.below r).ints hlt hna
 have Yy:Hid (∀q W,q<S.terms.length->dB w W->dH 247 #[dK i 0,dw q] W λe p=>e=dF (.bool (Doc.number S.terms q))/\p=W):=
  λq W hq r=>Ti i S.terms q W (H.below r).book.terms hq (Vp hw q hq)
 have HF:Hid (∀I (h:I<Doc.forms.length),mQ (w.alloc (.cells (Doc.forms.flatMap jE).toArray 325)) w.heap.size (I*7) Doc.forms[I]):=Ol w 325;have HB:Hid (dB w (w.alloc (.cells (Doc.forms.flatMap jE).toArray 325))):=ai;have HL:Hid (Doc.forms.length=16):=rfl;have HFO:=dn (KG w);have Pp:=dn (MP S.terms x a);have abG:Hid (Doc.oH S.terms x a=Doc.jY S.terms x a (Doc.forms.drop 0)):=rfl;generalize Doc.oH S.terms x a=R at *;have HS:=dn H;have nV:=dn hfr;have HA:=dn j;have qI:=dn hlt;have xI:=dn v6;have hsz0:(w.alloc (.cells (Doc.forms.flatMap jE).toArray 325)).heap.size=w.heap.size+1:=aW;generalize hwf:w.alloc (.cells (Doc.forms.flatMap jE).toArray 325)=wf at *;clear H hfr j hlt v5 v6 hw hwf;go_enter func245,ntmps245;go_wp2_with fail;refine HFO.o.mono ?_;rintro e w1 ⟨rfl,rfl⟩;go_wp2_with fail
 go_loopw [9] (fun I wr=>∃q:Nat,I=dw q/\q<=16/\R=Doc.jY S.terms x a (Doc.forms.drop q)/\dB w1 wr) (fun I _=>16-(intOf I).toNat)
 ·exact⟨0,rfl,aR,abG.o,af⟩
 case round=>
  obtain⟨q,rfl,hq,hres,J⟩:=hrel;have HR:=dn hres;have om:=dn J;have hsz:=J.size;clear hres
  by_cases hlq:q<16
  ·have hl:q<Doc.forms.length:=by rw[HL.o];exact hlq
   have E:=(HF.o q hl).below J;have hmem:Doc.forms[q]∈Doc.forms:=aW;have hop:=Pp.o q hl;generalize Doc.forms[q]=f at *;have f0:=E.word;have f1:=E.print;have f2:=E.op;have f3:=E.least;have f4:=E.most;have f5:=E.args;have f6:=E.sort;have hb2:dB w1 (wr.alloc (.cells #[dD f.word,dD f.print,dw f.op,dw f.least,dw f.most,dw f.args,dw f.sort] 325)):=J.alloc hsz _;have hb3:=HB.o.dW hb2;have HB2:=dn hb2;have HB3:=dn hb3;have nU:=dn (mQ.new wr f 325);have JV:=dn (HFI.o f wr.heap.size _ hmem nU.o hb3);have K:=dn hmem;have agf:=dn hop;clear E hmem hop hb2 hb3 J;cases hwd:(f.word==x)
   ·have hne:f.word≠x:=by simpa using hwd
    have jF:Hid (R=Doc.jY S.terms x a (Doc.forms.drop (q+1))):=by show _=_;rw[HR.o,agf.o,if_neg hne]
    clear hne;go_wp2;go_roundw
    ·exact⟨q+1,bL,aR,jF.o,HB2.o⟩
    ·exact aph
   ·have heq:f.word=x:=by simpa using hwd
    have HR2:=HR.o;rw[agf.o,if_pos heq]at HR2;have HR2:=dn HR2;have Ja:=dn heq;clear heq;go_wp2_with fail;refine JV.o.mono ?_;rintro e g ⟨he,hb4⟩;have hb5:=HB2.o.dW hb4;have hb6:=HB3.o.dW hb4;have BI:=dn hb5;have b:=dn hb6;have s:=dn (nU.o.below hb4);cases hfit:Doc.fits S.terms f a with
    | none=>
     rw[hfit]at he;subst he;have jF:Hid (R=Doc.jY S.terms x a (Doc.forms.drop (q+1))):=by have h:=HR2.o;rw[hfit]at h;exact h
     clear hfit hb4 hb5 hb6;unfold ES;go_wp2;go_roundw
     ·exact⟨q+1,bL,aR,jF.o,BI.o⟩
     ·exact aph
    | some y=>
     rw[hfit]at he;subst he;have HR3:Hid (R=match Doc.turned S.terms x f a with|none=>.error 8|some v=>Doc.note S.terms ⟨Doc.written S.terms f.print v,f.op,y,0,v⟩):=by have h:=HR2.o;rw[hfit]at h;exact h
     have acN:=dn hfit;clear hfit hb4 hb5 hb6;unfold ES;have q2:=s.o.op;have q1:=s.o.print;simp only[Nat.zero_add]at q1 q2;have Gl:w.heap.size<=g.heap.size:=b.o.size
     by_cases t:x=[62,61]\/x=[62]
     ·have hlen:a.length=2:=by
       have L:=Doc.yS f K.o (by rw[Ja.o];rcases t with h|h;exact .inl h;exact .inr (.inl h));have h2:=Doc.jO acN.o;exact aR
      have z:f.op≠18:=adE f K.o (by rw[Ja.o];exact t);have o18:((f.op:Int)==18)=false:=ak aR;have A:Doc.turned S.terms x f a=some (Doc.swap a):=by unfold Doc.turned;rw[if_neg z,if_pos t]
      have h0:0<a.length:=aR;have L:1<a.length:=aR;obtain⟨ga,gt1,rfl,hgt1,Ud,hc0⟩:=xI.o 0 h0;obtain⟨ga',gt2,m,hgt2,Uc,hc1⟩:=xI.o 1 L;injection m with m
      injection m with m;subst m;have a0:=(hc0 g b.o).1;have a1:=(hc1 g b.o).1;have hsw:Doc.swap a=[a[1],a[0]]:=by unfold Doc.swap;rw[getD_lt L,getD_lt h0]
      rw[hsw]at A;have n:R=Doc.note S.terms ⟨Doc.written S.terms f.print [a[1],a[0]],f.op,y,0,[a[1],a[0]]⟩:=by have h:=HR3.o;rw[A]at h;exact h
      have M:=dn n;have I4:=dn ((Ny g own a[1] a[0] 3 (nV.o _ b.o.size)).below (af.drew))
      have hxs:(x==[62,61])=true\/((x==[62,61])=false/\(x==[62])=true):=by
       cases h:(x==[62,61])
       ·rcases t with h'|h'
        ·rw[h']at h;cases h
        ·exact .inr ⟨rfl,by rw[h'];rfl⟩
       ·exact .inl rfl
      have B:=dn ((b.o.alloc b.o.size (.cells #[dw (a[1]:Nat),dw (a[0]:Nat)] 3)).drew);have C:=dn ((s.o.below ((Below.refl g.heap.size g).alloc ae (.cells #[dw (a[1]:Nat),dw (a[0]:Nat)] 3))).below (af.drew))
      have I6:Hid (∀u∈[a[1],a[0]],u<S.terms.length):=by
       exact aqT
      clear hc0 hc1 t hlen hgt1 hgt2 n A hsw z;generalize a[0]=k at *;generalize a[1]=l at *;rcases hxs with hx1|⟨hx1,hx2⟩
      all_goals
       exact apv
     ·have hx1:(x==[62,61])=false:=by
       rw[beq_eq_false_iff_ne];intro h;exact t (.inl h)
      have hx2:(x==[62])=false:=by
       rw[beq_eq_false_iff_ne];intro h;exact t (.inr h)
      by_cases z:f.op=18
      ·have o18:((f.op:Int)==18)=true:=by rw[z];rfl
       have hlen:a.length=2:=by
        have L:=Doc.yS f K.o (.inr (.inr z));have h2:=Doc.jO acN.o;exact aR
       have h0:0<a.length:=aR;have L:1<a.length:=aR;obtain⟨ga,gt1,rfl,hgt1,Ud,hc0⟩:=xI.o 0 h0;obtain⟨ga',gt2,m,hgt2,Uc,hc1⟩:=xI.o 1 L;injection m with m
       injection m with m;subst m;have a0:=(hc0 g b.o).1;have a1:=(hc1 g b.o).1
       have A:Doc.turned S.terms x f a=if Doc.number S.terms a[0]=true then some a else if Doc.number S.terms a[1]=true then some [a[1],a[0]] else none:=by
        unfold Doc.turned Doc.swap;rw[if_pos z,getD_lt h0,getD_lt L]
       have HTH:=dn A;have HN0:=dn (Yy.o a[0] g Ud b.o);have HN1:=dn (Yy.o a[1] g Uc b.o);have I4:=dn ((Ny g own a[1] a[0] 3 (nV.o _ b.o.size)).below (af.drew));have B:=dn ((b.o.alloc b.o.size (.cells #[dw (a[1]:Nat),dw (a[0]:Nat)] 3)).drew);have C:=dn ((s.o.below ((Below.refl g.heap.size g).alloc ae (.cells #[dw (a[1]:Nat),dw (a[0]:Nat)] 3))).below (af.drew))
       have I6:Hid (∀u∈[a[1],a[0]],u<S.terms.length):=by
        exact aqT
       have YK:=dn (HA.o.below b.o);clear hc0 hc1 t hlen hgt1 hgt2 A z;generalize a[0]=k at *;generalize a[1]=l at *;generalize Doc.number S.terms k=n0 at *;generalize Doc.number S.terms l=n1 at *;go_wp2_with fail;refine HN0.o.mono ?_;rintro e wz ⟨rfl,rfl⟩;go_wp2_with fail;refine HN1.o.mono ?_;rintro e wz ⟨rfl,rfl⟩;cases n0
       ·cases n1
        ·have HRR:R=.error 8:=anT;go_wp2;go_ret2;rw[HRR];exact⟨own,Fr.of_below F nV.o b.o,rfl,HS.o.below b.o⟩
        ·have n:R=Doc.note S.terms ⟨Doc.written S.terms f.print [l,k],f.op,y,0,[l,k]⟩:=anT;have M:=dn n;clear n;exact apv
       ·have n:R=Doc.note S.terms ⟨Doc.written S.terms f.print a,f.op,y,0,a⟩:=anT;have M:=dn n;clear n;exact apA
      ·have o18:((f.op:Int)==18)=false:=ak aR;have A:Doc.turned S.terms x f a=some a:=by unfold Doc.turned;rw[if_neg z,if_neg t]
       have n:R=Doc.note S.terms ⟨Doc.written S.terms f.print a,f.op,y,0,a⟩:=by have h:=HR3.o;rw[A]at h;exact h
       have M:=dn n;have YK:=dn (HA.o.below b.o);clear n A t z;exact apA
  ·have HRR:R=.error 7:=by
    rw[HR.o,List.drop_eq_nil_of_le (by rw[HL.o];omega)];rfl
   have hbt:=HB.o.dW J;have FZ:=dn hbt;clear hbt J;go_wp2;go_ret2;rw[HRR];exact⟨own,Fr.of_below F nV.o FZ.o,rfl,HS.o.below FZ.o⟩
structure rq (w wr:World)(own wZ:Own)(k sb d:Nat)(c:Tc)(t:Doc.Tr)(S:Doc.dO)(ts:List Doc.Term)(v:Value)(acc:List Nat):Prop where
 fr:Fr own wZ k w wr
 stack:ed wr wZ k sb { S with terms:=ts }
 row:wr.ownsRow (w.heap.size+1) 3 1 v acc.length (acc.map (λa:Nat=>Value.int .i64 (a:Int)))
 mine:∀b,v.ownBlock=some b->wZ b=k+1
 box:lU wr w.heap.size 0 c
 JO:wZ w.heap.size=0
 tree:jy wr (λg=>wZ g=0) d c t
 wf:Doc.iB S.syms ts
 lt:∀a∈acc,a<ts.length
 ext:∃ex,ts=S.terms++ex
 size:w.heap.size<wr.heap.size
theorem lU.fr {own:Own}{o:Nat}(h:lU w m o D)(a:Fr own O n w W)(b:own m≠n):lU W m o D:=h.block (a.block m (aj h.x) b)
theorem lU.new (w:World)(c:Tc)(t:TypeId):lU (w.alloc (.cells #[dD c.x,.bool c.bb,.slice c.ao c.m c.cap,dw c.p] t)) w.heap.size 0 c:=⟨aW,aW,aW,aW⟩
theorem rq.start {w:World}{own:Own}{k sb d:Nat}{c:Tc}{t:Doc.Tr}{S:Doc.dO}(g:ed w own k sb S)(f:eD own w)(h:jy w (λi=>own i=0) d c t)(j:Doc.iB S.syms S.terms){W:World}(b:Below (w.heap.size+1) (w.alloc (.cells #[dD c.x,.bool c.bb,.slice c.ao c.m c.cap,dw c.p] 138)) W) :
 rq w W own own k sb d c t S S.terms (dE) []:=by
 have l:dB w (w.alloc (.cells #[dD c.x,.bool c.bb,.slice c.ao c.m c.cap,dw c.p] 138)):=ai;have e:=l.trans (b.mono aR);refine⟨Fr.of_below k f e,g.below e,World.ownsRow_nil _ _ _ _,(by intro n b;simp[Value.ownBlock]at b),(lU.new w c _).block (b.block _ aR),f _ ae,h.below e,j,(by intro a m;cases m),⟨[],aW⟩,?_⟩;have:=b.size;simp at this;exact aR
theorem rq.after {wr:World}{own:Own}{S:Doc.dO}{f c:List Doc.Term}(h:rq w wr own o n m k D Y S f v l)(g:n≠0)(a:Fr o O n wr W)(i:ed W O n m { S with terms:=c })(j:Doc.iB S.syms c)(p:∃e,c=f++e) :
 rq w W own O n m k D Y S c v l:=by
 obtain⟨e,rfl⟩:=p;obtain⟨q,r⟩:=h.ext;refine⟨h.fr.trans a,i,a.owns h.row (λb d=>by rw[h.mine b d];omega),λb d=>?_,h.box.fr a (by rw[h.JO];omega),?_,h.tree.fr a g,j,λs t=>by have:=h.lt s t;simp;omega,⟨q++e,by rw[r];simp⟩,Nat.lt_of_lt_of_le h.size a.size⟩
 ·rw[a.ext b (h.row.lt b d).2];exact h.mine b d
 ·rw[a.ext _ h.size];exact h.JO
theorem rq.snoc {w wr q n:World}{own i:Own}{k u r:Nat}{c:Tc}{t:Doc.Tr}{S:Doc.dO}{s:List Doc.Term}{v:Value}{j:List Nat}(h:rq w wr own i k u r c t S s v j){a:Nat}(z:a<s.length)(l:dB wr q){g cap:Nat}
 (x:n.ownsRow (w.heap.size+1) 3 1 (dJ g (j.length+1) cap) (j.length+1) (j.map (λa:Nat=>Value.int .i64 (a:Int))++[dw (a:Int)])) (m:q.grownBy n v.ownBlock) (C:w.heap.size+1<=g) (A:v.ownBlock=some g\/q.heap.size<=g) :
 rq w n own (dG i g (k+1)) k u r c t S s (dJ g (j.length+1) cap) (j++[a]):=by
 have D:=l.size;have E:=m.size
 have p:∀b,b<wr.heap.size->i b≠k+1->n.heap[b]?=wr.heap[b]?/\dG i g (k+1) b=i b:=λb d e=>by
  have o:v.ownBlock≠some b:=λf=>e (h.mine b f);refine⟨(m.block b aR (λf=>o f.symm)).trans (l.block b d),?_⟩;unfold dG;rw[if_neg];intro f;rcases A with y|y
  ·rw[f]at o;exact o y
  ·exact aR
 have F:g<n.heap.size:=(x.lt g rfl).2;refine⟨⟨?_,?_,?_,?_,?_,?_,?_⟩,?_,?_,?_,?_,?_,?_,h.wf,?_,h.ext,?_⟩
 ·exact(m.os.trans l.os).trans h.fr.os
 ·exact(m.tape.trans l.tape).trans h.fr.tape
 ·exact(m.output.trans l.output).trans h.fr.output
 ·have:=h.fr.size;exact aR
 ·intro b d e;have B:b<wr.heap.size:=Nat.lt_of_lt_of_le d h.fr.size;have o:v.ownBlock≠some b:=λf=>aP ((h.row.lt b f).1);exact((m.block b aR (λf=>o f.symm)).trans (l.block b B)).trans (h.fr.block b d e)
 ·intro b d;unfold dG;rw[if_neg aR];exact h.fr.ext b d
 ·intro b d;unfold dG;rw[if_neg aR];exact h.fr.fresh b aR
 ·exact h.stack.step (λb d e=>p b d (by rcases e with e|e<;>rw[e]<;>omega))
 ·simpa using x
 ·intro b d;have:g=b:=by simpa[Value.ownBlock] using d
  subst this;exact amQ
 ·exact h.box.block (p _ h.size (by rw[h.JO];omega)).1
 ·rw[(p _ h.size (by rw[h.JO];omega)).2];exact h.JO
 ·exact jy.kept (λb d e=>by
   have:=p b d (by rw[show i b=0 from e];omega);exact⟨this.1,by rw[this.2];exact e⟩) r c t h.tree
 ·intro b d;rcases List.mem_append.1 d with d|d
  ·exact h.lt b d
  ·rw[List.mem_singleton.1 d];exact z
 ·exact aR
theorem Fj (b:List Nat):(b.map (λa:Nat=>[Value.int .i64 (a:Int)])).flatten=b.map (λa:Nat=>Value.int .i64 (a:Int)):=by
 induction b with
 | nil=>rfl
 | cons a l c=>rw[List.map_cons,List.flatten_cons,c];rfl
def lu (own:Own)(v:Value):Own:=λb=>if v.ownBlock=some b then 0 else own b
theorem rq.done {wr:World}{own:Own}{S:Doc.dO}{e:List Doc.Term}(h:rq w wr own o n m k D Y S e v l) :
 Fr own (lu o v) n w wr/\ed wr (lu o v) n m { S with terms:=e }/\fG wr (lu o v) v l/\eD (lu o v) wr/\lu o v w.heap.size=0:=by
 have j:∀b,o b=0\/o b=n->n≠n+1->lu o v b=o b:=λb f _=>by
  unfold lu
  by_cases d:v.ownBlock=some b
  ·have:=h.mine b d;exact aR
  ·rw[if_neg d]
 refine⟨⟨h.fr.os,h.fr.tape,h.fr.output,h.fr.size,h.fr.block,?_,?_⟩,h.stack.step (λb _ f=>⟨rfl,j b f aR⟩),?_,?_,?_⟩
 ·intro b a;unfold lu;rw[if_neg (λp=>aP ((h.row.lt b p).1))];exact h.fr.ext b a
 ·intro b a;unfold lu;split
  ·rfl
  ·exact h.fr.fresh b a
 ·have q:=yj (xs:=l.map (λc:Nat=>[Value.int .i64 (c:Int)])) (n:=l.length) (v:=v) (w:=wr) (base:=w.heap.size+1) (e:=3) (sz:=1) (by
   have:=h.row;rw[show(l.map (λc:Nat=>[Value.int .i64 (c:Int)])).flatten=l.map (λc:Nat=>Value.int .i64 (c:Int)) from Fj l];exact this) aW (by intro B r;obtain⟨c,_,rfl⟩:=List.mem_map.1 r;rfl)
  obtain⟨s,t,d,u,x,y⟩:=q;refine⟨s,t,d,u,x,λi hi=>?_⟩;obtain⟨z,g,a,A⟩:=y i hi;refine⟨z,g,?_,λC=>?_⟩
  ·unfold lu;rw[if_pos (by rw[d,g];rfl)]
  ·have:=A di 0 aR (dw (l[i]:Int)) aW;simpa using this
 ·intro b a;unfold lu;split
  ·rfl
  ·exact h.fr.fresh b a
 ·unfold lu;split
  ·rfl
  ·exact h.JO
end Go.Proofs.YtjiagbaaikifpaaGreatDoor
namespace Doc
theorem yL {ts:List Term}{t:Term}{e:Nat}(h:note ts t=.error e):e≠0:=by
 unfold note at h;split at h
 ·cases h
 ·split at h
  ·exact anP
  ·cases h
theorem Z8 {ss:List Sym}{ts:List Term}{x:Str}{e:Nat}(h:leaf ss ts x=.error e):e≠0:=by
 unfold leaf at h
 repeat' split at h
 all_goals first
  | exact yL h
  | (injection h with h;omega)
theorem QT {ss:List Sym}{ts:List Term}{s:Nat}{args:List Nat}{e:Nat}(h:applied ss ts s args=.error e):e≠0:=by
 unfold applied at h
 repeat' split at h
 all_goals first
  | exact yL h
  | (injection h with h;omega)
theorem Qs {ts:List Term}{w:Str}{args:List Nat}{e:Nat}:∀a:List Form,jY ts w args a=.error e->e≠0:=by
 intro a
 induction a with
 | nil=>intro h;injection h with h;omega
 | cons f a b=>
  intro h;unfold jY at h
  repeat' split at h
  all_goals first
   | exact b h
   | exact yL h
   | (injection h with h;omega)
end Doc
namespace Go.Proofs.YtjiagbaaikifpaaGreatDoor
open Go.RowKit Go.Proofs.Tryz
variable {W u w:World}{h:Ending}{i j k m n:Nat}{o:Own}
def iV (w w':World)(own:Own)(k sb:Nat)(S:Doc.dO)(R:Except (Nat × Nat) (List Doc.Term × Nat))(e:Ending):Prop:=
 ∃own',Fr own own' k w w'/\match R with
  | .ok r=>(∃p:Nat,e=dF (dM #[dw r.2,dw 0,dw p]))/\ed w' own' k sb { S with terms:=r.1 }
  | .error x=>e=dF (dM #[dw 0,dw x.1,dw x.2])/\x.1≠0/\∃ex,ed w' own' k sb { S with terms:=S.terms++ex }
theorem iZ.term {own:Own}{S:Doc.dO}{d:List Doc.Term}{R:Except Nat (List Doc.Term × Nat)}(g:Fr own o n w W)(h:∃b,d=S.terms++b)(l:iZ W u o n m { S with terms:=d } R (dF (dM #[dw k,dw i])))
 (p:∀e,R=.error e->e≠0):iV w u own n m S (Doc.je j R) (dF (dM #[dw k,dw i,dw j])):=by
 obtain⟨q,r,f⟩:=l;refine⟨q,g.trans r,?_⟩;cases R with
 | ok s=>
  obtain⟨a,c⟩:=f;injection a with a
  injection a with a;simp only[Array.mk.injEq,List.cons.injEq,Value.int.injEq,true_and,and_true]at a;exact⟨⟨j,by rw[a.1,a.2]⟩,c⟩
 | error e=>
  obtain⟨a,c⟩:=f;injection a with a
  injection a with a;simp only[Array.mk.injEq,List.cons.injEq,Value.int.injEq,true_and,and_true]at a;obtain⟨b,rfl⟩:=h;exact⟨by rw[a.1,a.2],p e rfl,b,c⟩
theorem iV.below {own:Own}{S:Doc.dO}{R:Except (Nat × Nat) (List Doc.Term × Nat)}(d:iV w W own n m S R h)(a:dB W u):iV w u own n m S R h:=by
 obtain⟨e,c,b⟩:=d;have f:=c.trans (Fr.of_below n c.fresh a);refine⟨e,f,?_⟩;cases R with
 | ok r=>exact⟨b.1,b.2.below a⟩
 | error x=>obtain⟨g,i,j,k⟩:=b;exact⟨g,i,j,k.below a⟩
theorem Yb (a k d:Nat)(own:Own)(S:Doc.dO)(p:Nat)(x:dN)(w:World)(g:ed w own k a S)(c:eD own w)(m:k≠0)(n:Doc.iB S.syms S.terms)(o:x.length<=1000000) :
 dH 192 #[dK a 0,.agg #[dD x,dP,dE,dw p]] w λe q=>iV w q own k a S (Doc.term S.syms (d+1) (.word p x) S.terms) e:=by
 have B:=gU;have b:dB w (w.alloc (.cells #[dD x,dP,dE,dw p] 138)):=ai;have r:=dn (Z9 a k own S x _ (g.below b) (c.below b) m n.many o);have s:=dn b;have h:=dn c;have t:Hid (Doc.term S.syms (d+1) (.word p x) S.terms=Doc.je p (Doc.leaf S.syms S.terms x)):=rfl;have u:=dn (λe=>Doc.Z8 (ss:=S.syms) (ts:=S.terms) (x:=x) (e:=e));have C:=dn (λW (v:Below (w.heap.size+1) (w.alloc (.cells #[dD x,dP,dE,dw p] 138)) W)=>(lU.new w ⟨x,false,none,0,0,p⟩ 138).block (v.block w.heap.size aR));generalize Doc.term S.syms (d+1) (.word p x) S.terms=R at *;generalize Doc.leaf S.syms S.terms x=y at *;clear b c g;go_enter func192,ntmps192;go_wp2_with fail;refine r.o.mono ?_;rintro e i j;obtain⟨D,E,rfl⟩:=j.two;obtain⟨z,f,l⟩:=j;have F:i.dQ w.heap.size 3=some (dw p):=f.cell (p:=dA w.heap.size 3) aW (by rw[h.o w.heap.size ae];omega);have A:Hid (iZ _ i own k a S y _):=⟨z,f,l⟩;clear f l;go_wp2_with fail;go_quiet (fail);go_wp2;go_ret3;rw[t.o];exact(iZ.term (Fr.of_below k h.o s.o) ⟨[],aW⟩ A.o u.o).below (below_drewN af _)
end Go.Proofs.YtjiagbaaikifpaaGreatDoor
namespace Doc
variable {n:Nat}{r:List Tr}
theorem mG (h:oks r):∀k∈r,k.ok:=by
 induction r with
 | nil=>intro k a;cases a
 | cons c r b=>
  simp only[oks]at h;intro k a;rcases List.mem_cons.1 a with rfl|a
  ·exact h.1
  ·exact b h.2 k a
theorem kH {ks:List Tr}:∀k∈ks,k.width+1<=fE ks:=by
 induction ks with
 | nil=>intro k a;cases a
 | cons c ks b=>
  intro k a;simp only[fE];rcases List.mem_cons.1 a with rfl|a
  ·exact aR
  ·have:=b k a;exact aR
theorem xg {one:Tr->List Term->Except (Nat × Nat) (List Term × Nat)}(h:n<r.length)(a:List Term)(b:List Nat) :
 iN one (r.drop n) a b=match one r[n] a with|.error x=>.error x|.ok c=>iN one (r.drop (n+1)) c.1 (b++[c.2]):=by
 rw[List.drop_eq_getElem_cons h];rfl
theorem Mh (b:List Sym)(d p:Nat){a:List Tr}(c:List Term)(h:a.length=0):term b (d+1) (.list p a) c=.error (4,p):=by
 have:a=[]:=List.eq_nil_of_length_eq_zero h;subst this;rfl
theorem J8 (b:List Sym)(d p:Nat){a:List Tr}(c:List Term){q:Nat}{e:List Tr}(h:a[0]?=some (.list q e)):term b (d+1) (.list p a) c=.error (4,q):=by
 cases a with
 | nil=>cases h
 | cons f a=>simp at h;subst h;rfl
theorem J7 (a:List Sym)(d p:Nat){b:List Tr}(c:List Term){q:Nat}{x:Str}(h:b[0]?=some (.word q x)):term a (d+1) (.list p b) c =
 if lT x=false/\gD a x=none then .error (5,q) else match iN (term a d) (b.drop 1) c [] with|.error x=>.error x|.ok r=>je p (if lT x=true then oH r.1 x r.2 else applied a r.1 ((gD a x).getD 0) r.2):=by
 cases b with
 | nil=>cases h
 | cons e b=>simp at h;subst h;rfl
end Doc
namespace Go.Proofs.YtjiagbaaikifpaaGreatDoor
open Go.RowKit Go.Proofs.Tryz
variable {A:List Doc.Tr}{D:Tc}{O o:Own}{W u w:World}{Y:Doc.Tr}{b:List Value}{e:TypeId}{h:Ending}{i k m n:Nat}{v:Value}
theorem nk:(prog.info? 3).map (λi=>(i.zero,i.size,i.bytes))=some (some (dw 0),1,8):=bR
theorem ik (h:w.ownsRow n e k v m b):∃d a,v=.slice d m a/\m<=a/\a<=2 ^ 63-1:=by
 rcases h.2 with ⟨c,f⟩|⟨j,a,l,c,_,_,g,i,_⟩
 ·exact⟨none,0,by rw[c,f],aR,aR⟩
 ·exact⟨_,a,c,g,by unfold maxLen at i;omega⟩
theorem iV.err {own:Own}{S:Doc.dO}(a:Fr own o n w W)(b:ed W o n m S)(c:k≠0):iV w W own n m S (.error (k,i)) (dF (dM #[dw 0,dw k,dw i])):=
 ⟨o,a,rfl,c,[],amJ⟩
theorem Yc (h k d:Nat)(own:Own)(S:Doc.dO)(p:Nat)(a:List Doc.Tr)(ao:eu)(A:Nat)(w:World)(hS:ed w own k h S)(hfr:eD own w)(hk:k≠0)(hw:Doc.iB S.syms S.terms)(ht:jy w (λl=>own l=0) (d+1) ⟨[],true,ao,a.length,A,p⟩ (.list p a))(hok:Doc.oks a)(hwd:Doc.fE a<=800)
 (ih:∀(K:Doc.Tr) (B:Tc) (own:Own) (S:Doc.dO) (w:World),ed w own k h S->eD own w->Doc.iB S.syms S.terms->jy w (λl=>own l=0) d B K->K.ok->K.width<=800->
  dH 192 #[dK h 0,.agg #[dD B.x,.bool B.bb,.slice B.ao B.m B.cap,dw B.p]] w λg O=>iV w O own k h S (Doc.term S.syms d K S.terms) g) :
 dH 192 #[dK h 0,.agg #[eB,fu,.slice ao a.length A,dw p]] w λg O=>iV w O own k h S (Doc.term S.syms (d+1) (.list p a) S.terms) g:=by
 have hR:=gU;obtain⟨i0,hi,hz0,hz1,hz2⟩:=info_parts nk;obtain⟨_,_,_,P⟩:=id ht;obtain⟨ao',cap',hsv,hc1,hc2,hel⟩:=P;injection hsv with e1 e2 e3
 simp only at e1 e3;subst e1 e3;unfold maxLen at hc2;have hb0:dB w (w.alloc (.cells #[eB,fu,.slice ao a.length A,dw p] 138)):=ai;have Q:=dn hb0;have nV:=dn hfr;have HS:=dn hS
 have hkl:a.length<=1000:=by
  have:∀a:List Doc.Tr,a.length<=Doc.fE a:=by
   intro a
   induction a with
   | nil=>simp
   | cons L a ih=>simp only[Doc.fE,List.length_cons];omega
  have:=this a;exact aR
 have PM:=dn hel;clear hel
 by_cases R:a.length=0
 ·have o0:((a.length:Int)==0)=true:=by rw[R];rfl
  have M:Hid (Doc.term S.syms (d+1) (.list p a) S.terms=.error (4,p)):=Doc.Mh _ _ _ _ R;clear R;exact ap6
 ·have o0:((a.length:Int)==0)=false:=ak aR;have hpos:0<a.length:=aR;obtain⟨l,rfl,hg0,aeZ⟩:=PM.o 0 hpos;obtain⟨C,hkc,D⟩:=aeZ hpos;have Jz:=hkc.block (hb0.block l (aj hkc.x));obtain⟨k0,k1,_,T⟩:=id Jz;simp only[Nat.zero_mul,Nat.zero_add]at k0 k1 T;have U:a[0]?=some a[0]:=aF hpos;generalize a[0]=t0 at *;clear aeZ Jz;cases t0 with
  | list N qs=>
   have hbb:C.bb=true/\C.p=N:=by
    cases d with
    | zero=>exact D.elim
    | succ d=>exact⟨D.2.1,D.2.2.1⟩
   rw[hbb.1]at k1;rw[hbb.2]at T;have M:Hid (Doc.term S.syms (d+1) (.list p a) S.terms=.error (4,N)):=Doc.J8 _ _ _ _ U;clear D hkc hg0 hb0 R U hbb;exact ap6
  | word N x=>
   have hkw:C=⟨x,false,none,0,0,N⟩:=by
    cases d with
    | zero=>exact D.elim
    | succ d=>exact D
   subst hkw;simp only at k0 k1 T
   have hxl:x.length<=1000:=by
    have:=Doc.kH (.word N x) (List.mem_of_getElem? U);simp only[Doc.Tr.width]at this;exact aR
   have M:=dn (Doc.J7 S.syms d p S.terms U);have IW:=dn (λW=>Ma x W)
   have wT:Hid (∀W,dB w W->dH 190 #[dK h 0,dD x] W λg O=>g=dF (dw (placeOf (Doc.gD S.syms x)))/\O=W):=
    λW hb=>Gw h S.syms S.terms x W (hS.below hb).book
   have Ew:=dn (λs=>Doc.nK (ss:=S.syms) (w:=x) (s:=s))
   have HLG:Hid (w.heap.size≠l):=by
    have:=aj hkc.x;show w.heap.size≠l;simp only at this;exact aR
   generalize Doc.term S.syms (d+1) (.list p a) S.terms=V at *;generalize hio:Doc.lT x=io at *;generalize hfs:Doc.gD S.syms x=fs at *;have HIO:=dn hio;clear D hg0 hb0 R U hio hfs;go_enter func192,ntmps192;go_wp2_with fail;refine(IW.o _).dX λw1 X=>?_;have hb2:=Q.o.trans (X.mono aW);have HB1:=dn X;have HB2:=dn hb2;have ajS:=dn (wT.o w1 hb2);have b2:=(X.cell (p:=dA w.heap.size 2) aW).trans (show _=some (dJ l a.length A) by simp);have k3':=X.eT T;clear X hb2 k0 k1 T;go_wp2_with fail;refine ajS.o.mono ?_;rintro g q ⟨rfl,rfl⟩
   by_cases hnone:io=false/\fs=none
   ·obtain⟨rfl,rfl⟩:=hnone;have hm1:placeOf none=-1:=rfl;have m:V=.error (5,N):=by rw[M.o,if_pos ⟨rfl,rfl⟩]
    go_wp2_with fail;go_quiet (fail);go_wp2;go_ret3;rw[m];exact(iV.err (Fr.of_below k nV.o HB2.o) (HS.o.below HB2.o) aR).below (below_drewN af _)
   ·have Ac:=dn hnone;have UY:=M.o;rw[if_neg Ac.o]at UY;have zl:=dn (rq.start (k:=k) (sb:=h) (d:=d+1) (c:=⟨[],true,some (dA l 0),a.length,A,p⟩) (t:=.list p a) HS.o nV.o ht hw (HB1.o.mono aW));have oP:=dn (Doc.mG hok);have UW:=dn (λK i=>Nat.le_trans (Doc.kH (ks:=a) K i) hwd);have K8:=dn ih;obtain⟨z,Oe⟩:=aK (Doc.iN (Doc.term S.syms d) (a.drop 1) S.terms []);rw[Oe]at UY;have aga:=dn Oe;have HT2:=dn UY;clear Oe UY hnone ht hok hwd ih;cases io
    ·cases fs with
     | none=>exact absurd ⟨rfl,rfl⟩ Ac.o
     | some s=>
      obtain⟨hs1,hs2⟩:=Ew.o s rfl
      have ajk:Hid (S.syms[s].name.length<=1000):=by
       show _<=_;rw[hs2];exact hxl
      have hps:placeOf (some s)=(s:Int):=rfl;clear hs2;go_wp2_with fail
      go_loopw [12,13] (fun bg E wr=>∃(j:Nat) (b:List Nat) (e:List Doc.Term) (t:Own),E=dw j/\1<=j/\j<=a.length/\b.length<=j/\rq w wr own t k h (d+1) ⟨[],true,some (dA l 0),a.length,A,p⟩ (.list p a) S e bg b/\Doc.iN (Doc.term S.syms d) (a.drop j) e b=z) (fun _ E _=>a.length-(intOf E).toNat)
      ·exact⟨1,[],S.terms,own,rfl,aR,aR,aW,zl.o,aga.o⟩
      case round=>
       obtain⟨j,b,e,t,rfl,hj1,hj2,hacc,c,Y⟩:=hrel;have F:=dn c;have G:=dn Y;have c2:=c.box.k;have Z:=c.box.p;simp only[Nat.zero_add]at c2 Z;obtain⟨av,Ay,rfl,hv1,hv2⟩:=ik c.row;clear Y b2 k3'
       by_cases H:j<a.length
       ·obtain⟨_,_,_,P⟩:=c.tree;obtain⟨KS,cap2,aak,_,_,Ct⟩:=P;injection aak with f1 f2 f3
        simp only at f1 f3;subst f1 f3;obtain⟨g2,f,ho2,Ht⟩:=Ct j H;injection f with f;injection f with f;subst f;obtain⟨C,n,NN⟩:=Ht H;have m0:=n.x;have m1:=n.b;have m2:=n.k;have m3:=n.p;have hmem:a[j]∈a:=aW;have Cr:=oP.o a[j] hmem;have TL:=UW.o a[j] hmem;have Pz:=dn (K8.o a[j] C t { S with terms:=e } wr c.stack c.fr.fresh c.wf NN Cr aR);have CY:=dn (λr=>Doc.uW S.syms d a[j] e r c.wf Cr aR);have rW:=dn (Doc.xg (one:=Doc.term S.syms d) H e b);clear Ht Ct NN n c;generalize a[j]=tj at *;go_wp2_with fail;refine Pz.o.mono ?_;rintro g q ⟨Ce,u,v⟩;cases hT:Doc.term S.syms d tj e with
        | error xx=>
         exact apM
        | ok r=>
         exact aps
       ·have Ps:Hid (z=.ok (e,b)):=by
         show _=_;rw[<-G.o,List.drop_eq_nil_of_le aR];rfl
        obtain⟨z1,z2,z3,z4,z5⟩:=c.done;have HZ1:=dn z1;have La:=dn c.ext;have mq:=dn (QU h k (lu t (.slice av b.length Ay)) { S with terms:=e } s _ b wr z2 z4 hk c.wf.many hs1 z3 c.lt c.wf.long ajk.o aR);have mP:=dn (λg=>Doc.QT (ss:=S.syms) (ts:=e) (s:=s) (args:=b) (e:=g));have m:V=Doc.je p (Doc.applied S.syms e s b):=by rw[HT2.o,Ps.o];rfl
        exact apF
    ·generalize placeOf fs=pf at *;go_wp2_with fail
     go_loopw [12,13] (fun bg E wr=>∃(j:Nat) (b:List Nat) (e:List Doc.Term) (t:Own),E=dw j/\1<=j/\j<=a.length/\b.length<=j/\rq w wr own t k h (d+1) ⟨[],true,some (dA l 0),a.length,A,p⟩ (.list p a) S e bg b/\Doc.iN (Doc.term S.syms d) (a.drop j) e b=z) (fun _ E _=>a.length-(intOf E).toNat)
     ·exact⟨1,[],S.terms,own,rfl,aR,aR,aW,zl.o,aga.o⟩
     case round=>
      obtain⟨j,b,e,t,rfl,hj1,hj2,hacc,c,Y⟩:=hrel;have F:=dn c;have G:=dn Y;have c2:=c.box.k;have Z:=c.box.p;simp only[Nat.zero_add]at c2 Z;obtain⟨av,Ay,rfl,hv1,hv2⟩:=ik c.row;clear Y b2 k3'
      by_cases H:j<a.length
      ·obtain⟨_,_,_,P⟩:=c.tree;obtain⟨KS,cap2,aak,_,_,Ct⟩:=P;injection aak with f1 f2 f3
       simp only at f1 f3;subst f1 f3;obtain⟨g2,f,ho2,Ht⟩:=Ct j H;injection f with f;injection f with f;subst f;obtain⟨C,n,NN⟩:=Ht H;have m0:=n.x;have m1:=n.b;have m2:=n.k;have m3:=n.p;have hmem:a[j]∈a:=aW;have Cr:=oP.o a[j] hmem;have TL:=UW.o a[j] hmem;have Pz:=dn (K8.o a[j] C t { S with terms:=e } wr c.stack c.fr.fresh c.wf NN Cr aR);have CY:=dn (λr=>Doc.uW S.syms d a[j] e r c.wf Cr aR);have rW:=dn (Doc.xg (one:=Doc.term S.syms d) H e b);clear Ht Ct NN n c;generalize a[j]=tj at *;go_wp2_with fail;refine Pz.o.mono ?_;rintro g q ⟨Ce,u,v⟩;cases hT:Doc.term S.syms d tj e with
       | error xx=>
        exact apM
       | ok r=>
        exact aps
      ·have Ps:Hid (z=.ok (e,b)):=by
        show _=_;rw[<-G.o,List.drop_eq_nil_of_le aR];rfl
       obtain⟨z1,z2,z3,z4,z5⟩:=c.done;have HZ1:=dn z1;have La:=dn c.ext;have mq:=dn (MN h k (lu t (.slice av b.length Ay)) { S with terms:=e } x _ b wr z2 z4 hk c.wf z3 c.lt aR);have mP:=dn (λg=>Doc.Qs (ts:=e) (w:=x) (args:=b) (e:=g) Doc.forms);have m:V=Doc.je p (Doc.oH e x b):=by rw[HT2.o,Ps.o];rfl
       exact apF
theorem abo (a k:Nat)(e:k≠0):∀(d:Nat) (t:Doc.Tr) (c:Tc) (own:Own) (S:Doc.dO) (w:World),ed w own k a S->eD own w->Doc.iB S.syms S.terms->jy w (λq=>own q=0) d c t->t.ok->t.width<=800->
 dH 192 #[dK a 0,.agg #[dD c.x,.bool c.bb,.slice c.ao c.m c.cap,dw c.p]] w λr s=>iV w s own k a S (Doc.term S.syms d t S.terms) r:=by
 intro d
 induction d with
 | zero=>intro t c own S w _ _ _ b;exact b.elim
 | succ d u=>
  intro t c own S w f g h b i j;cases t with
  | word p x=>
   have v:c=⟨x,false,none,0,0,p⟩:=b;subst v;simp only[Doc.Tr.width]at j;exact Yb a k d own S p x w f g e h aR
  | list p y=>
   have z:=b;obtain⟨l,m,n,o⟩:=z;obtain⟨x,F,A,G,B,C⟩:=c;simp only at l m n o;subst l m n;obtain⟨H,I,D,_⟩:=o;injection D with J E K
   subst E;simp only[Doc.Tr.ok]at i;simp only[Doc.Tr.width]at j;exact Yc a k d own S C y A B w f g e h b i aR u
theorem ed.vg {own:Own}{S:Doc.dO}(h:ed w own n m S){v f:Value}(x:w.cell? (dA m 0)=some v)(a:ky w W own O n m 0 v f)(P:n≠0){c:List Doc.Sym}(y:eU W O n 175 3 (yE W O) f c):ed W O n m { S with syms:=c }:=by
 obtain⟨Q,d,z⟩:=h.syms;obtain⟨A,B,k⟩:=h.terms;obtain⟨C,D,l⟩:=h.held;obtain⟨E,F,p⟩:=h.levels;rw[x]at d;injection d with d
 subst d;obtain⟨G,q⟩:=h.obj;have g:∀b,b<w.heap.size->own b=0->W.heap[b]?=w.heap[b]?/\O b=0:=λb e h=>⟨a.fr.block b e aR,by rw[a.fr.ext b e,h]⟩
 have i:∀{r:Type} {j:TypeId} {H:Nat} {I:List Value->r->Prop} {u:Value} {c:List r},eU w own n j H I u c->j≠83->j≠175->∀b,u.ownBlock=some b->W.heap[b]?=w.heap[b]?/\O b=own b:=λJ K L b e=>by
  obtain⟨_,s,R,t⟩:=J.type b e;refine⟨a.other b s (iH t q K) ?_,a.fr.ext b s⟩;intro M;obtain⟨_,_,T,N⟩:=z.type b M;exact iH t N L rfl
 refine⟨alY,a.type G _ q,λo=>(a.frozen o).trans (h.fr o),⟨f,a.cell,y⟩,⟨A,(a.cells 1 aR).trans B,k.step uX g (i k aY aY)⟩,⟨C,(a.cells 2 aR).trans D,l.step qV g (i l aY aY)⟩,⟨E,(a.cells 3 aR).trans F,p.step tZ g (i p aY aY)⟩⟩
theorem ed.vk {own:Own}{S:Doc.dO}(h:ed w own n m S){v f:Value}(x:w.cell? (dA m 2)=some v)(a:ky w W own O n m 2 v f)(P:n≠0){c:List Nat}(y:eU W O n 3 1 (Al W O) f c):ed W O n m { S with held:=c }:=by
 obtain⟨z,A,k⟩:=h.syms;obtain⟨B,C,l⟩:=h.terms;obtain⟨Q,d,D⟩:=h.held;obtain⟨E,F,p⟩:=h.levels;rw[x]at d;injection d with d
 subst d;obtain⟨G,q⟩:=h.obj;have g:∀b,b<w.heap.size->own b=0->W.heap[b]?=w.heap[b]?/\O b=0:=λb e h=>⟨a.fr.block b e aR,by rw[a.fr.ext b e,h]⟩
 have i:∀{r:Type} {j:TypeId} {H:Nat} {I:List Value->r->Prop} {u:Value} {c:List r},eU w own n j H I u c->j≠83->j≠3->∀b,u.ownBlock=some b->W.heap[b]?=w.heap[b]?/\O b=own b:=λJ K L b e=>by
  obtain⟨_,s,R,t⟩:=J.type b e;refine⟨a.other b s (iH t q K) ?_,a.fr.ext b s⟩;intro M;obtain⟨_,_,T,N⟩:=D.type b M;exact iH t N L rfl
 refine⟨alY,a.type G _ q,λo=>(a.frozen o).trans (h.fr o),⟨z,(a.cells 0 aR).trans A,k.step mD g (i k aY aY)⟩,⟨B,(a.cells 1 aR).trans C,l.step uX g (i l aY aY)⟩,⟨f,a.cell,y⟩,⟨E,(a.cells 3 aR).trans F,p.step tZ g (i p aY aY)⟩⟩
theorem ed.qm {w2:World}{own own':Own}{S:Doc.dO}(h:ed w own n m S){v f:Value}(x:w.cell? (dA m 3)=some v)(a:ky w w2 own own' n m 3 v f)(O:n≠0){c:List (Nat × Nat × Nat)}(y:eU w2 own' n 173 3 (DN w2 own') f c):ed w2 own' n m { S with levels:=c }:=by
 obtain⟨z,A,k⟩:=h.syms;obtain⟨B,C,l⟩:=h.terms;obtain⟨D,E,p⟩:=h.held;obtain⟨P,d,F⟩:=h.levels;rw[x]at d;injection d with d
 subst d;obtain⟨G,q⟩:=h.obj;have g:∀b,b<w.heap.size->own b=0->w2.heap[b]?=w.heap[b]?/\own' b=0:=λb e h=>⟨a.fr.block b e aR,by rw[a.fr.ext b e,h]⟩
 have i:∀{r:Type} {j:TypeId} {H:Nat} {I:List Value->r->Prop} {u:Value} {c:List r},eU w own n j H I u c->j≠83->j≠173->∀b,u.ownBlock=some b->w2.heap[b]?=w.heap[b]?/\own' b=own b:=λJ K L b e=>by
  obtain⟨_,s,Q,t⟩:=J.type b e;refine⟨a.other b s (iH t q K) ?_,a.fr.ext b s⟩;intro M;obtain⟨_,_,R,N⟩:=F.type b M;exact iH t N L rfl
 refine⟨alY,a.type G _ q,λo=>(a.frozen o).trans (h.fr o),⟨z,(a.cells 0 aR).trans A,k.step mD g (i k aY aY)⟩,⟨B,(a.cells 1 aR).trans C,l.step uX g (i l aY aY)⟩,⟨D,(a.cells 2 aR).trans E,p.step qV g (i p aY aY)⟩,⟨f,a.cell,y⟩⟩
theorem BU {own:Own}{v':Value}(f:eD own w)(g:own m=n)(i:w.cell? (dA m k)=some v):ky w (w.setCell (dA m k) v') own own n m k v v':=by
 have c:∀b,b≠m->(w.setCell (dA m k) v').heap[b]?=w.heap[b]?:=λb a=>aD a;have d:(w.setCell (dA m k) v').heap.size=w.heap.size:=amn;refine⟨⟨rfl,rfl,rfl,by rw[d];exact ae,λb _ j=>c b (λe=>j (by rw[e];exact g)),λ_ _=>rfl,λb a=>f b (by rw[d]at a;exact a)⟩,aC i,?_,λo=>World.frozen?_setCell _ _ _ _,λb _ l _=>c b l,λq e h=>lg h⟩;intro r p;exact ax (λh=>p amM)
theorem eU.set {c:Type}{C:World->Own->List Value->c->Prop}(l:II C){w:World}{own:Own}{k a f:Nat}{e d:TypeId}{g:Nat}{v u:Value}{h:List c}{m:Array Value}(i:eU w own k e g (C w own) v h)(n:own a≠0)(o:w.heap[a]?=some (.cells m d (0,0)))(p:e≠d) :
 eU (w.setCell (dA a f) u) own k e g (C (w.setCell (dA a f) u) own) v h:=by
 refine i.step l (λb _ j=>⟨aD (λe=>n (by rw[<-show b=a from e];exact j)),j⟩) (λb q=>⟨Below.heap_setCell _ _ _ _ ?_,rfl⟩);obtain⟨_,_,s,r⟩:=i.type b q;exact iH r o p
theorem ed.Gx {own:Own}{S:Doc.dO}{ao:eu}{cap n:Nat}(h:ed w own m k S)(e:eD own w)(c:m≠0)(b:w.cell? (dA k 1)=some (.slice ao S.terms.length cap))(f:n<=S.terms.length) :
 Fr own own m w (w.setCell (dA k 1) (.slice ao n cap))/\ed (w.setCell (dA k 1) (.slice ao n cap)) own m k { S with terms:=S.terms.take n }:=by
 obtain⟨v,a,g⟩:=h.terms;rw[b]at a;injection a with a
 subst a;obtain⟨j,i⟩:=h.obj;have d:=BU (v':=.slice ao n cap) e h.mine b;exact⟨d.fr,h.sD b d c ((g.take n f).set uX an4 i aY)⟩
theorem ed.adM {own:Own}{S:Doc.dO}{ao:eu}{cap n:Nat}(h:ed w own m k S)(e:eD own w)(c:m≠0)(b:w.cell? (dA k 0)=some (.slice ao S.syms.length cap))(f:n<=S.syms.length) :
 Fr own own m w (w.setCell (dA k 0) (.slice ao n cap))/\ed (w.setCell (dA k 0) (.slice ao n cap)) own m k { S with syms:=S.syms.take n }:=by
 obtain⟨v,a,g⟩:=h.syms;rw[b]at a;injection a with a
 subst a;obtain⟨j,i⟩:=h.obj;have d:=BU (v':=.slice ao n cap) e h.mine b;exact⟨d.fr,h.vg b d c ((g.take n f).set mD an4 i aY)⟩
theorem ed.adN {own:Own}{S:Doc.dO}{ao:eu}{cap n:Nat}(h:ed w own m k S)(e:eD own w)(c:m≠0)(b:w.cell? (dA k 2)=some (.slice ao S.held.length cap))(f:n<=S.held.length) :
 Fr own own m w (w.setCell (dA k 2) (.slice ao n cap))/\ed (w.setCell (dA k 2) (.slice ao n cap)) own m k { S with held:=S.held.take n }:=by
 obtain⟨v,a,g⟩:=h.held;rw[b]at a;injection a with a
 subst a;obtain⟨j,i⟩:=h.obj;have d:=BU (v':=.slice ao n cap) e h.mine b;exact⟨d.fr,h.vk b d c ((g.take n f).set qV an4 i aY)⟩
theorem ed.XC {own:Own}{S:Doc.dO}{ao:eu}{cap n:Nat}(h:ed w own m k S)(e:eD own w)(c:m≠0)(b:w.cell? (dA k 3)=some (.slice ao S.levels.length cap))(f:n<=S.levels.length) :
 Fr own own m w (w.setCell (dA k 3) (.slice ao n cap))/\ed (w.setCell (dA k 3) (.slice ao n cap)) own m k { S with levels:=S.levels.take n }:=by
 obtain⟨v,a,g⟩:=h.levels;rw[b]at a;injection a with a
 subst a;obtain⟨j,i⟩:=h.obj;have d:=BU (v':=.slice ao n cap) e h.mine b;exact⟨d.fr,h.qm b d c ((g.take n f).set tZ an4 i aY)⟩
theorem Sw (c:Tc)(w:World) :
 dH 191 #[.agg #[dD c.x,.bool c.bb,.slice c.ao c.m c.cap,dw c.p]] w λi j=>i=dF (dw (Doc.gJ c.x))/\dB w j:=by
 have k:=gU;have e:Hid (dB w (w.alloc (.cells #[dD c.x,.bool c.bb,.slice c.ao c.m c.cap,dw c.p] 138))):=ai;obtain⟨x,l,m,n,o,p⟩:=c;simp only at e;simp only;have g:Hid (Doc.gJ x=if x=[66,111,111,108] then 1 else if x=[73,110,116] then 2 else if x=[85] then 3 else 0):=rfl;generalize Doc.gJ x=h at *;cases h1:(x==[66,111,111,108])
 ·have a:x≠[66,111,111,108]:=by simpa using h1
  cases h2:(x==[73,110,116])
  ·have b:x≠[73,110,116]:=by simpa using h2
   cases h3:(x==[85])
   ·have f:x≠[85]:=by simpa using h3
    have d:Hid (h=0):=by show _=_;rw[g.o,if_neg a,if_neg b,if_neg f]
    clear a b f;exact ap7
   ·have f:x=[85]:=by simpa using h3
    have d:Hid (h=3):=by show _=_;rw[g.o,if_neg a,if_neg b,if_pos f]
    clear a b f;exact ap7
  ·have b:x=[73,110,116]:=by simpa using h2
   have d:Hid (h=2):=by show _=_;rw[g.o,if_neg a,if_pos b]
   clear a b;exact ap7
 ·have a:x=[66,111,111,108]:=by simpa using h1
  have d:Hid (h=1):=by show _=_;rw[g.o,if_pos a]
  clear a;exact ap7
theorem Lu (x:dN)(w:World)(e:0<x.length)(m:x.length<=1000000) :
 dH 189 #[dD x] w λf g=>f=dF (.bool (Doc.forbidden x))/\dB w g:=by
 have n:=gU
 have c:x.headD 0=x[0]:=by
  cases x with
  | nil=>simp at e
  | cons o u=>rfl
 have a:Hid (Doc.forbidden x=(Doc.lT x||x==[116,114,117,101]||x==[102,97,108,115,101]||x==[66,111,111,108]||x==[73,110,116]||x==[85]||!(Doc.letter x[0])||decide (8<x.length))):=by
  show _=_;unfold Doc.forbidden;exact am7
 have h:Hid (Doc.letter x[0]=((decide (97<=x[0].toNat)&&decide (x[0].toNat<=122))||(decide (65<=x[0].toNat)&&decide (x[0].toNat<=90)))):=rfl;have i:=dn (Ma x w);generalize Doc.forbidden x=j at *;generalize Doc.lT x=k at *;generalize Doc.letter x[0]=lt at *;clear c;go_enter func189,ntmps189;go_wp2_with fail;refine i.o.dX λp d=>?_;have b:=dn d;clear d;cases k
 ·cases h1:(x==[116,114,117,101])
  ·cases h2:(x==[102,97,108,115,101])
   ·cases h3:(x==[66,111,111,108])
    ·cases h4:(x==[73,110,116])
     ·cases h5:(x==[85])
      ·have l:Hid (j=(!lt||decide (8<x.length))):=by show _=_;rw[a.o,h1,h2,h3,h4,h5];simp
       by_cases q:(97:Int)<=x[0].toNat<;>by_cases r:(x[0].toNat:Int)<=122<;>by_cases s:(65:Int)<=x[0].toNat<;>by_cases t:(x[0].toNat:Int)<=90<;>by_cases v:(8:Int)<x.length
       all_goals
        first
        | (exfalso;omega)
        | (go_wp2
           go_ret;refine⟨dS ?_,b.o⟩;rw[l.o,h.o,Bool.eq_iff_iff];simp only[Bool.or_eq_true,Bool.not_eq_true',Bool.or_eq_false_iff,Bool.and_eq_false_iff,decide_eq_true_eq,decide_eq_false_iff_not,eq_self,true_iff];omega)
      ·go_wp2;go_ret;exact⟨dS (by rw[a.o,h5];simp),b.o⟩
     ·go_wp2;go_ret;exact⟨dS (by rw[a.o,h4];simp),b.o⟩
    ·go_wp2;go_ret;exact⟨dS (by rw[a.o,h3];simp),b.o⟩
   ·go_wp2;go_ret;exact⟨dS (by rw[a.o,h2];simp),b.o⟩
  ·go_wp2;go_ret;exact⟨dS (by rw[a.o,h1];simp),b.o⟩
 ·go_wp2;go_ret;exact⟨dS (by rw[a.o];simp),b.o⟩
def lI (w w':World)(own:Own)(k sb:Nat)(S:Doc.dO)(R:Except (Nat × Nat) Doc.dO)(e:Ending):Prop:=
 ∃own',Fr own own' k w w'/\match R with
  | .ok S'=>e=dF (dM #[dw 0,dw 0])/\ed w' own' k sb S'
  | .error x=>e=dF (dM #[dw x.1,dw x.2])/\ed w' own' k sb S
theorem lI.err {own:Own}{S:Doc.dO}(a:Fr own o n w W)(b:ed W o n m S):lI w W own n m S (.error (k,i)) (dF (dM #[dw k,dw i])):=⟨o,a,rfl,b⟩
theorem lI.below {own:Own}{S:Doc.dO}{R:Except (Nat × Nat) Doc.dO}(d:lI w W own n m S R h)(b:dB W u):lI w u own n m S R h:=by
 obtain⟨e,c,a⟩:=d;refine⟨e,c.trans (Fr.of_below n c.fresh b),?_⟩;cases R with
 | ok r=>exact⟨a.1,a.2.below b⟩
 | error x=>exact⟨a.1,a.2.below b⟩
theorem jy.kids {P:Nat->Prop}(l:jy w P (n+1) D (.list m A)):∃b a,D=⟨[],true,b,A.length,a,m⟩/\A.length<=a/\a<=2 ^ 63-1/\∀j (c:j<A.length),∃g,b=some (dA g 0)/\P g/\∃d:Tc,lU w g (j*4) d/\jy w P n d A[j]:=by
 obtain⟨e,f,h,i⟩:=l;obtain⟨y,z,b,B,a,C⟩:=D;simp only at e f h i;subst e f h;obtain⟨E,F,o,p,k,q⟩:=i;injection o with r s t
 subst r s t;unfold maxLen at k;refine⟨_,_,rfl,p,k,λj c=>?_⟩;obtain⟨g,u,v,x⟩:=q j c;exact⟨g,u,v,x c⟩
theorem UB {S:Doc.dO}{p:Nat}(h:A.length=2):Doc.assert S p A=match Doc.term S.syms 12 (A[1]' aR) S.terms with
 | .error x=>.error x
 | .ok r=>if Doc.dY r.1 r.2≠1 then .error (7,(A[1]' aR).pos) else if S.held.length=12 then .error (9,p) else .ok { S with terms:=r.1,held:=S.held++[r.2] }:=by
 match A,h with
 | [a,b],_=>rfl
theorem UC {S:Doc.dO}(h:A.length≠2):Doc.assert S n A=.error (4,n):=by
 match A,h with
 | [],_=>rfl
 | [a],_=>rfl
 | [a,b],h=>exact absurd rfl h
 | a::b::c::l,_=>rfl
theorem jy.pos {P:Nat->Prop}(h:jy w P n D Y):D.p=Y.pos:=by
 cases n with
 | zero=>exact h.elim
 | succ n=>
  cases Y with
  | word p x=>rw[show D=_ from h];rfl
  | list p a=>exact h.2.2.1
theorem jy.text {P:Nat->Prop}(h:jy w P n D Y):D.x=Y.text:=by
 cases n with
 | zero=>exact h.elim
 | succ n=>
  cases Y with
  | word p x=>rw[show D=_ from h];rfl
  | list p a=>exact h.1
theorem jy.isL {P:Nat->Prop}(h:jy w P n D Y):D.bb=Y.isList:=by
 cases n with
 | zero=>exact h.elim
 | succ n=>
  cases Y with
  | word p x=>rw[show D=_ from h];rfl
  | list p a=>exact h.2.1
theorem iV.lift {own:Own}{S:Doc.dO}{R:Except (Nat × Nat) (List Doc.Term × Nat)}(a:eD own w)(b:dB w W)(c:iV W u own n m S R h):iV w u own n m S R h:=by
 exact ap5
theorem iV.three {own:Own}{S:Doc.dO}{R:Except (Nat × Nat) (List Doc.Term × Nat)}(b:iV w W own n m S R h):∃c d e:Nat,h=dF (dM #[dw c,dw d,dw e]):=by
 obtain⟨g,i,a⟩:=b;cases R with
 | ok r=>obtain⟨⟨p,f⟩,_⟩:=a;exact⟨r.2,0,p,f⟩
 | error x=>exact⟨0,x.1,x.2,a.1⟩
structure acC (wx:World)(B g p q n cap:Nat)(kc:Tc):Prop where
 k2:wx.cell? (dA B 2)=some (dJ g n cap)
 k3:wx.cell? (dA B 3)=some (dw p)
 k4:wx.cell? (dA g 4)=some (dD kc.x)
 k5:wx.cell? (dA g 5)=some (.bool kc.bb)
 k6:wx.cell? (dA g 6)=some (.slice kc.ao kc.m kc.cap)
 k7:wx.cell? (dA g 7)=some (dw q)
def Came (w wx:World)(own:Own)(k sb:Nat)(S:Doc.dO)(R:Except (Nat × Nat) (List Doc.Term × Nat))(a b c:Value):Prop:=∃na nb nc:Nat,a=dw na/\b=dw nb/\c=dw nc/\iV w wx own k sb S R (dF (dM #[dw na,dw nb,dw nc]))
theorem UD (b k:Nat)(own:Own)(S:Doc.dO)(p:Nat)(a:List Doc.Tr)(j:Tc)(w:World)(A:ed w own k b S)(t:eD own w)(P:k≠0)(Q:Doc.iq S)(ht:jy w (λg=>own g=0) 13 j (.list p a))(hok:Doc.oks a)(hwd:Doc.fE a<=800) :
 dH 139 #[dK b 0,.agg #[dD j.x,.bool j.bb,.slice j.ao j.m j.cap,dw j.p]] w λl f=>lI w f own k b S (Doc.assert S p a) l:=by
 have hR:=gU;obtain⟨i0,hi,hz0,hz1,hz2⟩:=info_parts nk;obtain⟨ao,D,rfl,hc1,hc2,Cs⟩:=ht.kids;simp only;have B:dB w (w.alloc (.cells #[eB,fu,.slice ao a.length D,dw p] 138)):=ai;have HB0:=dn B;have HS:=dn A;have nV:=dn t
 by_cases E:a.length=2
 ·have h1l:1<a.length:=aR;obtain⟨g,rfl,hg0,c,F,hkt⟩:=Cs 1 h1l;have T:=dn (UB (S:=S) (p:=p) E);have hmem:a[1]∈a:=aW;have Cr:=Doc.mG hok a[1] hmem;have TL:=Doc.kH a[1] hmem;have hpos:=hkt.pos;have G:=F.block (B.block g (aj F.x));have m0:=G.x;have m1:=G.b;have m2:=G.k;have m3:=G.p;simp only[Nat.one_mul,Nat.reduceAdd]at m0 m1 m2 m3;have o2:((a.length:Int) !=2)=false:=by rw[E];rfl
  have acF:Hid (∀W,Below (w.heap.size+1) (w.alloc (.cells #[eB,fu,dJ g a.length D,dw p] 138)) W->dH 192 #[dK b 0,.agg #[dD c.x,.bool c.bb,.slice c.ao c.m c.cap,dw c.p]] W λl f=>
   (∃m n q:Nat,l=dF (dM #[dw m,dw n,dw q])/\iV w f own k b S (Doc.term S.syms 12 a[1] S.terms) (dF (dM #[dw m,dw n,dw q])))/\acC f w.heap.size g p c.p a.length D c):=by
   intro W u;have U:own g≠k:=by rw[show own g=0 from hg0];omega
   have V:g<w.heap.size+1:=by
    have:=aj F.x;simp only at this;exact aR
   have X:dB w W:=B.trans (u.mono aR);refine(abo b k P 12 a[1] c own S W (A.below X) (t.below X) Q.book (hkt.below X) Cr aR).mono ?_;intro l f H;obtain⟨m,n,q,rfl⟩:=H.three;obtain⟨s,h,q2⟩:=id H;refine⟨⟨m,n,q,rfl,iV.lift t X H⟩,h.cell ?_ ?_,h.cell ?_ ?_,h.cell ?_ U,h.cell ?_ U,h.cell ?_ U,h.cell ?_ U⟩
   ·exact(u.cell (p:=dA w.heap.size 2) aW).trans aW
   ·rw[t w.heap.size ae];exact aR
   ·exact(u.cell (p:=dA w.heap.size 3) aW).trans aW
   ·rw[t w.heap.size ae];exact aR
   ·exact(u.dL m0 V)
   ·exact(u.dL m1 V)
   ·exact(u.dL m2 V)
   ·exact(u.dL m3 V)
  have CY:=dn (λr=>Doc.uW S.syms 12 a[1] S.terms r Q.book Cr aR)
  have ala:w.heap.size≠g:=by
   have:=aj F.x;simp only at this;exact aR
  generalize Doc.term S.syms 12 a[1] S.terms=RT at *;generalize a[1]=t1 at *;generalize Doc.assert S p a=R at *;rw[hpos]at m3 acF;generalize t1.pos=h at *;obtain⟨vT,hT1,Ob⟩:=A.terms;obtain⟨aT,lL,rfl,hT3,hT4⟩:=Ob.form;have aix:=B.dL hT1 A.lt;have hnh:=Q.qR;have hl1:(1:Int)<(a.length:Int):=aR;have hnt:=Q.book.many;clear Cs A t F G hkt Ob hT1 hg0 hmem Cr TL hok hwd ht B E hpos;go_enter func139,ntmps139;go_upto_region 4 with fail;go_cut [7,8,9] (fun bn bq j wx=>Came w wx own k b S RT bn bq j/\acC wx w.heap.size g p h a.length D c)
  case first=>
   go_region_held3 (fun f=>f.cell? (dA w.heap.size 2)=some (dJ g a.length D)/\f.cell? (dA g 4)=some (dD c.x)/\f.cell? (dA g 5)=some (.bool c.bb)/\f.cell? (dA g 6)=some (.slice c.ao c.m c.cap)/\f.cell? (dA g 7)=some (dw h)) (go_keep) (first|(go_at_call 192;refine(acF.o _ bY).mono ?_;rintro l w1 ⟨⟨m,n,q,rfl,H⟩,o⟩;have z2:=o.k2;have z4:=o.k4;have z5:=o.k5;have z6:=o.k6;have z7:=o.k7))
   all_goals
    go_wp2;go_meet
    ·exact⟨⟨m,n,q,rfl,rfl,rfl,H⟩,o⟩
  case rest=>
   obtain⟨⟨m,n,q,rfl,rfl,rfl,s,hf1,hm⟩,o⟩:=hcut;have v:=dn hf1;obtain⟨z2,z3,_,_,_,z7⟩:=id o;clear o hf1 aix;cases RT with
   | error x=>
    obtain⟨e,hne,ex,d⟩:=hm;injection e with e
    injection e with e;simp only[Array.mk.injEq,List.cons.injEq,Value.int.injEq,true_and,and_true]at e;obtain⟨I,J,Y⟩:=e;have I:m=0:=aR;have J:n=x.1:=aR;have Y:q=x.2:=aR;subst I J Y;have i:R=.error x:=T.o;have y:=dn i;clear i;have n1:((x.1:Int)==0)=false:=ak aR;have n2:((x.1:Int) !=0)=true:=bJ;obtain⟨vT,C,K⟩:=d.terms;obtain⟨aU,aa6,rfl,u1,u2⟩:=K.form;simp only[List.length_append]at C u1;have hfz:=d.fr 1;have Z:=dn (d.Gx (n:=S.terms.length) (ao:=aU) (cap:=aa6) v.o.fresh P (by simpa using C) aW);clear d K;go_wp2;go_ret2;rw[y.o];obtain⟨L,M⟩:=Z.o;refine⟨s,v.o.trans L,rfl,?_⟩;simpa using M
   | ok r=>
    obtain⟨⟨pp,e⟩,d⟩:=hm;injection e with e
    injection e with e;simp only[Array.mk.injEq,List.cons.injEq,Value.int.injEq,true_and,and_true]at e;obtain⟨I,J,Y⟩:=e;have I:m=r.2:=aR;have J:n=0:=aR;subst I J;have hg:=CY.o r rfl;obtain⟨ex,hex⟩:=hg.ext;have hlt:=hg.lt;obtain⟨vT,C,K⟩:=d.terms;obtain⟨aU,aa6,rfl,u1,u2⟩:=K.form;simp only at C u1;obtain⟨vb,vb1,vb2⟩:=d.book.terms;rw[C]at vb1;injection vb1 with vb1;subst vb1;obtain⟨aV,alF,hvv,_,_,hel⟩:=vb2;injection hvv with e1 e2 e3;subst e1 e3;obtain⟨gT,rfl,Rk⟩:=hel r.2 hlt;have hsrt:=(Rk hlt).sort;have hts:Doc.dY r.1 r.2=r.1[r.2].sort:=uZ hlt;have hfz:=d.fr 1;have aie:=d.fr 2;obtain⟨vH,Fw,NR⟩:=d.held;obtain⟨aH,Ef,rfl,hh3,hh4⟩:=NR.form;simp only at Fw hh3;have hrl:S.terms.length<=r.1.length:=by rw[hex];simp
    have HST:=dn d;have uF:Hid (({ S with terms:=r.1.take S.terms.length }:Doc.dO)=S):=by show _=_;rw[hex];simp
    have Z:=dn (d.Gx (n:=S.terms.length) (ao:=some (dA gT 0)) (cap:=aa6) v.o.fresh P C hrl);have HAO:=T.o;simp only[hts]at HAO;have HAH:=dn HAO;have PD:=dn NR;have I9:=dn Fw;have hob:=d.obj;have Yw:=dn hob;clear d hel Rk hts HAO hg hex K hob NR Y;generalize r.1[r.2].sort=Kc at *
    by_cases z:Kc=1
    ·have o1:((Kc:Int) !=1)=false:=by rw[z];rfl
     by_cases N:S.held.length=12
     ·have o12:((S.held.length:Int)==12)=true:=by rw[N];rfl
      have i:R=.error (9,p):=by rw[HAH.o,if_neg an8,if_pos N]
      have y:=dn i;clear i;clear z N;exact aqb
     ·have o12:((S.held.length:Int)==12)=false:=ak aR;have i:R=.ok { S with terms:=r.1,held:=S.held++[r.2] }:=by rw[HAH.o,if_neg an8,if_neg N]
      have y:=dn i;clear i;clear z N;have akU:=HST.o.lt;obtain⟨xs,x1,x2,x3,x4⟩:=PD.o;have uE:=dn x1;have HX:=dn (show iw (Al wc s) xs S.held/\(∀x∈xs,x.length=1) from⟨x2,x3⟩)
      have hne:(Value.slice aH S.held.length Ef).ownBlock≠some b:=by
       intro bg;obtain⟨_,_,c1,hc1⟩:=PD.o.type b bg;obtain⟨c2,hc2⟩:=Yw.o;exact iH hc1 hc2 aY rfl
      have mP:=dn hne;clear x1 x2 x3 x4 hne;go_wp2_with (at_builtin;refine dU rfl (.tmp 84) (.tmp 86) 57 rfl 0 3 i0 (dw 0) 1 8 underlying57 hi hz0 hz1 hz2 rfl aY (.slice aH S.held.length Ef) S.held.length xs.flatten rfl (by exact uE.o.alloc _) (dA wc.heap.size 0) 1 [dw (r.2:Int)] rfl rfl bP bX bz aR aW ?_;intro ga fD w3 hown' hgrow hg1 hg2;have h:w3.cell? (dA b 2)=some (.slice aH S.held.length Ef):=((eY hgrow (a:=dA b 2) aX (λl=>mP.o l.symm)).trans (dV _ _ (dA b 2) aX)).trans Fw;have q2:w3.frozen? (dA b 2)=false:=((fo hgrow (a:=dA b 2) aX (λl=>mP.o l.symm)).trans (eF _ _ (dA b 2) aX)).trans aie);have hap:=qF (n:=S.held.length+1) PD.o v.o.fresh HST.o.mine HST.o.lt mP.o ((Below.refl wc.heap.size wc).alloc ae _) I9.o hown' hgrow hg2;have PT:=dn hap;clear hap hown' hgrow hg1 hg2;go_wp2;go_ret2;rw[y.o];obtain⟨p1,p2,p3⟩:=PT.o;refine⟨_,v.o.trans p1.fr,rfl,HST.o.vk I9.o p1 P ?_⟩;exact eU.snoc (w:=wc) (C:=Al wc s) (v:=.slice aH S.held.length Ef) ⟨uE.o,HX.o.1,HX.o.2⟩ p2 (λj bn bg=>bg) rfl rfl amQ
    ·have o1:((Kc:Int) !=1)=true:=bJ;have i:R=.error (7,h):=by rw[HAH.o,if_pos an8]
     have y:=dn i;clear i;clear z;exact aqb
 ·have o2:((a.length:Int) !=2)=true:=bJ;have T:Hid (Doc.assert S p a=.error (4,p)):=UC E;generalize Doc.assert S p a=R at *;clear E B A t Cs;go_enter func139,ntmps139;go_wp2_with fail;go_quiet (fail);go_wp2;go_ret2;rw[T.o];exact(lI.err (Fr.of_below k nV.o HB0.o) (HS.o.below HB0.o)).below (below_drewN af _)
end Go.Proofs.YtjiagbaaikifpaaGreatDoor
namespace Doc
variable {n:Nat}{r:List Tr}{s:Str}
def Bt (n:Nat):UInt8:=UInt8.ofNat (48+n)
def qo (x:Str)(k:Nat):Nat:=(((List.range 5).drop k).find? (λn=>x==[Bt n])).getD 5
theorem Bf (h:n<5)(a:(s==[Bt n])=true):qo s n=n:=by
 unfold qo;rw[List.drop_eq_getElem_cons anv,List.getElem_range,List.find?_cons_of_pos (p:=λb=>s==[Bt b]) a];rfl
theorem yu (h:n<5)(a:(s==[Bt n])=false):qo s n=qo s (n+1):=by
 unfold qo;rw[List.drop_eq_getElem_cons anv,List.getElem_range,List.find?_cons_of_neg (by simp[a])]
theorem WK (h:5<=n):qo s n=5:=by
 unfold qo;rw[List.drop_eq_nil_of_le anv];rfl
theorem GU (t:Tr):t.text.length<=t.width:=by
 cases t with
 | word q x=>exact ae
 | list q a=>exact Nat.zero_le _
theorem ZZ (x:Str):(if x=[48] then Except.ok 0 else if x=[49] then .ok 1 else if x=[50] then .ok 2 else if x=[51] then .ok 3 else if x=[52] then .ok 4 else .ok 5:Except (Nat × Nat) Nat)=.ok (qo x 0):=by
 have e:∀k,(x==[Bt k])=decide (x=[Bt k]):=λk=>by rw[Bool.eq_iff_iff];simp
 by_cases a:x=[48]
 ·rw[if_pos a,Bf aR (by rw[a];rfl)]
 ·rw[if_neg a,yu aR (by rw[e];exact decide_eq_false a)]
  by_cases b:x=[49]
  ·rw[if_pos b,Bf aR (by rw[b];rfl)]
  ·rw[if_neg b,yu aR (by rw[e];exact decide_eq_false b)]
   by_cases c:x=[50]
   ·rw[if_pos c,Bf aR am7]
   ·rw[if_neg c,yu aR (by rw[e];exact decide_eq_false c)]
    by_cases d:x=[51]
    ·rw[if_pos d,Bf aR anj]
    ·rw[if_neg d,yu aR (by rw[e];exact decide_eq_false d)]
     by_cases f:x=[52]
     ·rw[if_pos f,Bf aR aoi]
     ·rw[if_neg f,yu aR (by rw[e];exact decide_eq_false f),WK aR]
theorem count_one (h:r.length=1):count n r=.ok 1:=by
 match r,h with
 | [a],_=>rfl
theorem Ut (h:2<r.length):count n r=.error (4,n):=by
 match r,h with
 | a::b::c::l,_=>rfl
theorem XE {p:Nat}{ks:List Tr}(h:ks.length=2):count p ks=if digits (ks[1]' aR).text=true then .ok (qo (ks[1]' aR).text 0) else .error (4,(ks[1]' aR).pos):=by
 match ks,h with
 | [a,b],_=>simp only[List.getElem_cons_succ,List.getElem_cons_zero];rw[<-ZZ];rfl
end Doc
namespace Go.Proofs.YtjiagbaaikifpaaGreatDoor
open Go.RowKit Go.Proofs.Tryz
def yY:Except (Nat × Nat) Nat->Ending
 | .ok n=>dF (dM #[dw n,dw 0,dw 0])
 | .error x=>dF (dM #[dw 0,dw x.1,dw x.2])
theorem He (P:Nat->Prop)(p:Nat)(a:List Doc.Tr)(c:Tc)(w:World)(D:jy w P 13 c (.list p a))(O:0<a.length)(Q:Doc.fE a<=800) :
 dH 193 #[.agg #[dD c.x,.bool c.bb,.slice c.ao c.m c.cap,dw c.p]] w λs E=>s=yY (Doc.count p a)/\dB w E:=by
 have S:=gU;obtain⟨F,G,rfl,T,U,f⟩:=D.kids;simp only;have d:dB w (w.alloc (.cells #[eB,fu,.slice F a.length G,dw p] 138)):=ai;have g:=dn d
 by_cases t:2<a.length
 ·have b:Hid (Doc.count p a=.error (4,p)):=Doc.Ut t;generalize Doc.count p a=R at *;clear d f;go_enter func193,ntmps193;exact aq8
 ·by_cases e:a.length=1
  ·have b:Hid (Doc.count p a=.ok 1):=Doc.count_one e;have H:((a.length:Int)==1)=true:=ant;generalize Doc.count p a=R at *;clear d f e;go_enter func193,ntmps193;go_wp2;go_ret3;exact⟨anc,g.o⟩
  ·have H:((a.length:Int)==1)=false:=ak aR;have u:1<a.length:=aR;have b:=dn (Doc.XE (p:=p) (ks:=a) aR);obtain⟨I,rfl,_,V,i,j⟩:=f 1 u;have v:=j.pos;have y:=j.text;have l:=i.block (d.block I (aj i.x));have m:=l.x;have n:=l.p;simp only[Nat.one_mul,Nat.reduceAdd]at m n;rw[y]at m;rw[v]at n
   have X:(a[1]).text.length<=1000:=by
    have e:=Doc.kH a[1] (List.getElem_mem u);have t:=Doc.GU a[1];exact aR
   have J:=dn (λW=>Jg (a[1]).text W aR);generalize (a[1]).text=x at *;generalize (a[1]).pos=Y at *;generalize Doc.count p a=R at *;clear d f e i j l v y;generalize Doc.digits x=K at *;go_enter func193,ntmps193;go_wp2_with fail;refine(J.o _).mono ?_;rintro s Z ⟨rfl,rfl⟩;cases K
   ·exact aq8
   ·have L:Hid (R=.ok (Doc.qo x 0)):=b.o;clear m n;go_wp2_with fail
    go_loopw [7] (fun o wr=>∃k:Nat,o=dw k/\k<=5/\R=.ok (Doc.qo x k)/\dB w wr) (fun o _=>5-(intOf o).toNat)
    ·exact⟨0,rfl,aR,L.o,g.o⟩
    case round=>
     obtain⟨k,rfl,hk,z,h⟩:=hrel;have q:=dn z;have M:=dn h;have N:=h.size;have hcv:=LU;have A:=dn (h.alloc N (.cells #[.int .u8 (48+(k:Int))] 5));clear z h
     by_cases B:k<5
     ·have C:Hid (byteOf (48+(k:Int))=Doc.Bt k):=by show _=_;unfold byteOf Doc.Bt;congr 1
      cases hq:(x==[byteOf (48+(k:Int))])
      ·have r:Hid ((x==[Doc.Bt k])=false):=by show _=_;rw[<-C.o];exact hq
       go_wp2;go_roundw
       ·exact⟨k+1,bL,aR,by rw[q.o,Doc.yu B r.o],A.o⟩
       ·exact aph
      ·have r:Hid ((x==[Doc.Bt k])=true):=by show _=_;rw[<-C.o];exact hq
       go_wp2;go_ret3;exact⟨by rw[q.o,Doc.Bf B r.o];rfl,A.o⟩
     ·go_wp2;go_ret3;exact⟨by rw[q.o,Doc.WK aR];rfl,M.o⟩
end Go.Proofs.YtjiagbaaikifpaaGreatDoor
namespace Doc
theorem KM {p:Nat}{ks:List Tr}{x:Nat × Nat}(h:count p ks=.error x):x.1=4:=by
 unfold count at h;split at h
 ·cases h
 ·cases h
 ·split at h
  ·repeat' split at h
   all_goals cases h
  ·injection h with h;rw[<-h]
 ·injection h with h;rw[<-h]
end Doc
namespace Go.Proofs.YtjiagbaaikifpaaGreatDoor
open Go.RowKit Go.Proofs.Tryz
variable {m n:Nat}{w:World}
theorem UI:(prog.info? 173).map (λi=>(i.zero,i.size,i.bytes))=some (some (.agg #[dw 0,dw 0,dw 0]),3,24):=bR
def pz (a b c:Nat):List Value:=[dw a,dw b,dw c]
theorem ZY (w:World)(a b c:Nat)(d:TypeId):∀j u,(pz a b c)[j]?=some u->((w.alloc (.cells #[dw a,dw b,dw c] d)).drew).cell? (((dA w.heap.size 0):Addr).add j)=some u:=by
 intro j u h;show(w.alloc _).cell? _=_
 match j,h with
 | 0,h=>simp[pz,Addr.add]at h ⊢;exact h
 | 1,h=>simp[pz,Addr.add]at h ⊢;exact h
 | 2,h=>simp[pz,Addr.add]at h ⊢;exact h
 | n+3,h=>simp[pz]at h
theorem aey (b c d:Nat):∀u∈pz b c d,u.oneCell'=true:=by
 intro u a;simp only[pz,List.mem_cons,List.not_mem_nil,or_false]at a;rcases a with rfl|rfl|rfl<;>rfl
theorem ed.fields {own:Own}{S:Doc.dO}(h:ed w own n m S):∃e a f b g c i d,w.cell? (dA m 0)=some (.slice e S.syms.length a)/\w.cell? (dA m 1)=some (.slice f S.terms.length b)/\w.cell? (dA m 2)=some (.slice g S.held.length c)/\w.cell? (dA m 3)=some (.slice i S.levels.length d)/\
 S.syms.length<=a/\a<=2 ^ 63-1/\S.terms.length<=b/\b<=2 ^ 63-1/\S.held.length<=c/\c<=2 ^ 63-1/\S.levels.length<=d/\d<=2 ^ 63-1:=by
 obtain⟨K,j,k⟩:=h.syms;obtain⟨L,l,o⟩:=h.terms;obtain⟨M,p,q⟩:=h.held;obtain⟨N,r,s⟩:=h.levels;obtain⟨t,u,rfl,v,x⟩:=k.form;obtain⟨y,z,rfl,A,B⟩:=o.form;obtain⟨C,D,rfl,E,F⟩:=q.form;obtain⟨G,H,rfl,I,J⟩:=s.form;exact⟨t,u,y,z,C,D,G,H,j,l,p,r,v,x,A,B,E,F,I,J⟩
end Go.Proofs.YtjiagbaaikifpaaGreatDoor
namespace Doc
variable {r:List Tr}
def EO (ks:List Tr):Bool:=match ks with|[.word _ w]=>w==pY|_=>false
theorem Wn {l:Str}{x:Nat × Nat}(h:parse l=.error x):x.1=2\/x.1=3:=by
 unfold parse at h;split at h
 ·split at h
  ·rename_i e p a;injection h with h;rw[<-h];exact BO l 12 _ e p a
  ·split at h
   ·injection h with h;rw[<-h];exact .inl rfl
   ·cases h
 ·injection h with h;rw[<-h];exact .inl rfl
theorem QH (h:r.length≠1):EO r=false:=by
 match r,h with
 | [],_=>rfl
 | [a],h=>exact absurd rfl h
 | a::b::l,_=>cases a<;>rfl
theorem QG (h:r.length=1):EO r=(!(r[0]' aR).isList&&((r[0]' aR).text==pY)):=by
 match r,h with
 | [.word p w],_=>rfl
 | [.list p r],_=>rfl
end Doc
namespace Go.Proofs.YtjiagbaaikifpaaGreatDoor
open Go.RowKit Go.Proofs.Tryz
theorem P5 (E:Nat)(l:dN)(w:World)(F:l.length<=1000000) :
 dH 39 #[dK E 0,dD l] w λr G=>r=dF (.bool (Doc.asks l))/\dB w G:=by
 have Q:=gU;have s:Hid (Doc.asks l=if 400<l.length then false else match Doc.parse l with|.error _=>false|.ok t=>Doc.EO t.kids):=rfl;have H:=dn (KY l w F);have I:=dn (λx=>Doc.Wn (l:=l) (x:=x));have J:=dn (λt=>Doc.Ca (l:=l) (t:=t));generalize Doc.asks l=f at *;generalize Doc.parse l=K at *
 by_cases u:400<l.length
 ·have b:Hid (f=false):=by show _=_;rw[s.o,if_pos u]
  go_enter func39,ntmps39;go_wp2;go_ret;exact⟨dS (by rw[b.o]),af⟩
 ·have g:=s.o;rw[if_neg u]at g;have g:=dn g;go_enter func39,ntmps39;go_wp2_with fail;refine H.o.mono ?_;rintro r j ⟨v,d⟩;have y:=d.size;cases K with
  | error x=>
   obtain⟨c,rfl⟩:=v;have R:=I.o x rfl;have S:((x.1:Int)==0)=false:=ak aR;have b:Hid (f=false):=g.o;have e:=dn (d.alloc y (.cells #[dD c.x,.bool c.bb,.slice c.ao c.m c.cap,dw c.p] 138));clear d;go_wp2;go_ret;exact⟨dS (by rw[b.o]),e.o⟩
  | ok t=>
   obtain⟨c,rfl,k⟩:=v;obtain⟨z,a,rfl,T,U⟩:=J.o t rfl;obtain⟨A,B,rfl,V,W,m⟩:=k.kids;have e:=dn (d.alloc y (.cells #[eB,fu,.slice A a.length B,dw z] 138));have n:dB j (j.alloc (.cells #[eB,fu,.slice A a.length B,dw z] 138)):=ai;have b:Hid (f=Doc.EO a):=g.o
   by_cases h:a.length=1
   ·have L:((a.length:Int)==1)=true:=aoK;have M:0<a.length:=aR;obtain⟨N,rfl,_,X,o,p⟩:=m 0 M;have q:=o.block (n.block N (aj o.x));have C:=q.x;have D:=q.b;simp only[Nat.zero_mul,Nat.zero_add]at C D;rw[p.text]at C;rw[p.isL]at D;have i:Hid (f=(!(a[0]).isList&&((a[0]).text==[99,104,101,99,107,45,115,97,116]))):=by show _=_;rw[b.o,Doc.QG h];rfl
    generalize (a[0]).isList=O at *;generalize (a[0]).text=P at *;clear m o q p h d n k;cases O
    ·cases hq:(P==[99,104,101,99,107,45,115,97,116])
     ·go_wp2;go_ret;exact⟨dS (by rw[i.o,hq];rfl),e.o⟩
     ·go_wp2;go_ret;exact⟨dS (by rw[i.o,hq];rfl),e.o⟩
    ·go_wp2;go_ret;exact⟨dS (by rw[i.o];rfl),e.o⟩
   ·have L:((a.length:Int)==1)=false:=ak aR;have i:Hid (f=false):=by show _=_;rw[b.o,Doc.QH h]
    clear m h d n k;go_wp2;go_ret;exact⟨dS (by rw[i.o]),e.o⟩
