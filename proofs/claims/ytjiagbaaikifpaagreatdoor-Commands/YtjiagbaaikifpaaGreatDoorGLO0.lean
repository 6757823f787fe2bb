import Derived.Test.YtjiagbaaikifpaaGreatDoorGLW4
set_option maxRecDepth 100000
set_option maxHeartbeats 16000000
namespace Go.Proofs.YtjiagbaaikifpaaGreatDoor
open Go.RowKit Go.Proofs.Tryz
variable {L M:kK}{O o:Own}{W u w:World}{Z z:Int}{c:List fU}{i k m n:Nat}{v:Value}{x:dN}
theorem iK.mono (h:iK n L)(d:n<=m)(a:m<=100000):iK m L:=
 ⟨a,aP h.eQ,h.wf,aP h.words,h.word,aP h.reg,h.yG,aP h.ls,λb c=>aP (h.l b c),h.la,h.at_,h.n_,h.ex⟩
theorem iK.Rw (h:iK n L)(b:n+1<=100000)(c:x.length<=90000):iK (n+1) { L with words:=L.words++[x] }:=by
 refine⟨b,amv,h.wf,by have:=h.words;simp;omega,λd e=>?_,amI,h.yG,amu,λf g=>aP (h.l f g),h.la,h.at_,h.n_,h.ex⟩;rcases List.mem_append.1 e with a|a
 ·exact h.word d a
 ·simp at a;rw[a];exact c
theorem iK.afR {e:fU}(h:iK n L)(b:n+1<=100000)(c:AU e):iK (n+1) { L with reg:=L.reg++[e] }:=by
 refine⟨b,amv,h.wf,amh,h.word,by have:=h.reg;simp;omega,λx d=>?_,amu,λf g=>aP (h.l f g),h.la,h.at_,h.n_,h.ex⟩;rcases List.mem_append.1 d with a|a
 ·exact h.yG x a
 ·simp at a;rw[a];exact c
theorem iK.clear (h:iK n L)(a:n+1<=100000):iK (n+1) { L with reg:=[] }:=
 ⟨a,amv,h.wf,amh,h.word,aW,λx b=>by simp at b,amu,λc d=>aP (h.l c d),h.la,h.at_,h.n_,h.ex⟩
theorem iK.Rx (h:iK n L)(d:n+1<=100000)(g:c.length<=n)(e:∀f∈c,AU f):iK (n+1) { L with ls:=L.ls++[c] }:=by
 refine⟨d,amv,h.wf,amh,h.word,amI,h.yG,by have:=h.ls;simp;omega,λx b=>?_,λx b=>?_,h.at_,h.n_,h.ex⟩
 ·rcases List.mem_append.1 b with a|a
  ·have:=h.l x a;exact aR
  ·simp at a;rw[a];exact aR
 ·rcases List.mem_append.1 b with a|a
  ·exact h.la x a
  ·simp at a;rw[a];exact e
theorem iK.ac9 {c:Int}(h:iK n L)(a:n+1<=100000)(b:-9223372036854775808<=z/\z<=9223372036854775807)(d:-9223372036854775808<=Z/\Z<=9223372036854775807)(e:-9223372036854775808<=c/\c<=9223372036854775807):iK (n+1) { L with at_:=z,n:=Z,ex:=c }:=
 ⟨a,amv,h.wf,amh,h.word,amI,h.yG,amu,λf g=>aP (h.l f g),h.la,b,d,e⟩
theorem iK.ac8 {b:Doc.dO}(h:iK n L)(c:Doc.iq b):iK n { L with eQ:=L.eQ.set m (k,i,b) }:=by
 refine⟨h.lim,by simp[h.eQ],λs d=>?_,h.words,h.word,h.reg,h.yG,h.ls,h.l,h.la,h.at_,h.n_,h.ex⟩;rcases List.mem_or_eq_of_mem_set d with a|a
 ·exact h.wf s a
 ·rw[a];exact c
theorem iK.adZ (h:iK n L)(b:n+1<=100000):iK (n+1) { L with eQ:=L.eQ++[(m,k,Doc.dO.empty)] }:=by
 refine⟨b,by have:=h.eQ;simp;omega,λs c=>?_,amh,h.word,amI,h.yG,amu,λd e=>aP (h.l d e),h.la,h.at_,h.n_,h.ex⟩;rcases List.mem_append.1 c with a|a
 ·exact h.wf s a
 ·simp at a;rw[a];exact Doc.iq.empty
theorem iT.Ui {own:Own}(a:dB w W)(d:∀b,b<w.heap.size->o b=own b)(h:iT W u o n L):iT w u own n L:=by
 obtain⟨g,i,j,e,l,k⟩:=h;have m:=a.size;exact⟨g,i,j,λb c f=>⟨(e b aR (by rw[d b c];exact f)).1.trans (a.block b c),(e b aR (by rw[d b c];exact f)).2⟩,aR,(Same.below a).trans k⟩
theorem iT.from {own:Own}(a:dB w W)(h:iT W u own n L):iT w u own n L:=h.Ui a (λ_ _=>rfl)
theorem jd.from {own:Own}(a:dB w W)(h:jd W u own n m):jd w u own n m:=by
 obtain⟨b,c,d⟩:=h;exact⟨b,c,d.from a⟩
theorem jd.mono {own:Own}(h:jd w W own n m)(a:m<=k)(b:k<=100000):jd w W own n k:=by
 obtain⟨c,d,e⟩:=h;exact⟨c,d.mono a b,e⟩
theorem eD.up {own:Own}(h:eD own w)(a:dB w W):eD own W:=λb c=>h b (aP a.size)
theorem gp.up {own:Own}(h:gp w own n L)(a:dB w W):gp W own n L:=h.keep (λb c=>⟨a.block b c,rfl⟩) (h.jq.fT (λb _ d=>a.block b d))
theorem gp.aev {own:Own}(h:gp w own n L)(a:xn w W own O n 2 7 v)(q:eU W O 7 142 4 (Dz W O) v c):gp W O n { L with reg:=c }:=by
 obtain⟨r,t,J,u,x,y⟩:=h.parts (w2:=W) (own':=O) (λo=>o=1\/o=7) (λz A B=>a.keep z A B);obtain⟨b,d,K⟩:=h.s;obtain⟨e,f,M⟩:=h.words;obtain⟨g,j,N⟩:=h.ls;obtain⟨l,m,P⟩:=h.lw;obtain⟨C,D⟩:=h.obj;obtain⟨E,F⟩:=a.jq h.jq h.g0 aR;have p:∀s k i,¬(fJ s k i=1\/fJ s k i=7):=λs k i=>aP (jJ s k i);exact⟨aos,a.type C _ D,λo=>(a.frozen o).trans (h.fr o),⟨b,(a.cells 0 aR).trans d,r aR b d⟩,⟨e,(a.cells 1 aR).trans f,t aR e f⟩,⟨v,a.cell,q⟩,⟨g,(a.cells 3 aR).trans j,u aR (p 0) g j⟩,⟨l,(a.cells 4 aR).trans m,x aR (p 1) l m⟩,(a.cells 5 aR).trans h.at_,(a.cells 6 aR).trans h.n,(a.cells 7 aR).trans h.ex,λi G H S I=>y aR i G H S aR aR I,E,F⟩
theorem gp.aaW {own:Own}(h:gp w own n L)(x:eD own w):iT w (w.setCell (dA n 2) (dE)) own n { L with reg:=[] }:=by
 have f:∀b,b≠n->(w.setCell (dA n 2) (dE)).heap[b]?=w.heap[b]?:=λb c=>aD c;have K:(w.setCell (dA n 2) (dE)).heap.size=w.heap.size:=amn;have g:∀b,b<w.heap.size->own b=0->b≠n:=λb _ d a=>by rw[a,h.mine]at d;omega
 obtain⟨y,z,M,A,B,C⟩:=h.parts (w2:=w.setCell (dA n 2) (dE)) (own':=own) (λo=>o=1) (λb c D=>⟨f b (λe=>D (by rw[e];exact h.mine)),rfl⟩);obtain⟨j,l,N⟩:=h.s;obtain⟨m,p,O⟩:=h.words;obtain⟨P,E,Q⟩:=h.reg;obtain⟨q,r,R⟩:=h.ls;obtain⟨t,u,T⟩:=h.lw;obtain⟨U,F⟩:=h.obj;have V:=h.jq.size;have a:∀{o:Nat},o≠2->(w.setCell (dA n 2) (dE)).cell? (dA n o)=w.cell? (dA n o):=λd=>ax (λe=>d (by injection e with _ e;exact e.symm));have v:∀s k i,¬fJ s k i=1:=λs k i=>aP (jJ s k i);refine⟨own,λb c=>x b aR,?_,λb c d=>⟨f b (g b c d),d⟩,aR,⟨rfl,rfl,rfl⟩⟩;exact⟨h.mine,lg F,λo=>by rw[World.frozen?_setCell];exact h.fr o,⟨j,(a aR).trans l,y aR j l⟩,⟨m,(a aR).trans p,z aR m p⟩,⟨_,aC E,eU.nil _ _ _ _ _ _⟩,⟨q,(a aR).trans r,A aR (v 0) q r⟩,⟨t,(a aR).trans u,B aR (v 1) t u⟩,(a aR).trans h.at_,(a aR).trans h.n,(a aR).trans h.ex,λi G H S I=>C aR i G H S aR aR I,h.jq.fT (λb c J=>f b (g b J (h.g0 b c))),h.g0⟩
theorem gp.setInt {own:Own}{z:Int}(h:gp w own n L)(O:eD own w)(P:m=5/\M={ L with at_:=z }\/m=6/\M={ L with n:=z }\/m=7/\M={ L with ex:=z }):iT w (w.setCell (dA n m) (dw z)) own n M:=by
 have u:∀b,b≠n->(w.setCell (dA n m) (dw z)).heap[b]?=w.heap[b]?:=λb c=>aD c;have R:(w.setCell (dA n m) (dw z)).heap.size=w.heap.size:=amn;have C:∀b,b<w.heap.size->own b=0->b≠n:=λb _ d a=>by rw[a,h.mine]at d;omega
 obtain⟨D,E,F,G,H,I⟩:=h.parts (w2:=w.setCell (dA n m) (dw z)) (own':=own) (λo=>o=1) (λb c Q=>⟨u b (λv=>Q (by rw[v];exact h.mine)),rfl⟩);obtain⟨e,f,T⟩:=h.s;obtain⟨g,j,U⟩:=h.words;obtain⟨k,l,V⟩:=h.reg;obtain⟨p,q,W⟩:=h.ls;obtain⟨r,s,X⟩:=h.lw;obtain⟨Y,J⟩:=h.obj;have Z:=h.jq.size;have a:∀{o:Nat},o≠m->(w.setCell (dA n m) (dw z)).cell? (dA n o)=w.cell? (dA n o):=λd=>ax (λv=>d (by injection v with _ v;exact v.symm));have t:∀K N i,¬fJ K N i=1:=λK N i=>aP (jJ K N i);refine⟨own,λb c=>O b aR,?_,λb c d=>⟨u b (C b c d),d⟩,aR,⟨rfl,rfl,rfl⟩⟩;rcases P with ⟨rfl,rfl⟩|⟨rfl,rfl⟩|⟨rfl,rfl⟩
 ·exact⟨h.mine,lg J,λo=>by rw[World.frozen?_setCell];exact h.fr o,⟨e,(a aR).trans f,D aR e f⟩,⟨g,(a aR).trans j,E aR g j⟩,⟨k,(a aR).trans l,F aR aR k l⟩,⟨p,(a aR).trans q,G aR (t 0) p q⟩,⟨r,(a aR).trans s,H aR (t 1) r s⟩,aC h.at_,(a aR).trans h.n,(a aR).trans h.ex,λi x y S A=>I aR i x y S aR aR A,h.jq.fT (λb c B=>u b (C b B (h.g0 b c))),h.g0⟩
 ·exact⟨h.mine,lg J,λo=>by rw[World.frozen?_setCell];exact h.fr o,⟨e,(a aR).trans f,D aR e f⟩,⟨g,(a aR).trans j,E aR g j⟩,⟨k,(a aR).trans l,F aR aR k l⟩,⟨p,(a aR).trans q,G aR (t 0) p q⟩,⟨r,(a aR).trans s,H aR (t 1) r s⟩,(a aR).trans h.at_,aC h.n,(a aR).trans h.ex,λi x y S A=>I aR i x y S aR aR A,h.jq.fT (λb c B=>u b (C b B (h.g0 b c))),h.g0⟩
 ·exact⟨h.mine,lg J,λo=>by rw[World.frozen?_setCell];exact h.fr o,⟨e,(a aR).trans f,D aR e f⟩,⟨g,(a aR).trans j,E aR g j⟩,⟨k,(a aR).trans l,F aR aR k l⟩,⟨p,(a aR).trans q,G aR (t 0) p q⟩,⟨r,(a aR).trans s,H aR (t 1) r s⟩,(a aR).trans h.at_,(a aR).trans h.n,aC h.ex,λi x y S A=>I aR i x y S aR aR A,h.jq.fT (λb c B=>u b (C b B (h.g0 b c))),h.g0⟩
theorem iT.trans {own:Own}(h:iT w W own n L)(g:∀a,gp W a n L->eD a W->iT W u a n M):iT w u own n M:=by
 obtain⟨a,i,j,c,q,k⟩:=h;obtain⟨l,m,o,f,r,p⟩:=g a j i;exact⟨l,m,o,λb d e=>⟨(f b aR (c b d e).2).1.trans (c b d e).1,(f b aR (c b d e).2).2⟩,aR,k.trans p⟩
theorem jU.nil (w:World)(own:Own)(cd:Nat->Nat):jU w own cd (dE) []:=
 ⟨⟨[],World.ownsRow_nil _ _ _ _,rfl,aW,λi x e a=>by simp at a⟩,λc b=>by simp[Value.ownBlock]at b⟩
theorem qK.lat {wr:World}{own:Own}{cd:Nat->Nat}(h:qK w wr own o cd c c.length):jU wr o cd (dJ w.heap.size c.length c.length) c:=by
 obtain⟨b,d,e,f,g⟩:=h.row;refine⟨⟨b,Km d,e,f,λi x j k a=>g i x j (aG a).1 k a⟩,λl m=>?_⟩;have:w.heap.size=l:=aop;rw[<-this];exact h.head
theorem Zn {own:Own}(l:eU w own 7 142 4 (Dz w own) v c):∃e a,v=.slice e c.length a/\c.length<=a/\a<=2 ^ 63-1/\gI w e a c:=by
 obtain⟨m,n,f,o,E⟩:=l;have g:=f.len;obtain⟨p,q,h,b,d,_,r⟩:=Row.fq n g.symm o;unfold maxLen at d;rw[g]at h b;refine⟨p,q,h,b,d,b,d,λi s t=>?_⟩;obtain⟨hi,u⟩:=aG t;obtain⟨j,x,y⟩:=r i aR;refine⟨j,0,x,?_⟩
 have z:sI w own 0 (m[i]' aR) s:=by
  have k:=f.get i aR hi;rw[u]at k;exact k
 have:=z.at (g:=j) (o:=i*4) (λA B C D=>y A C B D);simpa using this
