import Derived.Test.YtjiagbaaikifpaaGreatDoorGPC12
set_option maxRecDepth 100000
set_option maxHeartbeats 16000000
namespace Go.Proofs.YtjiagbaaikifpaaGreatDoor
open Go.RowKit Go.Proofs.Tryz
variable {A:List Doc.Tr}{Y:Doc.Tr}{n:Nat}{w:World}{x:dN}
def qW (k1 k2 k3:Doc.Tr):Nat × Nat:=
 if k1.isList=true then(4,k1.pos) else if k2.isList=false then(4,k2.pos)
 else match Doc.iA k2.kids with|some x=>(4,x)|none=>if k3.isList=true then(4,k3.pos) else(0,0)
theorem zC (h:Y.ok):(Y.text==[])=Y.isList:=by
 cases Y with
 | word q x=>simp only[Doc.Tr.ok]at h;simp[Doc.Tr.text,Doc.Tr.isList,h.1]
 | list q a=>rfl
theorem Io (L S T:Nat)(own:Own)(E:List Doc.Item)(h:List Doc.Tr)(l i n:Doc.Tr)(H:World)(bn:iU H own L S E T h)(hfr:eD own H)(hl:h.length=4)(hk1:h[1]?=some l)(hk2:h[2]?=some i)(hk3:h[3]?=some n)(U:Doc.oks h) :
 dH 121 #[dK L 0] H λs w'=>s=dF (.agg #[dw ((qW l i n).1:Nat),dw ((qW l i n).2:Nat)])/\dB H w':=by
 obtain⟨e,V⟩:=fF.start H;obtain⟨p,hW0⟩:∃p,H.alloc (.cells #[dw 0,dw 0] 64)=p:=⟨_,rfl⟩;rw[hW0]at e V;have hsz:p.heap.size=H.heap.size+1:=by rw[<-hW0];simp
 have X:=dn e;have Y:=dn V;have M:Hid (dB p p):=af;have t:=bn.below V;have NU:eD own p:=λbq hc=>hfr bq (Nat.le_trans V.size hc);obtain⟨l1,g1⟩:=aG hk1;obtain⟨l2,g2⟩:=aG hk2;obtain⟨l3,g3⟩:=aG hk3;have Z:=dn (λW (q:dB p W)=>qw L S T 1 own E h W (t.below q) l1);have I:=dn (λW (q:dB p W)=>qw L S T 2 own E h W (t.below q) l2);have N:=dn (λW (q:dB p W)=>qw L S T 3 own E h W (t.below q) l3);have I1:=dn (λr b (s:i=.list r b) W (q:dB p W)=>A8 L S T r own E h b W (t.below q) (λbq hc=>NU bq (Nat.le_trans q.size hc)) l2 (g2.trans s));obtain⟨vI,hcI,xB⟩:=t.ord.items;obtain⟨aI,cI,rfl,_⟩:=id xB;have hol:=t.ord.lt;have hlk:=t.lies.kid l2;rw[Nat.zero_add,g2]at hlk;obtain⟨bD,bF,hcN,O⟩:=t.ins;obtain⟨rH,kk1,kk2⟩:=iM O.ints;rw[<-rH]at kk1;have uS:=dn (λW (q:dB p W)=>(q.dL hcI hol))
 have HAT:Hid (∀r b,i=.list r b->∀u (hj:u<b.length),∃fin:Nat,∀W,dB p W->dH 120 #[.slice aI E.length cI,dw (Doc.start b (Doc.start h 1 2+1) u:Nat)] W λs w'=>s=dF (.agg #[dw (b[u].pos:Int),dD b[u].text,dw (fin:Int)])/\dB W w'):=λr b s u hj=>by
  refine⟨Doc.start b (Doc.start h 1 2+1) u+(Doc.flat b[u] (Doc.start b (Doc.start h 1 2+1) u)).length,λW q=>?_⟩;have:=zw (.slice aI E.length cI) E (Doc.start b (Doc.start h 1 2+1) u) W (xB.items.below q);rw[s]at hlk;rw[mV (hlk.kid hj).item]at this;exact this
 have JS:Hid (∀r b,i=.list r b->∀bA∈b,bA.ok):=λr b s bA ht=>by
  have:=Doc.mG U i (List.mem_of_getElem? hk2);rw[s]at this;exact Doc.mG this bA ht
 rw[g1]at Z;rw[g2]at I;rw[g3]at N;have e1:=zC (Doc.mG U l (List.mem_of_getElem? hk1));have e2:=zC (Doc.mG U i (List.mem_of_getElem? hk2));have e3:=zC (Doc.mG U n (List.mem_of_getElem? hk3));obtain⟨R,hR⟩:=aK (qW l i n);have P:Hid (R=if l.isList=true then(4,l.pos) else if i.isList=false then(4,i.pos) else match Doc.iA i.kids with|some bg=>(4,bg)|none=>if n.isList=true then(4,n.pos) else(0,0)):=by show _=_;rw[<-hR];rfl
 rw[hR];have tl:((h.length:Int) !=4)=false:=by rw[hl];rfl
 obtain⟨st,hst⟩:=aK (Doc.start h 1 2);obtain⟨Um,hf1⟩:=aK (Doc.start h 1 1+(Doc.flat l (Doc.start h 1 1)).length);obtain⟨Ar,hf2⟩:=aK (Doc.start h 1 2+(Doc.flat i (Doc.start h 1 2)).length);obtain⟨Cz,hf3⟩:=aK (Doc.start h 1 3+(Doc.flat n (Doc.start h 1 3)).length);rw[hf1]at Z;rw[hf2]at I;rw[hf3]at N;rw[hst]at HAT I1;have Ve:=dn (λW=>oL l.pos Um l.text W);have Q:=dn (λW=>oL i.pos Ar i.text W);have Py:=dn (λW=>oL n.pos Cz n.text W);rw[e1]at Ve;rw[e2]at Q;rw[e3]at Py;clear hf1 hf2 hf3 hst e1 e2 e3 hR U hk1 hk2 hk3 g1 g2 g3 O rH hlk xB bn t e V hfr hcI;generalize h.length=bG at *;clear hl l1 l2 l3;generalize l.pos=v at *;generalize l.text=x1 at *;generalize l.isList=b1 at *;generalize n.pos=F at *;generalize n.text=x3 at *;generalize n.isList=b3 at *;cases b1
 ·cases i with
  | word r bg=>
   have j:Hid (R=(4,r)):=P.o.trans rfl;simp only[Doc.Tr.pos,Doc.Tr.text,Doc.Tr.isList]at I Q;clear I1 HAT JS P N Py;go_enter func121,ntmps121;go_wp2_with fail;refine(Z.o _ M.o).dX λw1 c=>?_;have d:=c.alloc c.size (.cells #[dw (v:Int),dD x1,dw (Um:Int)] 129);have f:=dn (M.o.dW d);have g:=dn d;clear c d;go_wp2_with fail;refine(Ve.o _).dX λw2 a=>?_;have o:=(a.cell (p:=dA w1.heap.size 0) aW).trans (show _=some (dw (v:Int)) by simp);have G:=dn (f.o.dW a);have w:=dn (g.o.dW a);clear a f g;clear o;go_wp2_with fail;refine(I.o _ G.o).dX λw3 c=>?_;have d:=c.alloc c.size (.cells #[dw (r:Int),dD bg,dw (Ar:Int)] 129);have f:=dn (G.o.dW d);have g:=dn d;clear c d;go_wp2_with fail;refine(Q.o _).dX λw4 a=>?_;have o:=(a.cell (p:=dA w3.heap.size 0) aW).trans (show _=some (dw (r:Int)) by simp);have jl:=dn (f.o.dW a);have w:=dn (g.o.dW a);clear a f g;have e:=X.o.below jl.o;have x:=e.c0;have y:=e.c1;have cf:=e.fr;obtain⟨wz,hwz,z,A,k⟩:=jW x y (dw 4) (dw (r:Int));have B:=dn ((Y.o.dW jl.o).trans k);clear e k;go_wp2;exact dR (.agg #[dw 4,dw (r:Int)]) ams rfl ⟨amx,B.o⟩
  | list r b=>
   have aiZ:=dn (I1.o r b rfl);have akm:=dn (HAT.o r b rfl);have aje:=dn (JS.o r b rfl);have ry:Hid (R=match Doc.iA b with|some bg=>(4,bg)|none=>if b3=true then(4,F) else(0,0)):=P.o.trans rfl;have Yv:=dn (λbC (bn:bC<b.length)=>Doc.mJ (ks:=b) (b:=st+1) (n:=bC) bn);simp only[Doc.Tr.pos,Doc.Tr.text,Doc.Tr.isList]at I Q;clear I1 HAT JS P;go_enter func121,ntmps121;go_wp2_with fail;refine(Z.o _ M.o).dX λw1 c=>?_;have d:=c.alloc c.size (.cells #[dw (v:Int),dD x1,dw (Um:Int)] 129);have f:=dn (M.o.dW d);have g:=dn d;clear c d;go_wp2_with fail;refine(Ve.o _).dX λw2 a=>?_;have o:=(a.cell (p:=dA w1.heap.size 0) aW).trans (show _=some (dw (v:Int)) by simp);have G:=dn (f.o.dW a);have w:=dn (g.o.dW a);clear a f g;clear o;go_wp2_with fail;refine(I.o _ G.o).dX λw3 c=>?_;have d:=c.alloc c.size (.cells #[dw (r:Int),dD ([]:dN),dw (Ar:Int)] 129);have f:=dn (G.o.dW d);have g:=dn d;clear c d;go_wp2_with fail;refine(Q.o _).dX λw4 a=>?_;have o:=(a.cell (p:=dA w3.heap.size 0) aW).trans (show _=some (dw (r:Int)) by simp);have jl:=dn (f.o.dW a);have w:=dn (g.o.dW a);clear a f g;clear o;go_wp2_with fail;refine(aiZ.o _ jl.o).mono ?_;rintro s w5 ⟨⟨A5,q5,rfl,O⟩,hb5⟩;obtain⟨rH,kk3,kk4⟩:=iM O.ints;rw[<-rH]at kk3;have Yr:=dn O;have FX:=dn (jl.o.dW hb5);clear rH O hb5;go_wp2_with fail
   go_loopw [35] (fun bB wr=>∃m:Nat,bB=dw m/\m<=b.length/\Doc.iA b=Doc.iA (b.drop m)/\dB w5 wr) (fun bB _=>b.length-(intOf bB).toNat)
   ·exact⟨0,rfl,aR,by rw[List.drop_zero],af⟩
   case round=>
    obtain⟨m,rfl,hm,hfl,hbel⟩:=hrel;have xE:=dn hfl;have om:=dn hbel;have C:=dn (FX.o.dW hbel);have o1:=uS.o wr C.o;clear hfl
    by_cases hlt:m<b.length
    ·obtain⟨bH,rfl,d1⟩:=gF (Yr.o.ints.below hbel) m _ (Yv.o m hlt);obtain⟨fin,hcall⟩:=akm.o m hlt;have agE:=dn hcall;have HD:=dn (Doc.Bq hlt);have abQ:=dn (λW=>oL b[m].pos fin b[m].text W);rw[zC (aje.o b[m] aW)]at abQ;clear hcall hbel;generalize Doc.start b (st+1) m=stm at *;generalize b[m].text=tx at *;generalize b[m].pos=J at *;generalize b[m].isList=bm at *;cases bm
     ·go_wp2_with fail;refine(agE.o _ C.o).dX λK c=>?_;have d:=c.alloc c.size (.cells #[dw (J:Int),dD tx,dw (fin:Int)] 129);have f:=dn (C.o.dW d);have g:=dn d;clear c d;go_wp2_with fail;refine(abQ.o _).dX λw7 a=>?_;have o:=(a.cell (p:=dA K.heap.size 0) aW).trans (show _=some (dw (J:Int)) by simp);have D:=dn (f.o.dW a);have w:=dn (g.o.dW a);clear a f g;have tK:Hid (dB w5 w7):=om.o.dW w.o;clear o;go_wp2;go_roundw
      ·exact⟨m+1,bL,aR,by rw[xE.o,HD.o,if_neg aY],tK.o⟩
      ·exact aph
     ·have j:Hid (R=(4,J)):=by show _=_;rw[ry.o,xE.o,HD.o,if_pos rfl]
      go_wp2_with fail;refine(agE.o _ C.o).dX λK c=>?_;have d:=c.alloc c.size (.cells #[dw (J:Int),dD tx,dw (fin:Int)] 129);have f:=dn (C.o.dW d);have g:=dn d;clear c d;go_wp2_with fail;refine(abQ.o _).dX λw7 a=>?_;have o:=(a.cell (p:=dA K.heap.size 0) aW).trans (show _=some (dw (J:Int)) by simp);have D:=dn (f.o.dW a);have w:=dn (g.o.dW a);clear a f g;have e:=X.o.below D.o;have x:=e.c0;have y:=e.c1;have cf:=e.fr;obtain⟨wz,hwz,z,A,k⟩:=jW x y (dw 4) (dw (J:Int));have B:=dn ((Y.o.dW D.o).trans k);clear e k;go_wp2;exact dR (.agg #[dw 4,dw (J:Int)]) ams rfl ⟨amx,B.o⟩
    ·have HN:Hid (Doc.iA b=none):=by show _=_;rw[xE.o,List.drop_eq_nil_of_le aR];rfl
     cases b3
     ·have j:Hid (R=(0,0)):=by show _=_;rw[ry.o,HN.o];rfl
      go_wp2_with fail;refine(N.o _ C.o).dX λK c=>?_;have d:=c.alloc c.size (.cells #[dw (F:Int),dD x3,dw (Cz:Int)] 129);have f:=dn (C.o.dW d);have g:=dn d;clear c d;go_wp2_with fail;refine(Py.o _).dX λw7 a=>?_;have o:=(a.cell (p:=dA K.heap.size 0) aW).trans (show _=some (dw (F:Int)) by simp);have D:=dn (f.o.dW a);have w:=dn (g.o.dW a);clear a f g;have e:=X.o.below D.o;have x:=e.c0;have y:=e.c1;have cf:=e.fr;obtain⟨wz,hwz,z,A,k⟩:=jW x y (dw 0) (dw 0);have B:=dn ((Y.o.dW D.o).trans k);clear e k o;go_wp2;exact dR (.agg #[dw 0,dw 0]) ams rfl ⟨amx,B.o⟩
     ·have j:Hid (R=(4,F)):=by show _=_;rw[ry.o,HN.o];rfl
      go_wp2_with fail;refine(N.o _ C.o).dX λK c=>?_;have d:=c.alloc c.size (.cells #[dw (F:Int),dD x3,dw (Cz:Int)] 129);have f:=dn (C.o.dW d);have g:=dn d;clear c d;go_wp2_with fail;refine(Py.o _).dX λw7 a=>?_;have o:=(a.cell (p:=dA K.heap.size 0) aW).trans (show _=some (dw (F:Int)) by simp);have D:=dn (f.o.dW a);have w:=dn (g.o.dW a);clear a f g;have e:=X.o.below D.o;have x:=e.c0;have y:=e.c1;have cf:=e.fr;obtain⟨wz,hwz,z,A,k⟩:=jW x y (dw 4) (dw (F:Int));have B:=dn ((Y.o.dW D.o).trans k);clear e k;go_wp2;exact dR (.agg #[dw 4,dw (F:Int)]) ams rfl ⟨amx,B.o⟩
 ·have j:Hid (R=(4,v)):=by show _=_;rw[P.o,if_pos rfl]
  clear I1 HAT JS P N Py I Q;go_enter func121,ntmps121;go_wp2_with fail;refine(Z.o _ M.o).dX λw1 c=>?_;have d:=c.alloc c.size (.cells #[dw (v:Int),dD x1,dw (Um:Int)] 129);have f:=dn (M.o.dW d);have g:=dn d;clear c d;go_wp2_with fail;refine(Ve.o _).dX λw2 a=>?_;have o:=(a.cell (p:=dA w1.heap.size 0) aW).trans (show _=some (dw (v:Int)) by simp);have G:=dn (f.o.dW a);have w:=dn (g.o.dW a);clear a f g;have e:=X.o.below G.o;have x:=e.c0;have y:=e.c1;have cf:=e.fr;obtain⟨wz,hwz,z,A,k⟩:=jW x y (dw 4) (dw (v:Int));have B:=dn ((Y.o.dW G.o).trans k);clear e k;go_wp2;exact dR (.agg #[dw 4,dw (v:Int)]) ams rfl ⟨amx,B.o⟩
theorem MF {u0 u1:Value}(g:w.cell? (dA n 0)=some u0)(h:w.cell? (dA n 1)=some u1)(c d:Value) :
 ∃a,(w.setCell (dA n 0) c).setCell (dA n 1) d=a/\a.cell? (dA n 0)=some c/\a.cell? (dA n 1)=some d/\Below n w a/\∀b,b≠n->a.heap[b]?=w.heap[b]?:=by
 obtain⟨a,e,i,j,k⟩:=jW g h c d;refine⟨a,e,i,j,k,λb f=>?_⟩;rw[<-e];exact(aD f).trans (aD f)
def Bu (S:Doc.dO)(p:Nat)(x1:dN)(R:Except Nat (List Nat))(so p3:Nat):Except (Nat × Nat) Doc.dO:=match R with
 | .error x=>.error (7,x)
 | .ok l=>if so=0 then .error (7,p3) else if S.syms.length=8 then .error (9,p) else .ok { S with syms:=S.syms++[⟨x1,l,so⟩] }
def CG (S:Doc.dO)(p p1:Nat)(x1:dN)(R:Except Nat (List Nat))(so p3:Nat):Except (Nat × Nat) Doc.dO:=
 if Doc.forbidden x1=true then .error (5,p1) else if (Doc.gD S.syms x1).isSome=true then .error (6,p1) else Bu S p x1 R so p3
theorem aaS {S:Doc.dO}{a d:Doc.Tr}(h:(qW Y a d).1≠0):Doc.mW S n Y a d=.error (qW Y a d):=by
 unfold qW at h ⊢;unfold Doc.mW
 by_cases b:Y.isList=true
 ·rw[if_pos b,if_pos b]
 ·rw[if_neg b]at h;rw[if_neg b,if_neg b]
  by_cases c:a.isList=false
  ·rw[if_pos c,if_pos c]
  ·rw[if_neg c]at h;rw[if_neg c,if_neg c];cases h3:Doc.iA a.kids with
   | some x=>rfl
   | none=>
    rw[h3]at h;simp only at h ⊢
    by_cases e:d.isList=true
    ·rw[if_pos e,if_pos e]
    ·rw[if_neg e]at h;exact absurd rfl h
theorem XA {S:Doc.dO}{p:Nat}{a b:Doc.Tr}(h:(qW Y a b).1=0):qW Y a b=(0,0)/\Y.isList=false/\∃r c,a=.list r c/\Doc.mW S p Y a b=CG S p Y.pos Y.text (OC r c) (Doc.gJ b.text) b.pos:=by
 unfold qW at h ⊢;unfold Doc.mW
 by_cases d:Y.isList=true
 ·rw[if_pos d]at h;exact anq
 ·rw[if_neg d]at h;rw[if_neg d,if_neg d]
  by_cases e:a.isList=false
  ·rw[if_pos e]at h;exact anq
  ·rw[if_neg e]at h;rw[if_neg e,if_neg e];cases h3:Doc.iA a.kids with
   | some x=>rw[h3]at h;simp at h
   | none=>
    rw[h3]at h;simp only at h ⊢
    by_cases g:b.isList=true
    ·rw[if_pos g]at h;exact anq
    ·rw[if_neg g,if_neg g];refine⟨rfl,anF,?_⟩;cases a with
     | word r x=>exact absurd rfl e
     | list r c=>
      refine⟨r,c,rfl,?_⟩;unfold CG Bu OC;show(if _ then _ else if _ then _ else if 2<c.length then Except.error (7,r) else _)=_
      by_cases f:2<c.length
      ·rw[if_pos f,if_pos f]
      ·rw[if_neg f,if_neg f];rfl
theorem uw (q l p k:Nat)(own:Own)(T:List Doc.Item)(m:List Doc.Tr)(c U s:Doc.Tr)(S:Doc.dO)(w:World)(bA:iU w own q l T p m)(hS:dI w own k l S)(hfr:eD own w)(hk:k≠0)(hw:Doc.iq S)(hl:m.length=4)(hk1:m[1]?=some c)(hk2:m[2]?=some U)(hk3:m[3]?=some s)(hok:Doc.oks m)(hwd:Doc.fE m<=800) :
 dH 82 #[dK q 0] w λbn V=>iL w V own k l S (Doc.mW S p c U s) bn:=by
 obtain⟨f,hW1⟩:∃f,w.alloc (.cells #[dw 0,dw 0] 64)=f:=⟨_,rfl⟩;obtain⟨yQ,t⟩:=fF.start w;rw[hW1]at yQ t;have hsz:f.heap.size=w.heap.size+1:=alZ;have X:=dn yQ;have K:Hid (Fr own (dG own w.heap.size (k+1)) k w f):=Fr.boxed hfr t ae aR;have hS1:dI f (dG own w.heap.size (k+1)) k l S:=hS.boxed t ae;have Y:=dn hS1;have F:iU f (dG own w.heap.size (k+1)) q l T p m:=bA.boxed t ae;have lH:=dn F;have Z:Hid (dG own w.heap.size (k+1) w.heap.size≠k):=bT;have HDF:=dn (Io q l p _ T m c U s f F K.o.eH hl hk1 hk2 hk3 hok);obtain⟨l1,g1⟩:=aG hk1;obtain⟨l2,g2⟩:=aG hk2;obtain⟨l3,g3⟩:=aG hk3;obtain⟨r,hown1⟩:=aK (dG own w.heap.size (k+1));have L:Hid (eD r f):=by show eD r f;rw[<-hown1];exact K.o.eH
 rw[hown1]at hS1 Y F lH;have CU:=dn hown1;clear hown1
 by_cases hF:(qW c U s).1=0
 ·obtain⟨hF0,ae1,bD,js,e2,hdr⟩:=XA (S:=S) (p:=p) hF;rw[hdr];rw[hF0]at HDF
  have hx1:0<c.text.length:=by
   have:=Doc.mG hok c (List.mem_of_getElem? hk1);cases c with
   | word bq bg=>simp only[Doc.Tr.ok]at this;exact List.length_pos_iff.2 this.1
   | list bq kk=>simp[Doc.Tr.isList]at ae1
  have aag:c.text.length<=1000000:=by
   have:=Doc.kH (ks:=m) c (List.mem_of_getElem? hk1);have h3:c.text.length<=c.width:=by cases c<;>simp[Doc.Tr.text,Doc.Tr.width]
   exact aR
  have abO:=dn (λW (D:dB f W)=>qw q l p 1 r T m W (F.below D) l1);have abN:=dn (λW (D:dB f W)=>qw q l p 3 r T m W (F.below D) l3);rw[g1]at abO;rw[g3]at abN;obtain⟨N,hf1⟩:=aK (Doc.start m 1 1+(Doc.flat c (Doc.start m 1 1)).length);obtain⟨Cz,hf3⟩:=aK (Doc.start m 1 3+(Doc.flat s (Doc.start m 1 3)).length);rw[hf1]at abO;rw[hf3]at abN;have I5:=dn (λW (D:dB f W)=>Qz c.text W (F.below D).ord.jq hx1 aag);have wT:=dn (λW (D:dB f W)=>GJ l S.syms S.terms c.text W (hS1.below D).book);have Pe:=dn (λW=>Gz s.text W);have HAS:=dn (λbB W (D:dB f W) (hB:f.heap.size<=bB) (hB2:bB<W.heap.size)=>Fa q l p bD (dG r bB 1) T m js W (F.boxed D hB) (λbC hc=>by unfold dG;rw[if_neg aR];exact L.o bC (Nat.le_trans D.size hc)) l2 (g2.trans e2));have HO0:=dn (λW (D:dB f W)=>(F.below D).ord.st);have Pq:=dn F.ord.lt;have hn8:=hw.book.few;have HDR:Hid (∀G j,CG S p c.pos c.text G j s.pos=if Doc.forbidden c.text=true then .error (5,c.pos) else if (Doc.gD S.syms c.text).isSome=true then .error (6,c.pos) else Bu S p c.text G j s.pos):=λG j=>rfl;obtain⟨G,Oe⟩:=aK (OC bD js);obtain⟨j,hso⟩:=aK (Doc.gJ s.text);rw[hso,Oe];rw[hso]at Pe;rw[Oe]at HAS;have HD2:=dn (HDR.o G j);generalize CG S p c.pos c.text G j s.pos=R at *;obtain⟨fb,afd⟩:=aK (Doc.forbidden c.text);obtain⟨fd,hfd⟩:=aK (Doc.gD S.syms c.text);rw[afd]at I5 HD2;rw[hfd]at wT HD2;clear bA hS hfr yQ t hw hS1 F hk1 hk2 hk3 g1 g2 g3 hok hwd hF hF0 e2 hdr hf1 hf3 HDR Oe hso afd hfd ae1 hx1 aag hl l1 l2 l3;generalize c.pos=n at *;generalize c.text=g at *;generalize s.pos=v at *;generalize s.text=x3 at *;go_enter func82,ntmps82;go_wp2_with fail;refine HDF.o.dX λe t=>?_;have hs1:=t.size;have RZ:Hid (dB f (e.alloc (.cells #[dw 0,dw 0] 64))):=t.fO;clear t;go_wp2_with fail;refine(abO.o _ (by exact RZ.o)).dX λd hb2=>?_;have hs2:=hb2.size;simp only[World.size_alloc]at hs2;have J:=hb2.alloc hb2.size (.cells #[dw (n:Int),dD g,dw (N:Int)] 129);have rZ:=dn (RZ.o.dW J);have f0:(d.alloc (.cells #[dw (n:Int),dD g,dw (N:Int)] 129)).cell? (dA e.heap.size 0)=some (dw 0):=(J.cell (p:=dA e.heap.size 0) aW).trans aW;have f1:(d.alloc (.cells #[dw (n:Int),dD g,dw (N:Int)] 129)).cell? (dA e.heap.size 1)=some (dw 0):=(J.cell (p:=dA e.heap.size 1) aW).trans aW;have ff:∀H,(d.alloc (.cells #[dw (n:Int),dD g,dw (N:Int)] 129)).frozen? (dA e.heap.size H)=false:=λH=>(J.frozen (p:=dA e.heap.size H) aW).trans aW;have n0:(d.alloc (.cells #[dw (n:Int),dD g,dw (N:Int)] 129)).cell? (dA d.heap.size 0)=some (dw (n:Int)):=aW;have n1:(d.alloc (.cells #[dw (n:Int),dD g,dw (N:Int)] 129)).cell? (dA d.heap.size 1)=some (dD g):=aW;have hsB:(d.alloc (.cells #[dw (n:Int),dD g,dw (N:Int)] 129)).heap.size=d.heap.size+1:=aW;clear hb2 J;go_upto_region 5 with fail
  generalize d.alloc (.cells #[dw (n:Int),dD g,dw (N:Int)] 129)=M at *;go_wp2_with fail;refine(I5.o _ (by exact rZ.o)).dX λwX WV=>?_;rw[WV];clear WV wX;cases fb
  case true=>
   have E:Hid (R=.error (5,n)):=by show _=_;rw[HD2.o,if_pos rfl]
   have a:=iL.fault (a:=5) (b:=n) L.o Y.o rZ.o aR;rw[<-CU.o]at a;have b:=a.fb X.o Z.o;have x:=b.c0;have y:=b.c1;have cf:=b.fr;obtain⟨wz,hwz,z,A,h,i⟩:=eP x y (dw (5:Int)) (dw (n:Int));have B:=dn (a.fw K.o ae aR h i);clear a b h i;go_wp2;exact dR (.agg #[dw (5:Int),dw (n:Int)]) al0 rfl am0
  case false=>
   have HD3:Hid (R=if fd.isSome=true then .error (6,n) else Bu S p g G j v):=by show _=_;rw[HD2.o,if_neg aY]
   have o0:=HO0.o M rZ.o;have hol:=Pq.o;have hsW:=rZ.o.size;clear HD2;go_wp2_with fail;go_region_held3 (fun V=>V.cell? (dA q 0)=some (dK l 0)/\V.cell? (dA d.heap.size 1)=some (dD g)) (go_keep) (first|(go_at_call 123;refine(wT.o _ rZ.o.drew).dX fun O hb3=>?_;have s0:O.cell? (dA q 0)=some (dK l 0):=hb3.dL o0 (by show q<M.heap.size;omega);have s1:O.cell? (dA d.heap.size 1)=some (dD g):=(hb3.dL n1 anN)));have P:dB M O:=af.drew.trans hb3;have xH:=dn (rZ.o.dW P);have g0:=P.dL f0 anM;have g1:=P.dL f1 anM;have gf:∀H,O.frozen? (dA e.heap.size H)=false:=λH=>(P.gq (ff H) anM);have m0:=P.dL n0 anN;have m1:=P.dL n1 anN;have hs3:=P.size;clear hb3 P f0 f1 ff n0 n1 o0
   try clear s0
   try clear s1
   cases fd with
   | some bH=>
    have E:Hid (R=.error (6,n)):=HD3.o.trans rfl;have tz:(0:Int)<=(bH:Int):=aR;simp only[placeOf];have a:=iL.fault (a:=6) (b:=n) L.o Y.o xH.o aR;rw[<-CU.o]at a;have b:=a.fb X.o Z.o;have x:=b.c0;have y:=b.c1;have cf:=b.fr;obtain⟨wz,hwz,z,A,h,i⟩:=eP x y (dw (6:Int)) (dw (n:Int));have B:=dn (a.fw K.o ae aR h i);clear a b h i;go_wp2;exact dR (.agg #[dw (6:Int),dw (n:Int)]) al0 rfl am0
   | none=>
    have HD4:Hid (R=Bu S p g G j v):=HD3.o.trans rfl;simp only[placeOf];clear HD3;go_wp2_with fail;refine(HAS.o e.heap.size _ (by exact xH.o) hs1 aR).mono ?_;rintro bn w4 ⟨hAs,hb4⟩;have HCD:=dn (xH.o.dW hb4);have j0:=hb4.dL g0 anL;have j1:=hb4.dL g1 anL;have jf:∀H,w4.frozen? (dA e.heap.size H)=false:=λH=>(hb4.gq (gf H) anL);have q1:=hb4.dL m1 (by show d.heap.size<O.heap.size;omega);have hs4:=hb4.size;clear hb4 g0 g1 gf m0 m1;cases G with
    | error bg=>
     have aiy:bn=dF (dM #[dE,.agg #[dw 7,dw (bg:Nat)]]):=hAs;subst aiy;have E:Hid (R=.error (7,bg)):=HD4.o;obtain⟨wy,yO,y0,y1,yb,yo⟩:=MF j0 j1 (dw 7) (dw (bg:Nat));have xG:=dn (HCD.o.trans (yb.mono hs1));clear hAs yb yo HD4;go_upto_region 10 with fail
     have a:=iL.fault (a:=7) (b:=bg) L.o Y.o xG.o aR;rw[<-CU.o]at a;have b:=a.fb X.o Z.o;have x:=b.c0;have y:=b.c1;have cf:=b.fr;obtain⟨wz,hwz,z,A,h,i⟩:=eP x y (dw (7:Int)) (dw (bg:Int));have B:=dn (a.fw K.o ae aR h i);clear a b h i;go_wp2;exact dR (.agg #[dw (7:Int),dw (bg:Int)]) al0 rfl am0
    | ok Q=>
     obtain⟨bF,bq,hAs,hro,hl2⟩:=hAs;subst hAs;have HD5:Hid (R=if j=0 then .error (7,v) else if S.syms.length=8 then .error (9,p) else .ok { S with syms:=S.syms++[⟨g,Q,j⟩] }):=HD4.o;obtain⟨wy,yO,y0,y1,yb,yo⟩:=MF j0 j1 (dw 0) (dw 0);have xG:=dn (HCD.o.trans (yb.mono hs1))
     have Yr:Hid (fG wy r (.slice bF Q.length bq) Q):=hro.step (λbG _ I=>by
      have hne:bG≠e.heap.size:=by
       intro bn;unfold dG at I;rw[if_pos bn]at I;exact aR
      refine⟨yo bG hne,by unfold dG at I;rw[if_neg hne]at I;exact I⟩)
     have v1:wy.cell? (dA d.heap.size 1)=some (dD g):=(World.cell?_of_block (w:=w4) (a:=dA d.heap.size 1) (yo _ (by show d.heap.size≠e.heap.size;omega))).trans q1;have hs5:=yb.size;clear yb yo hro q1 HD4;go_upto_region 10 with fail
     clear yO;go_wp2_with fail;refine(abN.o _ (by exact xG.o)).dX λw5 hb5=>?_;have J:=hb5.alloc hb5.size (.cells #[dw (v:Int),dD x3,dw (Cz:Int)] 129);have nG:=dn J;have RY:=dn (xG.o.dW J);have hs6:=hb5.size;have t0:(w5.alloc (.cells #[dw (v:Int),dD x3,dw (Cz:Int)] 129)).cell? (dA w5.heap.size 0)=some (dw (v:Int)):=aW;have t1:(w5.alloc (.cells #[dw (v:Int),dD x3,dw (Cz:Int)] 129)).cell? (dA w5.heap.size 1)=some (dD x3):=aW;have v2:=J.dL v1 (by show d.heap.size<wy.heap.size;omega);have hsF:(w5.alloc (.cells #[dw (v:Int),dD x3,dw (Cz:Int)] 129)).heap.size=w5.heap.size+1:=aW;clear hb5 J v1 y0 y1;go_upto_region 13 with fail;generalize w5.alloc (.cells #[dw (v:Int),dD x3,dw (Cz:Int)] 129)=wF at *;go_wp2_with fail;refine(Pe.o _).dX λwX WV=>?_;rw[WV];clear WV wX
     by_cases I:j=0
     ·have E:Hid (R=.error (7,v)):=by show _=_;rw[HD5.o,if_pos I]
      have ts:((j:Int)==0)=true:=by rw[I];rfl
      clear I;have a:=iL.fault (a:=7) (b:=v) L.o Y.o RY.o aR;rw[<-CU.o]at a;have b:=a.fb X.o Z.o;have x:=b.c0;have y:=b.c1;have cf:=b.fr;obtain⟨wz,hwz,z,A,h,i⟩:=eP x y (dw (7:Int)) (dw (v:Int));have B:=dn (a.fw K.o ae aR h i);clear a b h i;go_wp2;exact dR (.agg #[dw (7:Int),dw (v:Int)]) al0 rfl am0
     ·have ts:((j:Int)==0)=false:=ak aR;have HD6:Hid (R=if S.syms.length=8 then .error (9,p) else .ok { S with syms:=S.syms++[⟨g,Q,j⟩] }):=by show _=_;rw[HD5.o,if_neg I]
      have HSF:=dn (Y.o.below RY.o);have HFF:Hid (eD r wF):=λbC hc=>L.o bC (Nat.le_trans RY.o.size hc);have o0:=HO0.o wF RY.o;have hol:=Pq.o;have hsW:=RY.o.size;have HFd:Hid (eD r wF.drew):=HFF.o;have HDC:=dn (QV l k r S ⟨g,Q,j⟩ bF bq wF.drew (HSF.o.below af.drew) HFd.o hk ((Yr.o.below nG.o).below af.drew).ints (by show Q.length<=1000;omega));have ajf:Hid (r q=0):=lH.o.ord.ZG;have ajm:Hid (r d.heap.size=0):=L.o _ aR;have akE:q<wF.heap.size:=aR;have akQ:d.heap.size<wF.heap.size:=aR;simp only at HDC;clear HD5 I;go_wp2_with fail;go_region_held3 (fun V=>V.cell? (dA q 0)=some (dK l 0)/\V.cell? (dA d.heap.size 1)=some (dD g)) (go_keep) (first|(go_at_call 126;refine HDC.o.mono ?_;rintro bn w7 ⟨rfl,SQ,hf7,hS7⟩;have s0:w7.cell? (dA q 0)=some (dK l 0):=hf7.cell (p:=dA q 0) (by exact o0) (by show r q≠k;rw[ajf.o];exact hk.symm);have s1:w7.cell? (dA d.heap.size 1)=some (dD g):=hf7.cell (p:=dA d.heap.size 1) (by exact v2) (by show r d.heap.size≠k;rw[ajm.o];exact hk.symm)));have PI:Hid (Fr r SQ k f w7):=((Fr.of_below k L.o RY.o).trans (Fr.of_below k HFF.o af.drew)).trans hf7;have HS7:=dn hS7;clear hf7 hS7 o0 v2 t0 t1
      try clear s0
      try clear s1
      by_cases h8:S.syms.length<8
      ·have E:Hid (R=.ok { S with syms:=S.syms++[⟨g,Q,j⟩] }):=by show _=_;rw[HD6.o,if_neg aR]
       have td:decide (S.syms.length<8)=true:=decide_eq_true h8;have Yq:=HS7;rw[if_pos h8]at Yq;have a:iL f w7 r k l S (.ok { S with syms:=S.syms++[⟨g,Q,j⟩] }) (dF (.agg #[dw 0,dw 0])):=⟨SQ,PI.o,rfl,Yq.o⟩;rw[<-CU.o]at a;have b:=a.fb X.o Z.o;have x:=b.c0;have y:=b.c1;have cf:=b.fr;obtain⟨wz,hwz,z,A,h,i⟩:=eP x y (dw 0) (dw 0);have B:=dn (a.fw K.o ae aR h i);clear a b h i h8;go_wp2;exact dR (.agg #[dw 0,dw 0]) al0 rfl am0
      ·have E:Hid (R=.error (9,p)):=by show _=_;rw[HD6.o,if_pos aR]
       have td:decide (S.syms.length<8)=false:=decide_eq_false h8;have Yq:=HS7;rw[if_neg h8]at Yq;have BJ:=dn (jS q l p 9 SQ T m w7 (lH.o.fr PI.o hk));clear h8;go_wp2_with fail;refine BJ.o.dX λw8 KD=>?_;have a:iL f w8 r k l S (.error (9,p)) (dF (.agg #[dw (9:Nat),dw (p:Nat)])):=⟨SQ,PI.o.trans (Fr.of_below k PI.o.eH KD),rfl,aR,Yq.o.below KD⟩;rw[<-CU.o]at a;have b:=a.fb X.o Z.o;have x:=b.c0;have y:=b.c1;have cf:=b.fr;obtain⟨wz,hwz,z,A,h,i⟩:=eP x y (dw 9) (dw (p:Int));have B:=dn (a.fw K.o ae aR h i);clear a b h i KD;go_wp2;exact dR (.agg #[dw 9,dw (p:Int)]) al0 rfl am0
 ·rw[aaS hF];obtain⟨u,hF1⟩:=aK ((qW c U s).1);obtain⟨C,hF2⟩:=aK ((qW c U s).2);have hFF:qW c U s=(u,C):=by rw[<-hF1,<-hF2]
  rw[hF1,hF2]at HDF;rw[hF1]at hF;rw[hFF];have hen:((u:Int) !=0)=true:=bJ;clear bA hS hfr yQ t hw hS1 F hk1 hk2 hk3 g1 g2 g3 hok hwd hF1 hF2 hFF hl l1 l2 l3;go_enter func82,ntmps82;go_wp2_with fail;refine HDF.o.dX λe t=>?_;have hs1:=t.size;have RZ:Hid (dB f (e.alloc (.cells #[dw (u:Int),dw (C:Int)] 64))):=t.fO;have f0:(e.alloc (.cells #[dw (u:Int),dw (C:Int)] 64)).cell? (dA e.heap.size 0)=some (dw (u:Int)):=aW;have f1:(e.alloc (.cells #[dw (u:Int),dw (C:Int)] 64)).cell? (dA e.heap.size 1)=some (dw (C:Int)):=aW;clear t;go_upto_region 2 with fail;generalize e.alloc (.cells #[dw (u:Int),dw (C:Int)] 64)=wa at *;have E:Hid ((.error (u,C):Except (Nat × Nat) Doc.dO)=.error (u,C)):=rfl;have a:=iL.fault (a:=u) (b:=C) L.o Y.o RZ.o hF;rw[<-CU.o]at a;have b:=a.fb X.o Z.o;have x:=b.c0;have y:=b.c1;have cf:=b.fr;obtain⟨wz,hwz,z,A,h,i⟩:=eP x y (dw (u:Int)) (dw (C:Int));have B:=dn (a.fw K.o ae aR h i);clear a b h i;go_wp2;exact dR (.agg #[dw (u:Int),dw (C:Int)]) al0 rfl B.o
theorem XD (h:Doc.digits x=true):(if x=[48] then(.ok 0:Except (Nat × Nat) Nat) else if x=[49] then .ok 1 else if x=[50] then .ok 2 else if x=[51] then .ok 3 else if x=[52] then .ok 4 else .ok 5)=.ok (min (dC.val x) 5):=by
 have a:∀(y:dN) (n:Nat),Doc.digits y=true->dC.val y=n->dC.val x=n->x=y:=λy n i j k=>Doc.Ik h i (k.trans j.symm)
 by_cases b:x=[48]
 ·rw[if_pos b,b];rfl
 ·rw[if_neg b]
  by_cases c:x=[49]
  ·rw[if_pos c,c];rfl
  ·rw[if_neg c]
   by_cases d:x=[50]
   ·rw[if_pos d,d];rfl
   ·rw[if_neg d]
    by_cases f:x=[51]
    ·rw[if_pos f,f];rfl
    ·rw[if_neg f]
     by_cases g:x=[52]
     ·rw[if_pos g,g];rfl
     ·rw[if_neg g];have l:dC.val x≠0:=λe=>b (a [48] 0 aY aY e);have m:dC.val x≠1:=λe=>c (a [49] 1 aY aY e);have o:dC.val x≠2:=λe=>d (a [50] 2 aY aY e);have p:dC.val x≠3:=λe=>f (a [51] 3 aY aY e);have q:dC.val x≠4:=λe=>g (a [52] 4 aY aY e);rw[show min (dC.val x) 5=5 by omega]
theorem count_eq (p:Nat)(a:List Doc.Tr):Doc.count p a=match countP p a with|.error x=>.error x|.ok n=>.ok (min n 5):=by
 unfold Doc.count countP
 match a with
 | []=>rfl
 | [_]=>rfl
 | [_,k]=>
  show(if Doc.digits k.text=true then _ else _)=match (if Doc.digits k.text=true then Except.ok (numOf k.text) else Except.error (4,k.pos)) with|.error x=>(Except.error x:Except (Nat × Nat) Nat)|.ok n=>Except.ok (min n 5)
  cases hd:Doc.digits k.text
  ·rfl
  ·simp only[if_true];rw[XD hd,zJ hd]
 | _::_::_::a=>
  rw[if_pos aW]
theorem adi {S:Doc.dO}:(match countP n A with|.error x=>.error x|.ok a=>if a+S.levels.length<=4 then .ok (dO.lv S a) else .error (9,n))=Doc.push S n A:=by
 unfold Doc.push;rw[count_eq];cases countP n A with
 | error x=>rfl
 | ok a=>
  simp only
  by_cases h:a+S.levels.length<=4
  ·rw[if_pos h,if_neg aR,show min a 5=a by omega];rfl
  ·rw[if_neg h,if_pos aR]
theorem aes {S:Doc.dO}(d:Doc.iq S)(h:n<=S.levels.length):Doc.wY n S=Aj n S:=by
 unfold Aj
 by_cases a:n=0
 ·rw[if_pos a,a];rfl
 ·rw[if_neg a];obtain⟨L,l,R,b,c,e⟩:=Doc.Kk (S:=S) (n:=n) aR h;rw[<-c,Doc.Q6 R S L l d b];have f:S.levels.length-(R.length+1)=L.length:=by rw[c,e]
  rw[f,b]
  congr 1
  ·rw[List.getD_eq_getElem?_getD,List.getElem?_append_right ae];exact aW
  ·exact aW
theorem aer {S:Doc.dO}(b:Doc.iq S):(match countP n A with|.error x=>.error x|.ok a=>if a<=S.levels.length then .ok (Aj a S) else .error (10,n))=Doc.pop S n A:=by
 have c:=b.ve;unfold Doc.pop;rw[count_eq];cases countP n A with
 | error x=>rfl
 | ok a=>
  simp only
  by_cases h:a<=S.levels.length
  ·rw[if_pos h,if_neg aR,show min a 5=a by omega,aes b h]
  ·rw[if_neg h,if_pos aR]
theorem Im (d f p:Nat)(own:Own)(g:List Doc.Item)(a:List Doc.Tr)(w:World)(h:iU w own d f g p a)(m:a.length≠4) :
 dH 121 #[dK d 0] w λn o=>n=dF (.agg #[dw 4,dw (p:Nat)])/\dB w o:=by
 obtain⟨D,E,q,i⟩:=h.ins;have r:=h.ord.lt;obtain⟨j,s,F⟩:=iM i.ints;rw[<-j]at s;obtain⟨k,b⟩:=fF.start w;have t:=dn k;have u:=dn b;have G:=b.dL q r;have v:=dn (jS d f p 4 own g a _ (h.below b));have H:((a.length:Int) !=4)=true:=aX;clear j i h b k;generalize a.length=L at *;clear m;go_enter func121,ntmps121;go_wp2_with fail;refine v.o.dX λI e=>?_;have c:=t.o.below e;have x:=dn (u.o.dW e);have y:=c.c0;have z:=c.c1;have J:=c.fr;obtain⟨K,M,A,B,l⟩:=jW y z (dw 4) (dw (p:Int));have C:=dn (x.o.trans l);clear e c l;go_wp2;exact dR (.agg #[dw 4,dw (p:Int)]) (by simp[results,results121,go_sem,A,B]) rfl ⟨rfl,C.o⟩
theorem OA (f d p k:Nat)(own:Own)(h:List Doc.Item)(b:List Doc.Tr)(S:Doc.dO)(w:World)(j:iU w own f d h p b)(l:dI w own k d S)(m:eD own w)(z:k≠0)(q:Doc.iq S)(r:Doc.oks b)(s:Doc.fE b<=800) :
 dH 82 #[dK f 0] w λA B=>iL w B own k d S (Doc.declare S p b) A:=by
 by_cases g:b.length=4
 ·rw[Doc.uw g];exact uw f d p k own h b _ _ _ S w j l m z q g (aF aR) (aF aR) (aF aR) r s
 ·rw[Doc.FD g];obtain⟨c,t⟩:∃c,w.alloc (.cells #[dw 0,dw 0] 64)=c:=⟨_,rfl⟩;obtain⟨n,a⟩:=fF.start w;rw[t]at n a;have M:c.heap.size=w.heap.size+1:=by rw[<-t];simp
  have C:=dn n;have u:Hid (Fr own (dG own w.heap.size (k+1)) k w c):=Fr.boxed m a ae aR;have D:Hid (dI c (dG own w.heap.size (k+1)) k d S):=l.boxed a ae;have v:iU c (dG own w.heap.size (k+1)) f d h p b:=j.boxed a ae;have E:Hid (dG own w.heap.size (k+1) w.heap.size≠k):=bT;have F:=dn (Im f d p _ h b c v g);clear j l m n a q v r s g;go_enter func82,ntmps82;go_wp2_with fail;refine F.o.dX λe a=>?_;have N:=a.size;have G:Hid (dB c (e.alloc (.cells #[dw 4,dw (p:Int)] 64))):=a.fO;have O:(e.alloc (.cells #[dw 4,dw (p:Int)] 64)).dQ e.heap.size 0=some (dw 4):=aW;have P:(e.alloc (.cells #[dw 4,dw (p:Int)] 64)).dQ e.heap.size 1=some (dw (p:Int)):=aW;clear a;go_upto_region 2 with fail
  generalize e.alloc (.cells #[dw 4,dw (p:Int)] 64)=Q at *;have o:=iL.fault (a:=4) (b:=p) u.o.eH D.o G.o aR;have i:=o.fb C.o E.o;have H:=i.c0;have I:=i.c1;have R:=i.fr;obtain⟨T,U,J,K,x,y⟩:=eP H I (dw 4) (dw (p:Int));have L:=dn (o.fw u.o ae aR x y);clear o i x y;go_wp2;exact dR (.agg #[dw 4,dw (p:Int)]) (by simp[results,results82,go_sem,J,K]) rfl L.o
end Go.Proofs.YtjiagbaaikifpaaGreatDoor
namespace Doc
variable {r:List Tr}{s:Str}
theorem MM {x:Nat × Nat}(h:parse s=.error x):x.1≠0:=by
 unfold parse at h;split at h
 ·split at h
  ·rename_i e p a;injection h with h;rw[<-h];have:=BO s 12 _ e p a;exact anU
  ·split at h
   ·injection h with h;rw[<-h];exact aW
   ·cases h
 ·injection h with h;rw[<-h];exact aW
mutual
theorem Ie:∀(t:Tr) (b:Nat),(flat t b).length<=t.width+1
 | .word p w,b=>by simp[flat]
 | .list p a,b=>by have:=FB a (b+1);simp only[flat,List.length_cons,Tr.width];omega
theorem FB:∀(a:List Tr) (b:Nat),(gP a b).length<=fE a
 | [],b=>by simp[gP]
 | k::a,b=>by
  have c:=Ie k b;have d:=FB a (b+(flat k b).length);simp only[gP,List.length_append,fE];exact aR
end
theorem MB {S:dO}{p:Nat}{a:Tr}(h:r[0]?=some a):run S p r=(
 if a.text=iF then(declare S p r).map (λs=>(s,false))
 else if a.text=jH then(assert S p r).map (λs=>(s,false))
 else if a.text=qM then(push S p r).map (λs=>(s,false))
 else if a.text=Ai then(pop S p r).map (λs=>(s,false))
 else if a.text=pY then(if r.length=1 then .ok (S,true) else .error (4,p))
 else if a.text=AZ then(if r.length=1 then .ok (dO.empty,false) else .error (4,p))
 else .error (4,a.pos)):=by
 cases r with
 | nil=>simp at h
 | cons k rest=>
  simp at h;subst h;unfold run;simp only
  have b:(if 0<rest.length then(.error (4,p):Except (Nat × Nat) (dO × Bool)) else .ok (S,true))=if (k::rest).length=1 then .ok (S,true) else .error (4,p):=by
   cases rest<;>rfl
  have c:(if 0<rest.length then(.error (4,p):Except (Nat × Nat) (dO × Bool)) else .ok (⟨[],[],[],[]⟩,false))=if (k::rest).length=1 then .ok (dO.empty,false) else .error (4,p):=by
   cases rest<;>rfl
  rw[b,c]
end Doc
namespace Go.Proofs.YtjiagbaaikifpaaGreatDoor
open Go.RowKit Go.Proofs.Tryz
variable {U W u w:World}{h:Ending}{k m n:Nat}{o:Own}{v:Value}{x:dN}
theorem Un (b a c:Value)(w:World):(Instr.field 129 (.agg #[b,a,c]) 1).run prog w=.ok a w:=by
 first
 | (simp[Instr.field,run_underlying underlying129,go_sem];done)
 | kernel_rfl
def UJ (w w':World)(own:Own)(k sb:Nat)(S:Doc.dO)(R:Except (Nat × Nat) (Doc.dO × Bool))(e:Ending):Prop:=
 ∃own',Fr own own' k w w'/\match R with
  | .ok r=>e=dF (dM #[.bool r.2,.agg #[dw 0,dw 0]])/\dI w' own' k sb r.1
  | .error x=>e=dF (dM #[dP,.agg #[dw (x.1:Nat),dw (x.2:Nat)]])/\x.1≠0/\dI w' own' k sb S
def Dy (S:Doc.dO)(l:dN):Except (Nat × Nat) (Doc.dO × Bool):=match Doc.parse l with
 | .error x=>.error x
 | .ok t=>Doc.run S t.pos t.kids
theorem iL.lift {own:Own}{S:Doc.dO}{R:Except (Nat × Nat) Doc.dO}(a:eD own w)(b:dB w W)(c:iL W u own n m S R h):iL w u own n m S R h:=by
 exact ap5
theorem iL.run {own:Own}{S:Doc.dO}{R:Except (Nat × Nat) Doc.dO}(h:iL w W own n m S R (dF v)):UJ w W own n m S (R.map (λs=>(s,false))) (dF (dM #[dP,v])):=by
 obtain⟨c,d,b⟩:=h;refine⟨c,d,?_⟩;cases R with
 | ok r=>
  obtain⟨e,a⟩:=b;injection e with e
  subst e;exact⟨rfl,a⟩
 | error x=>
  obtain⟨e,f,a⟩:=b;injection e with e
  subst e;exact⟨rfl,f,a⟩
theorem iL.err {own:Own}{S:Doc.dO}{x:Nat × Nat}(h:iL w W own n m S (.error x) (dF v)):UJ w W own n m S (.error x) (dF (dM #[dP,v])):=h.run
theorem iL.chk {own:Own}{S:Doc.dO}(h:iL w W own n m S (.ok S) (dF (.agg #[dw 0,dw 0]))):UJ w W own n m S (.ok (S,true)) (dF (dM #[fu,.agg #[dw 0,dw 0]])):=by
 obtain⟨a,b,c⟩:=h;exact⟨a,b,rfl,c.2⟩
theorem ad2 (n k:Nat)(own:Own)(S:Doc.dO)(bA:dN)(w:World)(hS:dI w own k n S)(hfr:eD own w)(hk:k≠0)(hw:Doc.iq S)(hg:gZ w)(hg0:∀b,b<2->own b=0)(hl:bA.length<=400) :
 dH 33 #[dK n 0,dD bA] w λF w'=>UJ w w' own k n S (Dy S bA) F:=by
 obtain⟨N,hW0⟩:∃N,w.alloc (.cells #[dw 0,dw 0] 64)=N:=⟨_,rfl⟩;obtain⟨d,hb0⟩:=fF.start w;rw[hW0]at d hb0;have hsz:N.heap.size=w.heap.size+1:=by rw[<-hW0];simp
 have O:=dn d;have G:Hid (Fr own (dG own w.heap.size (k+1)) k w N):=Fr.boxed hfr hb0 ae aR;have FR:Hid (dI N (dG own w.heap.size (k+1)) k n S):=hS.boxed hb0 ae;have P:Hid (dG own w.heap.size (k+1) w.heap.size≠k):=bT;have hgs:=hg.size;have ajO:Hid (∀b,b<2->dG own w.heap.size (k+1) b=0):=λb Q=>by unfold dG;rw[if_neg aR];exact hg0 b Q
 have HG0:Hid (gZ N):=hg.fT (λb Q hlt=>hb0.block b hlt);have uR:=dn (abp bA N aR);rw[Doc.SE]at uR;unfold Dy;clear hS hfr hg hg0 d hb0;cases T:Doc.parse bA with
 | error x=>
  obtain⟨U,x2⟩:=x;have hne:=Doc.MM T;simp only at hne;rw[T]at uR;have hen:((U:Int) !=0)=true:=bJ;clear T;simp only;go_enter func33,ntmps33;go_wp2_with fail;refine uR.o.mono ?_;rintro F j ⟨hrd,hb1⟩;have ahR:F=dF (dM #[dE,.agg #[dw (U:Nat),dw (x2:Nat)]]):=hrd;subst ahR;have HC:Hid (dB N (j.alloc (.cells #[dw (U:Int),dw (x2:Int)] 64))):=hb1.fO;have f0:(j.alloc (.cells #[dw (U:Int),dw (x2:Int)] 64)).dQ j.heap.size 0=some (dw (U:Int)):=aW;have f1:(j.alloc (.cells #[dw (U:Int),dw (x2:Int)] 64)).dQ j.heap.size 1=some (dw (x2:Int)):=aW;clear hrd hb1;go_upto_region 2 with fail
  generalize j.alloc (.cells #[dw (U:Int),dw (x2:Int)] 64)=wa at *;have e:=iL.fault (a:=U) (b:=x2) G.o.eH FR.o HC.o hne;have uO:=e.fb O.o P.o;have q:=uO.c0;have r:=uO.c1;have cf:=uO.fr;obtain⟨wz,hwz,s,t,h,i⟩:=eP q r (dw (U:Int)) (dw (x2:Int));have u:=dn (e.fw G.o ae aR h i).drew;clear e uO h i;go_upto_region 3 with fail;go_region
  all_goals
   go_wp2;exact dR (dM #[dP,.agg #[dw (U:Int),dw (x2:Int)]]) cu rfl u.o.err
 | ok bB=>
  have ae3:=Doc.ML T;obtain⟨p,a,rfl,NJ,TD⟩:=Doc.Ca T;rw[T]at uR;have Nz:Doc.fE a<=800:=aR;have hin:∀bB∈a,Doc.within 11 bB:=ae3;have ae9:=Doc.Ie (.list p a) 0;simp only[Doc.Tr.width]at ae9;simp only[Doc.Tr.pos,Doc.Tr.kids];obtain⟨R,hR⟩:=aK (Doc.run S p a);have HR:=dn hR;rw[hR];clear T ae3 TD hR;have hlies:=Doc.mg.top (.list p a);obtain⟨v,hits⟩:=aK (Doc.flat (.list p a) 0);rw[hits]at hlies ae9;simp only[hits]at uR;clear hits;have B:=dn (⟨hlies,hin,NJ,Nz,hw⟩:Doc.mg v 0 (.list p a)/\(∀bB∈a,Doc.within 11 bB)/\Doc.oks a/\Doc.fE a<=800/\Doc.iq S);clear hlies hin NJ Nz hw;go_enter func33,ntmps33;go_wp2_with fail;refine uR.o.mono ?_;rintro F j ⟨hrd,hb1⟩;obtain⟨bG,hrd,aat,ahY⟩:=hrd;subst hrd;obtain⟨aI,cI,rfl,_⟩:=id aat;have V:=hb1.size;obtain⟨c,H8⟩:=fF.start j;obtain⟨W2,hW2⟩:∃W2,j.alloc (.cells #[dw 0,dw 0] 64)=W2:=⟨_,rfl⟩;rw[hW2]at c H8;have hsz2:W2.heap.size=j.heap.size+1:=by rw[<-hW2];simp
  have f0:=c.c0;have Ex:=dn c;have N9:dB N W2:=hb1.dW H8;have y:Hid (Fr (dG own w.heap.size (k+1)) (dG (dG own w.heap.size (k+1)) j.heap.size (k+1)) k N W2):=Fr.boxed G.o.eH N9 V aR;have HS2:Hid (dI W2 (dG (dG own w.heap.size (k+1)) j.heap.size (k+1)) k n S):=FR.o.boxed N9 V;have Ey:Hid (dG (dG own w.heap.size (k+1)) j.heap.size (k+1) j.heap.size≠k):=bT
  have HG2:Hid (gZ W2/\∀b,b<2->dG (dG own w.heap.size (k+1)) j.heap.size (k+1) b=0):=⟨HG0.o.fT (λb Q hlt=>N9.block b hlt),λb Q=>by
   have:=ajO.o b Q;show(if b=j.heap.size then k+1 else dG own w.heap.size (k+1) b)=0;rw[if_neg aR];exact this⟩
  have HIR:Hid (tH W2 (dG (dG own w.heap.size (k+1)) j.heap.size (k+1)) (.slice aI v.length cI) v):=
   tH.step (w:=j) (own:=dG own w.heap.size (k+1)) (λb Q h0=>⟨H8.block b Q,by show(if b=j.heap.size then k+1 else dG own w.heap.size (k+1) b)=0;rw[if_neg aR];exact h0⟩) (gu.imp aat λbD bH hi T=>⟨G.o.eH bD T.1,T.2⟩)
  have agD:=dn N9;have abP:=dn (Es (b:=0) (p:=p) (ks:=a) HIR.o.items B.o.1 aR y.o.eH);clear hb1 aat ahY c H8 N9;obtain⟨Ce,ho2⟩:=aK (dG (dG own w.heap.size (k+1)) j.heap.size (k+1));have HW2:=dn hW2;clear hW2;go_upto_region 2 with fail
  rw[HW2.o];go_wp2_with fail;refine abP.o.mono ?_;rintro F W ⟨⟨bn,bq,rfl,hro⟩,hb3⟩;obtain⟨rH,kk1,kk2⟩:=iM hro.ints;rw[<-rH]at kk1;clear rH;have hs3:=hb3.size;have hb4:dB W (W.alloc (.cells #[dK n 0,.slice aI v.length cI,.slice bn a.length bq] 126)):=ai;have Ub:=hb3.dW hb4
  have hc4:iU (W.alloc (.cells #[dK n 0,.slice aI v.length cI,.slice bn a.length bq] 126)) (dG (dG own w.heap.size (k+1)) j.heap.size (k+1)) W.heap.size n v p a:=
   ⟨⟨aW,⟨_,aW,HIR.o.step (λb Q h0=>⟨Ub.block b Q,h0⟩)⟩,y.o.eH _ hs3,HG2.o.1.fT (λb Q hlt=>Ub.block b hlt),HG2.o.2⟩,⟨bn,bq,aW,hro.below hb4⟩,B.o.1,aP B.o.2.2.2.1⟩
  have o2:(W.alloc (.cells #[dK n 0,.slice aI v.length cI,.slice bn a.length bq] 126)).dQ W.heap.size 2=some (.slice bn a.length bq):=aW;have abX:=dn Ub;have xI:=dn hc4;obtain⟨X,hob⟩:=aK W.heap.size;have hs4:(W.alloc (.cells #[dK n 0,.slice aI v.length cI,.slice bn a.length bq] 126)).heap.size=W.heap.size+1:=aW;clear hro hb3 hb4 Ub hc4 ho2 Ce;go_upto_region 5 with fail
  generalize W.alloc (.cells #[dK n 0,.slice aI v.length cI,.slice bn a.length bq] 126)=W4 at *;simp only[hob]at *
  by_cases h0:a.length=0
  ·have hnil:a=[]:=List.length_eq_zero_iff.1 h0;have A:Hid (R=.error (4,p)):=by show _=_;rw[<-HR.o,hnil];rfl
   have BJ:=dn (jS X n p 4 _ v a W4 xI.o);have tl:((a.length:Int)==0)=true:=by rw[h0];rfl
   clear hnil h0;generalize a.length=bI at *;go_wp2_with fail;refine BJ.o.dX λK hb5=>?_;have e:=iL.fault (a:=4) (b:=p) G.o.eH FR.o ((agD.o.dW abX.o).trans (hb5.mono (agD.o.dW abX.o).size)) aR;have uO:=e.fb O.o P.o;have q:=uO.c0;have r:=uO.c1;have cf:=uO.fr;obtain⟨wz,hwz,s,t,h,i⟩:=eP q r (dw 4) (dw (p:Int));have u:=dn (e.fw G.o ae aR h i);clear e uO h i hb5;go_wp2;exact dR (dM #[dP,.agg #[dw 4,dw (p:Int)]]) cu rfl aoT
  ·have hpos:0<a.length:=aR;obtain⟨k0,hk0⟩:∃k0,a[0]?=some k0:=⟨_,aF hpos⟩;obtain⟨_,gk0⟩:=aG hk0;have Y:=dn (λbC (hW:dB W4 bC)=>qw X n p 0 _ v a bC (xI.o.below hW) hpos);rw[gk0]at Y;have H:Hid (R=_):=HR.o.symm.trans (Doc.MB (S:=S) (p:=p) hk0);have tl:((a.length:Int)==0)=false:=ak aR;obtain⟨afG,hf0⟩:=aK (Doc.start a 1 0+(Doc.flat k0 (Doc.start a 1 0)).length);rw[hf0]at Y;clear hf0 gk0 hk0 h0;generalize k0.pos=ps at *;generalize k0.text=x at *;have alg:=Un (dw (ps:Int)) (dD x) (dw (afG:Int));have aif:=xU (dw (ps:Int)) (dD x) (dw (afG:Int));go_wp2_with fail;refine(Y.o _ af).dX λK hb5=>?_;have akh:=dn hb5;have Z:=dn (abX.o.dW hb5);have FX:=dn (xI.o.below hb5);have pV:=dn (HS2.o.below Z.o);have K9:Hid (eD (dG (dG own w.heap.size (k+1)) j.heap.size (k+1)) K):=λbF hc=>y.o.eH bF (Nat.le_trans Z.o.size hc);have akY:¬(w.heap.size=j.heap.size):=aR;have akv:¬(j.heap.size=w.heap.size):=aR;clear hb5 o2 f0
   by_cases C:x=[100,101,99,108,97,114,101,45,102,117,110]
   ·have A:Hid (R=(Doc.declare S p a).map (λbg=>(bg,false))):=by
     show _=_;rw[H.o];rw[if_pos (show x=Doc.iF from C)]
    have HCM:=dn (OA X n p k _ v a S K FX.o pV.o K9.o hk B.o.2.2.2.2 B.o.2.2.1 B.o.2.2.2.1);clear H Y;subst C;exact apk
   ·skip
    by_cases I:x=[97,115,115,101,114,116]
    ·have A:Hid (R=(Doc.assert S p a).map (λbg=>(bg,false))):=by
      show _=_;rw[H.o];rw[if_neg (show ¬x=Doc.iF from C)];rw[if_pos (show x=Doc.jH from I)]
     have HCM:=dn (QS X n p k _ v a S K FX.o pV.o K9.o hk B.o.2.2.2.2 B.o.2.1 B.o.2.2.1 B.o.2.2.2.1);clear H Y;clear C;subst I;exact apk
    ·skip
     by_cases L:x=[112,117,115,104]
     ·have A:Hid (R=(Doc.push S p a).map (λbg=>(bg,false))):=by
       show _=_;rw[H.o];rw[if_neg (show ¬x=Doc.iF from C)];rw[if_neg (show ¬x=Doc.jH from I)];rw[if_pos (show x=Doc.qM from L)]
      have HCM:=dn ((XK X n p k _ v a S K FX.o pV.o K9.o hk B.o.2.2.2.2 B.o.2.2.2.1).mono (λF J (hh:iL _ _ _ _ _ _ _ _)=>show iL K J _ k n S (Doc.push S p a) F by rw[<-adi];exact hh));clear H Y;clear C;clear I;subst L;exact apk
     ·skip
      by_cases Co:x=[112,111,112]
      ·have A:Hid (R=(Doc.pop S p a).map (λbg=>(bg,false))):=by
        show _=_;rw[H.o];rw[if_neg (show ¬x=Doc.iF from C)];rw[if_neg (show ¬x=Doc.jH from I)];rw[if_neg (show ¬x=Doc.qM from L)];rw[if_pos (show x=Doc.Ai from Co)]
       have HCM:=dn ((aa9 X n p k _ v a S K FX.o pV.o K9.o hk B.o.2.2.2.2 B.o.2.2.2.1).mono (λF J (hh:iL _ _ _ _ _ _ _ _)=>show iL K J _ k n S (Doc.pop S p a) F by rw[<-aer B.o.2.2.2.2];exact hh));clear H Y;clear C;clear I;clear L;subst Co;exact apk
      ·skip
       by_cases l9:x=[99,104,101,99,107,45,115,97,116]
       ·have Lc:=dn (KT X n p _ v a K FX.o)
        have HR2:Hid (R=if a.length=1 then .ok (S,true) else .error (4,p)):=by
         show _=_;rw[H.o];rw[if_neg (show ¬x=Doc.iF from C)];rw[if_neg (show ¬x=Doc.jH from I)];rw[if_neg (show ¬x=Doc.qM from L)];rw[if_neg (show ¬x=Doc.Ai from Co)];rw[if_pos (show x=Doc.pY from l9)]
        clear H Y;clear C;clear I;clear L;clear Co;subst l9
        by_cases M:a.length=1
        ·have A:Hid (R=.ok (S,true)):=by show _=_;rw[HR2.o,if_pos M]
         rw[if_pos M]at Lc;clear M HR2;go_wp2_with fail;refine Lc.o.dX λJ hb6=>?_;have e:iL K J (dG (dG own w.heap.size (k+1)) j.heap.size (k+1)) k n S (.ok S) (dF (.agg #[dw 0,dw 0])):=⟨_,Fr.of_below k K9.o hb6,rfl,pV.o.below hb6⟩;clear hb6;have f:=iL.lift y.o.eH Z.o e;have c:=f.fb Ex.o Ey.o;have D:=c.c0;have E:=c.c1;have df:=c.fr;obtain⟨wy,yO,y0,y1,l,m⟩:=eP D E (dw (0:Int)) (dw (0:Int));have g:=f.fw y.o V aR l m;have d:=g.fb O.o P.o;have q:=d.c0;have r:=d.c1;have cf:=d.fr;obtain⟨wz,hwz,s,t,h,i⟩:=eP q r (dw (0:Int)) (dw (0:Int));have u:=dn (g.fw G.o ae aR h i).drew;clear e f c l m g d h i;go_upto_region 22 with fail;go_region
         all_goals
          go_wp2;exact dR (dM #[fu,.agg #[dw (0:Int),dw (0:Int)]]) cu rfl (by rw[A.o];exact u.o.chk)
        ·have A:Hid (R=.error (4,p)):=by show _=_;rw[HR2.o,if_neg M]
         rw[if_neg M]at Lc;clear M HR2;go_wp2_with fail;refine Lc.o.dX λJ hb6=>?_;have e:=iL.fault (a:=4) (b:=p) K9.o pV.o hb6 aR;clear hb6;have f:=iL.lift y.o.eH Z.o e;have c:=f.fb Ex.o Ey.o;have D:=c.c0;have E:=c.c1;have df:=c.fr;obtain⟨wy,yO,y0,y1,l,m⟩:=eP D E (dw (4:Int)) (dw (p:Int));have g:=f.fw y.o V aR l m;have d:=g.fb O.o P.o;have q:=d.c0;have r:=d.c1;have cf:=d.fr;obtain⟨wz,hwz,s,t,h,i⟩:=eP q r (dw (4:Int)) (dw (p:Int));have u:=dn (g.fw G.o ae aR h i).drew;clear e f c l m g d h i;go_upto_region 22 with fail;go_region
         all_goals
          go_wp2;exact dR (dM #[dP,.agg #[dw (4:Int),dw (p:Int)]]) cu rfl aoT
       ·skip
        by_cases qz:x=[114,101,115,101,116]
        ·have A:Hid (R=(if a.length=1 then(Except.ok Doc.dO.empty:Except (Nat × Nat) Doc.dO) else .error (4,p)).map (λbg=>(bg,false))):=by
          show _=_;rw[H.o];rw[if_neg (show ¬x=Doc.iF from C)];rw[if_neg (show ¬x=Doc.jH from I)];rw[if_neg (show ¬x=Doc.qM from L)];rw[if_neg (show ¬x=Doc.Ai from Co)];rw[if_neg (show ¬x=Doc.pY from l9)];rw[if_pos (show x=Doc.AZ from qz)]
          by_cases M:a.length=1
          ·rw[if_pos M,if_pos M];rfl
          ·rw[if_neg M,if_neg M];rfl
         have HCM:=dn (V7 X n p k _ v a S K FX.o pV.o K9.o hk);clear H Y;clear C;clear I;clear L;clear Co;clear l9;subst qz;exact apk
        ·skip
         have A:Hid (R=.error (4,ps)):=by
          show _=_;rw[H.o];rw[if_neg (show ¬x=Doc.iF from C)];rw[if_neg (show ¬x=Doc.jH from I)];rw[if_neg (show ¬x=Doc.qM from L)];rw[if_neg (show ¬x=Doc.Ai from Co)];rw[if_neg (show ¬x=Doc.pY from l9)];rw[if_neg (show ¬x=Doc.AZ from qz)]
         have Y0:(x==[100,101,99,108,97,114,101,45,102,117,110])=false:=by simpa using C
         have acZ:(x==[97,115,115,101,114,116])=false:=by simpa using I
         have agK:(x==[112,117,115,104])=false:=by simpa using L
         have ahv:(x==[112,111,112])=false:=by simpa using Co
         have aeg:(x==[99,104,101,99,107,45,115,97,116])=false:=by simpa using l9
         have aef:(x==[114,101,115,101,116])=false:=by simpa using qz
         clear C;clear I;clear L;clear Co;clear l9;clear qz;clear H;go_wp2_with fail;refine(Y.o _ akh.o).dX λJ hb6=>?_;have e:=iL.fault (a:=4) (b:=ps) K9.o pV.o hb6 aR;clear hb6;have f:=iL.lift y.o.eH Z.o e;have c:=f.fb Ex.o Ey.o;have D:=c.c0;have E:=c.c1;have df:=c.fr;obtain⟨wy,yO,y0,y1,l,m⟩:=eP D E (dw (4:Int)) (dw (ps:Int));have g:=f.fw y.o V aR l m;have d:=g.fb O.o P.o;have q:=d.c0;have r:=d.c1;have cf:=d.fr;obtain⟨wz,hwz,s,t,h,i⟩:=eP q r (dw (4:Int)) (dw (ps:Int));have u:=dn (g.fw G.o ae aR h i).drew;clear e f c l m g d h i;go_upto_region 22 with fail;go_region
         all_goals
          go_wp2;exact dR (dM #[dP,.agg #[dw (4:Int),dw (ps:Int)]]) cu rfl aoT
def rep (e p v s:Int):Value:=.agg #[dw e,dw p,dw v,dE,eB,dw s]
theorem dI.new {own:Own}:dI (w.alloc (.cells #[dE,dE,dE,dE] 62)) (dG own w.heap.size n) n w.heap.size Doc.dO.empty:=
 ⟨amQ,⟨#[dE,dE,dE,dE],by first|(simp;done)|(simp[World.heap_alloc];done)|(show(w.heap.push _)[w.heap.size]?=_;rw[Array.getElem?_push_size])⟩,λo=>aW,⟨dE,aW,eU.nil _ _ _ _ _ _⟩,⟨dE,aW,eU.nil _ _ _ _ _ _⟩,⟨dE,aW,eU.nil _ _ _ _ _ _⟩,⟨dE,aW,eU.nil _ _ _ _ _ _⟩⟩
theorem Rz (k:Nat)(own:Own)(w:World) :
 dH 18 #[] w λe a=>e=dF (dK w.heap.size 0)/\dB w a/\a.heap.size=w.heap.size+1/\dI a (dG own w.heap.size k) k w.heap.size Doc.dO.empty:=by
 go_enter func18,ntmps18;go_wp2;go_ret;exact⟨rfl,ai,aW,dI.new⟩
theorem SC (a k:Nat)(own:Own)(S:Doc.dO)(w:World)(b:dI w own k a S) :
 dH 50 #[dK a 0] w λe d=>e=dF (dw S.levels.length)/\d=w:=by
 have f:=dn (YL a k own S w b);clear b;go_enter func50,ntmps50;go_wp2_with fail;refine f.o.dX λg c=>?_;rw[c];clear c;go_wp2;go_ret;exact⟨rfl,rfl⟩
theorem VZ (a k:Nat)(own:Own)(S:Doc.dO)(w:World)(b:dI w own k a S) :
 dH 51 #[dK a 0] w λe d=>e=dF (dw S.held.length)/\d=w:=by
 obtain⟨v,f,c⟩:=b.held;obtain⟨g,h,rfl,i,j⟩:=c.form;clear b c;go_enter func51,ntmps51;go_wp2;go_ret;exact⟨rfl,rfl⟩
theorem G5 (a k:Nat)(own:Own)(S:Doc.dO)(w:World)(b:dI w own k a S)(c:eD own w)(d:k≠0)(e:Doc.iq S)(f:gZ w) :
 dH 20 #[dK a 0] w λh i=>h=dF (dD (Doc.print S))/\dB w i:=by
 have j:=dn (UM a k own S w b c d e f);generalize Doc.print S=m at *;clear b c d e f;go_enter func20,ntmps20;go_wp2_with fail;refine j.o.dX λn g=>?_;have l:=dn g;clear g;go_wp2;go_ret;exact⟨rfl,l.o⟩
theorem Mx (v:Value)(x:dN)(w:World) :
 dH 43 #[v,dD x] w λe a=>e=dF (dP)/\a=w:=by
 go_enter func43,ntmps43;go_wp2;go_ret;exact⟨rfl,rfl⟩
theorem XH (b:Int)(w:World)(d:0<=b)(f:b<=8192) :
 dH 34 #[dw b] w λe a=>e=dF (rep 0 0 3 (b+1))/\dB w a:=by
 have c:Hid (dB w (w.alloc (.cells #[dw 0,dw 0,dw 3,dE,eB,dw (b+1)] 40))):=ai;go_enter func34,ntmps34;go_wp2;exact dR (rep 0 0 3 (b+1)) (by simp[rep,results,results34,go_sem]) rfl ⟨rfl,c.o⟩
theorem Gc {u0 u1 u2 u3 u4 u5:Value}(c:w.cell? (dA n 0)=some u0)(t:w.cell? (dA n 1)=some u1)(x:w.cell? (dA n 2)=some u2)(y:w.cell? (dA n 3)=some u3)(z:w.cell? (dA n 4)=some u4)(A:w.cell? (dA n 5)=some u5)(l m p q r s:Value) :
 ∃a,(((((w.setCell (dA n 0) l).setCell (dA n 1) m).setCell (dA n 2) p).setCell (dA n 3) q).setCell (dA n 4) r).setCell (dA n 5) s=a/\a.cell? (dA n 0)=some l/\a.cell? (dA n 1)=some m/\a.cell? (dA n 2)=some p/\a.cell? (dA n 3)=some q/\a.cell? (dA n 4)=some r/\a.cell? (dA n 5)=some s/\
  (∀(own h:Own) (k:Nat) (g:World),Fr own h k g w->g.heap.size<=n->Fr own h k g a)/\(∀(own:Own) (k i:Nat) (S:Doc.dO),dI w own k i S->own n≠0->own n≠k->dI a own k i S):=by
 have B:∀(d b:Nat),d≠b->((dA n d):Addr)≠(dA n b):=λd b j C=>j (by injection C);have o:∀(w:World) (d b:Nat) (v u:Value),d≠b->w.cell? (dA n b)=some u->(w.setCell (dA n d) v).cell? (dA n b)=some u:=λw d b v u j D=>(ax (B d b j)).trans D;refine⟨_,rfl,?_,?_,?_,?_,?_,?_,?_,?_⟩
 ·exact o _ 5 0 _ _ aR (o _ 4 0 _ _ aR (o _ 3 0 _ _ aR (o _ 2 0 _ _ aR (o _ 1 0 _ _ aR (aC c)))))
 ·exact o _ 5 1 _ _ aR (o _ 4 1 _ _ aR (o _ 3 1 _ _ aR (o _ 2 1 _ _ aR (aC (o _ 0 1 _ _ aR t)))))
 ·exact o _ 5 2 _ _ aR (o _ 4 2 _ _ aR (o _ 3 2 _ _ aR (aC (o _ 1 2 _ _ aR (o _ 0 2 _ _ aR x)))))
 ·exact o _ 5 3 _ _ aR (o _ 4 3 _ _ aR (aC (o _ 2 3 _ _ aR (o _ 1 3 _ _ aR (o _ 0 3 _ _ aR y)))))
 ·exact o _ 5 4 _ _ aR (aC (o _ 3 4 _ _ aR (o _ 2 4 _ _ aR (o _ 1 4 _ _ aR (o _ 0 4 _ _ aR z)))))
 ·exact aC (o _ 4 5 _ _ aR (o _ 3 5 _ _ aR (o _ 2 5 _ _ aR (o _ 1 5 _ _ aR (o _ 0 5 _ _ aR A)))))
 ·exact λown h k g E e=>(((((E.setCell (p:=dA n 0) e _).setCell (p:=dA n 1) e _).setCell (p:=dA n 2) e _).setCell (p:=dA n 3) e _).setCell (p:=dA n 4) e _).setCell (p:=dA n 5) e _
 ·exact λown k i S F c f=>(((((F.wD c f).wD c f).wD c f).wD c f).wD c f).wD c f
structure wQ (W:World)(B:Nat):Prop where
 c0:W.cell? (dA B 0)=some (dw 0)
 c1:W.cell? (dA B 1)=some (dw 0)
 c2:W.cell? (dA B 2)=some (dw 0)
 c3:W.cell? (dA B 3)=some (dE)
 c4:W.cell? (dA B 4)=some (eB)
 c5:W.cell? (dA B 5)=some (dw 0)
 fr:∀j,W.frozen? (dA B j)=false
theorem wQ.of_block (h:wQ w n)(e:W.heap[n]?=w.heap[n]?):wQ W n:=
 ⟨(World.cell?_of_block (w:=w) (a:=dA n 0) e).trans h.c0,(World.cell?_of_block (w:=w) (a:=dA n 1) e).trans h.c1,(World.cell?_of_block (w:=w) (a:=dA n 2) e).trans h.c2,(World.cell?_of_block (w:=w) (a:=dA n 3) e).trans h.c3,(World.cell?_of_block (w:=w) (a:=dA n 4) e).trans h.c4,(World.cell?_of_block (w:=w) (a:=dA n 5) e).trans h.c5,λj=>(World.frozen?_of_block (w:=w) (a:=dA n j) e).trans (h.fr j)⟩
def KL (S:Doc.dO)(l:dN)(b:Int):Value × Doc.dO:=
 if b<0\/8192<b then(rep 11 0 0 0,S)
 else match Doc.lK S l with
  | .error x=>(rep x.1 x.2 0 0,S)
  | .ok r=>if r.2=true then(rep 0 0 3 (b+1),r.1) else(rep 0 0 0 0,r.1)
theorem Gb {own:Own}{b:Doc.dO}(f:Fr own (dG own k (n+1)) n w W)(d:w.heap.size<=k)(g:k<W.heap.size)(e:Fr (dG own k (n+1)) o n W u)(h:dI u o n m b)
 (i:∀(own a:Own) (n:Nat) (c:World),Fr own a n c u->c.heap.size<=k->Fr own a n c U) (j:∀(own:Own) (n m:Nat) (S:Doc.dO),dI u own n m S->own k≠0->own k≠n->dI U own n m S):∃a,Fr own a n w U/\dI U a n m b:=by
 have l:o k=n+1:=by rw[e.ext k g];unfold dG;rw[if_pos rfl]
 exact⟨dG o k 0,(i _ _ _ _ (f.trans e) d).unbox d,(j o n m b h aR aR).unbox aR aR⟩
def DoP (w w':World)(own:Own)(k sb:Nat)(R:Value × Doc.dO)(e:Ending):Prop:=∃own',Fr own own' k w w'/\e=dF R.1/\dI w' own' k sb R.2
theorem Xx {S:Doc.dO}(h:x.length<=400):Doc.lK S x=Dy S x:=by
 unfold Doc.lK Dy;rw[if_neg aR];cases Doc.parse x<;>rfl
theorem wQ.start (w:World):wQ (w.alloc (.cells #[dw 0,dw 0,dw 0,dE,eB,dw 0] 40)) w.heap.size:=
 ⟨aW,aW,aW,aW,aW,aW,λj=>aW⟩
theorem PW (O k:Nat)(own:Own)(S:Doc.dO)(l:dN)(b:Int)(w:World)(p:dI w own k O S)(q:eD own w)(hk:k≠0)(v:Doc.iq S)(s:gZ w)(y:∀b,b<2->own b=0)(hl:l.length<=1000000) :
 dH 19 #[dK O 0,dD l,dw b] w λbg w'=>DoP w w' own k O (KL S l b) bg:=by
 obtain⟨R,U⟩:=aK (KL S l b);have m:Hid (R=if b<0\/8192<b then(rep 11 0 0 0,S) else match Doc.lK S l with|.error x=>(rep x.1 x.2 0 0,S)|.ok r=>if r.2=true then(rep 0 0 3 (b+1),r.1) else(rep 0 0 0 0,r.1)):=by show _=_;rw[<-U];rfl
 rw[U];clear U;have V:=dn q;have W:=dn p
 by_cases h1:b<0
 ·have c:Hid (R=(rep 11 0 0 0,S)):=by show _=_;rw[m.o,if_pos (Or.inl h1)]
  exact aqp
 ·by_cases h2:8192<b
  ·have c:Hid (R=(rep 11 0 0 0,S)):=by show _=_;rw[m.o,if_pos (Or.inr h2)]
   exact aqp
  ·have t:Hid (R=match Doc.lK S l with|.error x=>(rep x.1 x.2 0 0,S)|.ok r=>if r.2=true then(rep 0 0 3 (b+1),r.1) else(rep 0 0 0 0,r.1)):=by show _=_;rw[m.o,if_neg aR]
   by_cases X:400<l.length
   ·have c:Hid (R=(rep 1 0 0 0,S)):=by
     show _=_;have hd:Doc.lK S l=.error (1,0):=by unfold Doc.lK;rw[if_pos X]
     rw[t.o,hd];rfl
    have t3:(400:Int)<(l.length:Int):=aR;clear p q v s y m t X;go_enter func19,ntmps19;go_wp2;exact dR (rep 1 0 0 0) anK rfl ⟨own,Fr.of_below k V.o ai,by rw[c.o],aoJ⟩
   ·rw[Xx aR]at t;have t3:¬((400:Int)<(l.length:Int)):=aR;obtain⟨g,Y⟩:∃g,w.alloc (.cells #[dw 0,dw 0,dw 0,dE,eB,dw 0] 40)=g:=⟨_,rfl⟩;have P:dB w g:=by rw[<-Y];exact af.alloc ae _
    have Z:Hid (wQ g w.heap.size):=by show wQ g _;rw[<-Y];exact wQ.start w
    have hsz:g.heap.size=w.heap.size+1:=by rw[<-Y];simp
    have Q:Hid (Fr own (dG own w.heap.size (k+1)) k w g):=Fr.boxed q P ae aR;have hgs:=s.size;have ai7:=dn (ad2 O k (dG own w.heap.size (k+1)) S l g (p.boxed P ae) Q.o.eH hk v (s.fT (λb hb hlt=>P.block b hlt)) (λb hb=>by unfold dG;rw[if_neg aR];exact y b hb) aR);have Ez:Hid (dG own w.heap.size (k+1) w.heap.size≠k):=bT;have HCK:=dn (λbn=>XH b bn aR aR);generalize Dy S l=RR at *;clear p q v s y m X P;go_enter func19,ntmps19;go_wp2_with fail;refine ai7.o.mono ?_;rintro bg f ⟨Ce,n,hm⟩;have hs2:=n.size;cases RR with
    | error x=>
     obtain⟨d,e⟩:=x;obtain⟨rfl,hne,u⟩:=hm;simp only at hne;have hen:((d:Int) !=0)=true:=bJ;have c:Hid (R=(rep d e 0 0,S)):=t.o;have o:dB f (f.alloc (.cells #[dw (d:Int),dw (e:Int)] 64)):=ai;have h:=dn (n.trans (Fr.of_below k n.eH o));have z:=dn (u.below o);have T:=dn (h.o.block w.heap.size aR Ez.o);have f0:(f.alloc (.cells #[dw (d:Int),dw (e:Int)] 64)).dQ f.heap.size 0=some (dw (d:Int)):=aW;have f1:(f.alloc (.cells #[dw (d:Int),dw (e:Int)] 64)).dQ f.heap.size 1=some (dw (e:Int)):=aW;clear n u o;go_upto_region 6 with fail
     generalize f.alloc (.cells #[dw (d:Int),dw (e:Int)] 64)=wa at *;have a:=Z.o.of_block T.o;have A:=a.c0;have B:=a.c1;have C:=a.c2;have D:=a.c3;have E:=a.c4;have F:=a.c5;have cf:=a.fr;obtain⟨wz,hwz,G,H,I,J,K,L,i,j⟩:=Gc A B C D E F (dw (d:Int)) (dw (e:Int)) (dw (0:Int)) (dE) (eB) (dw (0:Int));have M:=dn (Gb Q.o ae aR h.o z.o i j);clear a i j;go_wp2_with fail;refine dR (rep (d:Int) (e:Int) (0:Int) (0:Int)) am2 rfl ?_;exact aqr
    | ok r=>
     obtain⟨S',bq⟩:=r;obtain⟨rfl,u⟩:=hm;simp only at u;have o:dB f (f.alloc (.cells #[dw 0,dw 0] 64)):=ai;have h:=dn (n.trans (Fr.of_below k n.eH o));have z:=dn (u.below o);have T:=dn (h.o.block w.heap.size aR Ez.o);have f0:(f.alloc (.cells #[dw 0,dw 0] 64)).dQ f.heap.size 0=some (dw 0):=aW;clear n u o;go_upto_region 6 with fail
     generalize f.alloc (.cells #[dw 0,dw 0] 64)=wa at *;cases bq
     ·have c:Hid (R=(rep 0 0 0 0,S')):=t.o;have a:=Z.o.of_block T.o;have A:=a.c0;have B:=a.c1;have C:=a.c2;have D:=a.c3;have E:=a.c4;have F:=a.c5;have cf:=a.fr;obtain⟨wz,hwz,G,H,I,J,K,L,i,j⟩:=Gc A B C D E F (dw (0:Int)) (dw (0:Int)) (dw (0:Int)) (dE) (eB) (dw (0:Int));have M:=dn (Gb Q.o ae aR h.o z.o i j);clear a i j;go_wp2_with fail;refine dR (rep 0 0 0 0) am2 rfl ?_;exact aqr
     ·have c:Hid (R=(rep 0 0 3 (b+1),S')):=t.o;go_wp2_with fail;refine(HCK.o _).dX λw3 hb3=>?_;have tJ:=dn (h.o.trans (Fr.of_below k h.o.eH hb3));have mO:=dn (z.o.below hb3);have akb:=dn (tJ.o.block w.heap.size aR Ez.o);clear hb3 h z T;simp only[rep];have a:=Z.o.of_block akb.o;have A:=a.c0;have B:=a.c1;have C:=a.c2;have D:=a.c3;have E:=a.c4;have F:=a.c5;have cf:=a.fr;obtain⟨wz,hwz,G,H,I,J,K,L,i,j⟩:=Gc A B C D E F (dw (0:Int)) (dw (0:Int)) (dw (3:Int)) (dE) (eB) (dw (b+1:Int));have M:=dn (Gb Q.o ae aR tJ.o mO.o i j);clear a i j;go_wp2_with fail;refine dR (rep (0:Int) (0:Int) (3:Int) (b+1:Int)) am2 rfl ?_;exact aqr
