import Derived.Test.YtjiagbaaikifpaaGreatDoorGMo10
import Derived.Test.YtjiagbaaikifpaaGreatDoorGPS10
import Derived.Test.YtjiagbaaikifpaaGreatDoorGWfX
set_option maxRecDepth 100000
set_option maxHeartbeats 16000000
namespace Go.Proofs.YtjiagbaaikifpaaGreatDoor
open Go.RowKit Go.Proofs.Tryz
variable {N i j k m n:Nat}{V v:Value}{W w:World}{a d:eu}{c:List fU}{f:List Int}{z:Int}
theorem gL.keep (j:gL w v z)(k:∀b,b<w.heap.size->(∀x:Int,w.cell? (dA b 0)≠some (dw x))\/W.heap[b]?=w.heap[b]?):gL W v z:=by
 obtain⟨b,l,n,m,o,p,q,r⟩:=j;refine⟨b,l,n,m,o,p,?_,r⟩;obtain⟨s,t,u,y,A,d⟩:=q;refine⟨s,t,u,y,A,λi hi=>?_⟩;obtain⟨g,e,f⟩:=d i hi;refine⟨g,e,λh=>?_⟩;rcases k g (aj (f h)) with c|c
 ·obtain⟨C,a,B⟩:=d 0 aR;rw[e]at a;injection a with a
  injection a with a;subst a;exact absurd (B aR) (c _)
 ·rw[World.cell?_of_block (w:=w) (a:=dA g i) c];exact f h
structure pR (V wr:World)(vb:Nat)(a:eu)(n c:Nat)(zs:List Int):Prop where
 c0:wr.cell? (dA vb 0)=some (.slice a n c)
 fr:∀o,wr.frozen? (dA vb o)=false
 ek:Below vb V wr
 row:∃v xs,wr.cell? (dA vb 1)=some v/\wr.ownsRow (vb+1) 229 2 v zs.length xs.flatten/\iO wr xs zs/\(zs=[]->v.ownBlock=none)
theorem pR.lt {wr:World}{n:Nat}(h:pR w wr m a n k f):m<wr.heap.size:=aj h.c0
theorem pR.below {wr:World}(h:pR w wr n a m k f)(b:dB wr W):pR w W n a m k f:=by
 obtain⟨v,c,d,e,g,i⟩:=h.row;exact⟨(b.dL h.c0 h.lt),λo=>(b.gq (h.fr o) h.lt),h.ek.trans (b.mono (Nat.le_of_lt h.lt)),v,c,(b.dL d h.lt),ownsRow_below e b,g.down b,i⟩
theorem pR.app {wr:World}{h:List (List Value)}{p:Bool}{z:Int}(A:f.length=N)(l:pR w wr n a m k f)(B:wr.ownsRow (n+1) 229 2 v N h.flatten)(q:iO wr h f)(C:f=[]->v.ownBlock=none)(D:gL wr (.agg #[.bool p,.slice d i j]) z)
 (b:mo wr W n 1 (n+1) 229 2 v V (N+1) (h.flatten++[.bool p,.slice d i j])):pR w W n a m k (f++[z]):=by
 subst A
 have r:∀u x,gL wr u x->gL W u x:=λu x E=>E.keep λg F=>by
  by_cases s:g=n
  ·subst s;exact .inl λx e=>by rw[l.c0]at e;injection e with e;cases e
  ·by_cases c:some g=v.ownBlock
   ·refine .inl λx e=>?_;have G:=lG.below (Cf B q rfl) (Below.refl wr.heap.size wr);obtain⟨P,cap,H,_,_,I⟩:=G;have t:0<f.length:=List.length_pos_iff.2 λJ=>by rw[C J]at c;cases c
    obtain⟨K,L,M⟩:=I 0 t;obtain⟨Q,_,_,_,y,_,_⟩:=M t;rw[H,L]at c;have O:g=K:=aoq;subst O;rw[show(0*2:Nat)=0 from rfl]at y;rw[y]at e;injection e with e
    cases e
   ·exact .inr (b.block g F s c)
 refine⟨(b.cells 0 aR).trans l.c0,λo=>(b.frozen o).trans (l.fr o),l.ek.trans b.below,V,h++[[.bool p,.slice d i j]],b.cell,?_,.snoc (q.imp r) (r _ _ D),λe=>absurd e aW⟩;rw[List.length_append,List.flatten_append];exact b.own
theorem pR.nums {wr:World}(h:pR w wr n a m k f):∃b c,wr.cell? (dA n 1)=some (.slice b f.length c)/\lG wr (.slice b f.length c) f:=by
 obtain⟨v,l,e,g,i,o⟩:=h.row;have d:=Cf g i rfl;obtain⟨b,c,j,_⟩:=id d;subst j;exact⟨b,c,e,d⟩
theorem Vu {e:List Doc.Sym}{a:List Doc.Term}{m:List Doc.En}(f:Doc.iB e a){k:Nat}(b:k<a.length):Doc.vals m (a.take (k+1))=Doc.vals m (a.take k)++[Doc.value m a k]:=by
 have c:=f.terms k b;have d:a[k]?=some a[k]:=aF b;rw[Doc.J3 d,Doc.yC (m:=m) d c.args]
 congr 3
 exact List.map_congr_left (λg h=>Doc.tV aR (c.args g h))
theorem ade {b:List Doc.Sym}{a:List Doc.Term}{m:List Doc.En}(c:Doc.iB b a)(e:Doc.lawful b m=true){k:Nat}(d:k<a.length):pv m (Doc.eG a[k].op) (Doc.fP a[k]) a[k].sym (a[k].args.map (λx=>(Doc.vals m (a.take k)).getD x 0))=Doc.value m a k:=by
 rw[<-agL c e k d]
 congr 1
 exact List.map_congr_left (λf g=>Doc.tV aR ((c.terms k d).args f g))
theorem Vv {b:List Doc.Sym}{a:List Doc.Term}{m:List Doc.En}(c:Doc.iB b a)(d:Doc.lawful b m=true)(e:∀f∈m,f.val.length<=1000000){k:Nat}(g:k<=a.length):∀z∈Doc.vals m (a.take k),(dC.dec z).length<=2000000:=by
 intro z h;obtain⟨i,hi,rfl⟩:=List.mem_iff_getElem.1 h;have j:=hi;rw[Doc.yD,List.length_take]at j
 have l:(Doc.vals m (a.take k))[i]=Doc.value m a i:=by
  rw[<-Doc.tV (n:=k) g aR,List.getD_eq_getElem?_getD,aF hi];rfl
 rw[l];have n:=(Vt c d e i aR).1;have o:=c.many;exact aR
theorem Wl:∀a:Fin 19,1<=a.1->(Doc.eG a.1=3\/Doc.eG a.1=4\/Doc.eG a.1=16\/(Doc.eG a.1=17\/Doc.eG a.1=18\/Doc.eG a.1=19)\/(Doc.eG a.1=1\/Doc.eG a.1=2\/Doc.eG a.1=5\/Doc.eG a.1=6\/Doc.eG a.1=7\/Doc.eG a.1=8\/Doc.eG a.1=9\/Doc.eG a.1=10\/Doc.eG a.1=11\/Doc.eG a.1=12\/Doc.eG a.1=13))/\(Doc.eG a.1=17\/Doc.eG a.1=18\/Doc.eG a.1=19->a.1≠1/\a.1≠2/\a.1≠13/\a.1≠14):=aY
theorem adm {a:List Doc.Sym}{b:List Doc.Term}{t:Doc.Term}(h:Doc.Made a b t):Doc.fP t<=1000000000:=by
 unfold Doc.fP;split
 ·rename_i i;cases h with
  | bool h=>omega
  | num _ _ _ _ c=>
   obtain⟨d,_,_,e⟩:=Doc.nY c;have j:=dC.kQ d;have k:10 ^ t.text.length<=10 ^ 8:=Nat.pow_le_pow_right aR e;exact aR
  | app h=>omega
  | form f g h=>have:=Doc.kM f g;omega
 ·exact aR
theorem abb {a:List Doc.Sym}{b:List Doc.Term}{t:Doc.Term}(h:Doc.Made a b t)(e:t.op≠1/\t.op≠2/\t.op≠13/\t.op≠14):1<=t.args.length:=by
 cases h with
 | bool h=>omega
 | num h=>omega
 | app h=>omega
 | form f c h g d=>have i:=(KH f c).2.2.2;have j:=Doc.jO d;omega
theorem TH {b:List Doc.Sym}{x:fU}(d:c[n]?=some x)(e:∀y∈c.take n,Doc.kF b y.en=true)(h:Doc.kF b x.en=true):∀y∈c.take (n+1),Doc.kF b y.en=true:=λy a=>by
 rw[List.take_add_one,d]at a;rcases List.mem_append.1 a with a|a
 ·exact e y a
 ·have:y=x:=amr;subst this;exact h
theorem WR {ss:List Doc.Sym}{x:fU}(a:c[n]?=some x)(h:Doc.kF ss x.en=false):Doc.lawful ss (fZ c)=false:=by
 rw[Doc.lawful,List.all_eq_false];exact⟨x.en,List.mem_map_of_mem (List.mem_of_getElem? a),aom⟩
theorem Tx {a:List Doc.Sym}(h:∀y∈c,Doc.kF a y.en=true):Doc.lawful a (fZ c)=true:=by
 rw[Doc.lawful,List.all_eq_true];intro e b;obtain⟨y,d,rfl⟩:=List.mem_map.1 b;exact h y d
theorem Zv (a:Nat)(b:1<=a)(c:a<=18):(Doc.eG a=3\/Doc.eG a=4\/Doc.eG a=16\/(Doc.eG a=17\/Doc.eG a=18\/Doc.eG a=19)\/(Doc.eG a=1\/Doc.eG a=2\/Doc.eG a=5\/Doc.eG a=6\/Doc.eG a=7\/Doc.eG a=8\/Doc.eG a=9\/Doc.eG a=10\/Doc.eG a=11\/Doc.eG a=12\/Doc.eG a=13))/\(Doc.eG a=17\/Doc.eG a=18\/Doc.eG a=19->a≠1/\a≠2/\a≠13/\a≠14):=Wl ⟨a,aR⟩ b
theorem Tt (s:Nat)(S:Doc.dO)(t:eu)(u n:Nat)(L:List fU)(w:World)(hB:rV w s S.syms S.terms)(hH:EZ w s S.held)(I:Doc.iq S)(Y:gI w t u L)(hn:L.length=n)
 (Z:∀x∈L,x.val.length<=1000000/\∀bq∈x.args,bq.length<=1000000) (Gm:∀x∈L,-9223372036854775808<=x.sym/\x.sym<=9223372036854775807) :
 dH 106 #[dK s 0,.slice t n u] w λe w'=>kL S L e/\dB w w':=by
 obtain⟨i0,hi,hz0,hz1,hz2⟩:=Kr;have hc1:=Y.le;have hc2:=Y.max;rw[hn]at hc1;have HN:=dn hn;have rW:=dn (λW (h:dB w W)=>Y.below h);have JV:Hid (∀x∈L,∀W,dB w W->∀C l,jK W (.slice C x.args.length l) x.args->x.args.length<=l->l<=2 ^ 63-1->dH 154 #[dK s 0,.agg #[dw x.sym,.bool x.other,.slice C x.args.length l,dD x.val]] W λe w'=>e=dF (.bool (Doc.kF S.syms x.en))/\dB W w'):=λx c W a C l h1 h2 D=>WG s S.syms S.terms x.sym x.other C x.args.length l x.args x.val W (hB.below a) I.book.syms h1 rfl ⟨h2,D⟩ (Z x c).1 (Z x c).2 (Gm x c)
 have HVL:Hid (∀e∈fZ L,e.val.length<=1000000):=λe he=>by
  obtain⟨x,c,rfl⟩:=List.mem_map.1 he;exact(Z x c).1
 obtain⟨aT,lL,t1,t2,t3,htc⟩:=vU hB;have Yp:=dn htc;have HT1:Hid (∀W,dB w W->W.cell? (dA s 1)=some (.slice aT S.terms.length lL)):=λW a=>(a.eT t1);obtain⟨vh,Fw,NR⟩:=hH.held;obtain⟨aH,Ef,rfl,hH1,hH2,_⟩:=id NR;unfold maxLen at hH2;have I9:Hid (∀W,dB w W->W.cell? (dA s 2)=some (.slice aH S.held.length Ef)/\eX W (.slice aH S.held.length Ef) S.held):=λW a=>⟨(a.eT Fw),NR.below a⟩;have v:=dn I;have h80:=I.book.many;have hh12:=I.qR;have xu:Hid (Doc.lawful S.syms (fZ L)=false->kL S L (dF (dM #[dP,dw 12]))):=λh=>kL.law h;have mr:Hid (Doc.lawful S.syms (fZ L)=true->∀b,S.held.all (λh=>Doc.value (fZ L) S.terms h==1)=b->kL S L (dF (dM #[.bool b,dw 0]))):=λh b a=>kL.yes h b a;obtain⟨J,uP⟩:=aK S.terms.length;have uT:=dn uP;rw[uP]at t2 HT1 h80;obtain⟨K,xC⟩:=aK S.held.length;have RL:=dn xC;rw[xC]at hh12 hH1 I9;clear hB hH I Y hn Z Gm htc t1 Fw NR uP xC;go_enter func106,ntmps106;go_wp2_with fail
 go_loopw [15] (fun i wr=>∃q:Nat,i=dw q/\q<=n/\dB w wr/\∀x∈L.take q,Doc.kF S.syms x.en=true) (fun i _=>n-(intOf i).toNat)
 ·exact⟨0,rfl,aR,af,aW⟩
 case round=>
  obtain⟨q,rfl,hq,hbel,M⟩:=hrel;have N:=dn hbel;have rF:=dn M;clear hbel M
  by_cases hlt:q<n
  ·obtain⟨x,c⟩:∃x,L[q]?=some x:=⟨_,aF amS⟩;obtain⟨bA,o,rfl,he⟩:=(rW.o wr N.o).get q x c;obtain⟨a1,a2,⟨C,l,a3,y,a5,a6⟩,a7⟩:=he;have d:=dn (JV.o x (List.mem_of_getElem? c) wr N.o C l a6 y a5);have Ac:=dn (WR (ss:=S.syms) c);have E:=dn (TH c rF.o);obtain⟨b,a⟩:=aK (Doc.kF S.syms x.en);rw[a]at d Ac E;obtain⟨sy,ot,ar,va⟩:=x;simp only at a1 a2 a3 y a7 d;generalize ar.length=nE at *;have hqn:(q:Int)<(n:Int):=aR;clear c a a6;go_wp2_with fail;refine d.o.dX λO P=>?_;have HB2:=dn (N.o.dW P);clear P a1 a2 a3 a7 d;cases b
   ·have Q:=dn (xu.o (Ac.o rfl));go_wp2;go_ret2;exact⟨Q.o,HB2.o⟩
   ·have HS2:=dn (E.o rfl);go_wp2;go_roundw
    ·exact⟨q+1,bL,aR,HB2.o,HS2.o⟩
    ·exact aph
  ·have hqn:¬((q:Int)<(n:Int)):=aR;have F:Hid (Doc.lawful S.syms (fZ L)=true):=Tx (by have:=rF.o;rw[List.take_of_length_le ame]at this;exact this);obtain⟨V,m⟩:∃V,wr.alloc (.cells #[.slice t n u,dE] 224)=V:=⟨_,rfl⟩;have Ae:Hid (dB wr V):=by show Below _ _ _;rw[<-m];exact af.alloc ae _
   have HV0:Hid (pR V V wr.heap.size t n u (Doc.vals (fZ L) (S.terms.take 0))):=⟨by rw[<-m];simp,λo=>by rw[<-m];simp,af,dE,[],by rw[<-m];simp,World.ownsRow_nil _ _ _ _,.nil,λ_=>rfl⟩;have jG:=dn (N.o.dW Ae.o);have d1:=HT1.o V jG.o;have HVH:=dn m;clear m;go_upto_region 8 with fail
   have m:=HVH.o;go_wp2_with fail;clear m HVH d1
   go_loopw [33] (fun i z=>∃k:Nat,i=dw k/\k<=J/\pR V z wr.heap.size t n u (Doc.vals (fZ L) (S.terms.take k))) (fun i _=>J-(intOf i).toNat)
   ·exact⟨0,rfl,aR,HV0.o⟩
   case round=>
    obtain⟨k,rfl,hk,hst⟩:=hrel;rename World=>f;have E:=dn hst;have oh:=dn (jG.o.trans (hst.ek.mono N.o.size));clear hst
    by_cases hlt2:k<J
    ·have G:k<S.terms.length:=by rw[uT.o];exact hlt2
     obtain⟨bA,aA,cA,rfl,hg,hcc⟩:=Yp.o k G;have hmd:=(v.o.book.terms k G).made;have hop:=Doc.yt hmd;obtain⟨hpk,hpo⟩:=Zv S.terms[k].op hop.1 hop.2;have hpn:=adm hmd;have HA1:Hid (Doc.eG S.terms[k].op=17\/Doc.eG S.terms[k].op=18\/Doc.eG S.terms[k].op=19->1<=S.terms[k].args.length):=λh=>abb hmd (hpo h);have F3:Hid (S.terms[k].args.length<=4):=(tQ v.o.book k G).few;have HPK:=dn hpk;have Et:=dn hpn;have jF:=dn (Vu (m:=fZ L) v.o.book G);have HPV:=dn (ade (m:=fZ L) v.o.book F.o G);have RN:=dn (Vv (m:=fZ L) v.o.book F.o HVL.o (Nat.le_of_lt G));have HLK:Hid (∀R,(Doc.look (fZ L) S.terms[k].sym R).length<=100000000/\dC.Is (Doc.look (fZ L) S.terms[k].sym R)=true):=λR=>⟨Nat.le_trans (Nh HVL.o _ _) aR,Doc.Rh F.o _ _⟩;have Dm:Hid ((Doc.vals (fZ L) (S.terms.take k)).length=k):=by show _=_;rw[Doc.yD,List.length_take];omega
     have xH:=dn hcc;obtain⟨q0,q1,q2,q3,q4,_⟩:=hcc f oh.o;clear hcc hmd hpk hpo hpn hop;generalize S.terms[k]=bg at *;generalize Doc.vals (fZ L) (S.terms.take k)=T at *;generalize Doc.value (fZ L) S.terms k=bB at *;generalize Doc.eG bg.op=bn at *;generalize Doc.fP bg=num at *;obtain⟨tx,top,so,sy,ag⟩:=bg;simp only at q0 q1 q2 q3 q4 xH HA1 F3 HPV HLK;obtain⟨nA,NK⟩:=aK ag.length;rw[NK]at q3 xH HA1 F3;obtain⟨U,p⟩:∃U,f.alloc (.cells #[dw bn,dw sy,dw num,.slice aA nA cA,dw so] 226)=U:=⟨_,rfl⟩;have PQ:Hid (dB f U):=apc;have HSU:=dn (E.o.below PQ.o);have agB:=dn (oh.o.dW PQ.o);have u0:U.cell? (dA f.heap.size 0)=some (dw bn):=am9;have u1:U.cell? (dA f.heap.size 1)=some (dw sy):=am9;have u2:U.cell? (dA f.heap.size 2)=some (dw num):=am9;have u3:U.cell? (dA f.heap.size 3)=some (.slice aA nA cA):=am9;have u4:U.cell? (dA f.heap.size 4)=some (dw so):=am9;have uf:∀o,U.frozen? (dA f.heap.size o)=false:=λo=>am9;obtain⟨av,cap,g,r⟩:=HSU.o.nums;have d:=dn (Qb wr.heap.size bn num sy so nA cA T.length cap n u aA av t ag T L U HSU.o.c0 g (rW.o U agB.o) HN.o r (xH.o U agB.o).2.2.2.2.2 F3.o RN.o HLK.o HPK.o HA1.o Et.o);rw[HPV.o]at d;have hkn:(k:Int)<(J:Int):=aR;clear r g NK;go_wp2_with fail;refine d.o.mono ?_;rintro e O ⟨⟨vv,rfl,hvv⟩,P⟩;have O0:=dn hvv;obtain⟨b4,y,n4,c4,l4,rfl,hq4⟩:=hvv;obtain⟨X,hX⟩:∃X,O.alloc (.cells #[.bool b4,.slice y n4 c4] 229)=X:=⟨_,rfl⟩;have H:Hid (dB O X):=by show Below _ _ _;rw[<-hX];exact af.alloc ae _
     have x0:X.cell? (dA O.heap.size 0)=some (.bool b4):=by rw[<-hX];simp
     have x1:X.cell? (dA O.heap.size 1)=some (.slice y n4 c4):=by rw[<-hX];simp
     have HSX:=dn (HSU.o.below (P.dW H.o));have HVX:=dn (O0.o.below H.o);obtain⟨bC,R,g,hv2,hv3,hv4⟩:=HSX.o.row;obtain⟨av',cap',ev,zT,hcb,_⟩:=Cf hv2 hv3 rfl;subst ev;rw[Dm.o]at g hv2 hv4 zT;unfold maxLen at hcb;have HOWN:=dn hv2;have Pv:=dn hv3;have YG:=dn hv4;have nZ:=dn g;have rX:=dn HSX.o.fr;have A:Hid (wr.heap.size<X.heap.size):=HSX.o.lt;have lX:Hid (∀q,(Value.slice av' k cap').ownBlock=some q->wr.heap.size+1<=q):=λq hq=>(HOWN.o.lt q hq).1;clear hv2 hv3 hv4 hq4 P d xH HSU q0 q1 q2 q3 q4 u0 u1 u2 u3 u4 uf p;go_wp2_with (at_builtin;refine dU rfl (.tmp 40) (.tmp 42) 222 rfl (wr.heap.size+1) 229 i0 (.agg #[dP,dE]) 2 32 underlying222 hi hz0 hz1 hz2 rfl aY (.slice av' k cap') k R.flatten rfl (by exact HOWN.o.alloc _) (dA X.heap.size 0) 1 [.bool b4,.slice y n4 c4] rfl rfl (by exact oW _ [.bool b4,.slice y n4 c4] _) (by intro bD hu;simp only[List.mem_cons,List.not_mem_nil,or_false]at hu;rcases hu with rfl|rfl<;>rfl) bz aR bO ?_;intro ga fD w5 hown' hgrow hg1 hg2;have y1:w5.cell? (dA wr.heap.size 1)=some (.slice av' k cap'):=((eY hgrow (a:=dA wr.heap.size 1) bO (λe=>aoD)).trans (dV _ _ _ A.o)).trans nZ.o;have y2:w5.frozen? (dA wr.heap.size 1)=false:=((fo hgrow (a:=dA wr.heap.size 1) bO (λe=>aoD)).trans (eF _ _ _ A.o)).trans (rX.o 1);obtain⟨w6,zQ⟩:=aK (w5.setCell (dA wr.heap.size 1) (dJ ga (k+1) fD));have hap:=gK (eb:=wr.heap.size) (f:=1) aR (HOWN.o.alloc _) bO ((dV _ _ _ A.o).trans nZ.o) hown' hgrow hg2;rw[zQ]at hap;have Pj:Hid (pR V w6 wr.heap.size t n u (T++[bB])):=pR.app Dm.o (HSX.o.below ai) (HOWN.o.alloc _) (Pv.o.down ai) YG.o (HVX.o.below ai) hap;clear hap hown' hgrow hg1 hg2);go_roundw
     ·exact⟨k+1,bL,aR,by rw[jF.o];exact Pj.o⟩
     ·exact aph
    ·have hkn:¬((k:Int)<(J:Int)):=aR;obtain⟨av,cap,g,r⟩:=E.o.nums;rw[List.take_of_length_le (by rw[uT.o];omega)]at g r;have hm2:=r;obtain⟨_,zT,hcb⟩:=oI r;have HT:=dn (fun(h:Nat) W (a:dB f W)=>vV av _ cap h _ W (r.below a))
     have Yj:Hid (∀h∈S.held,((Doc.vals (fZ L) S.terms).getD h 0 !=0)=(Doc.value (fZ L) S.terms h==1)):=λh B=>by
      obtain⟨h1,h2⟩:=v.o.held h B;have D:=Doc.GN v.o.book F.o h h1 h2;show(Doc.value (fZ L) S.terms h !=0)=_;rcases D with D|D<;>rw[D]<;>rfl
     have HV1:=dn (λW (a:dB f W)=>(a.dL g E.o.lt));generalize (Doc.vals (fZ L) S.terms)=T at *;obtain⟨NZ,hNZ⟩:=aK T.length;rw[hNZ]at zT HT HV1;obtain⟨d2,_⟩:=I9.o f oh.o;clear g r hm2 hNZ;go_wp2_with fail;clear d2
     go_loopw [51] (fun i z=>∃j:Nat,i=dw j/\j<=K/\dB f z/\(S.held.take j).all (fun h=>Doc.value (fZ L) S.terms h==1)=true) (fun i _=>K-(intOf i).toNat)
     ·exact⟨0,rfl,aR,af,aW⟩
     case round=>
      obtain⟨j,rfl,hj,hbx,M⟩:=hrel;rename World=>z;have H:=dn hbx;have acS:=dn M;have abW:=dn (oh.o.dW hbx);clear hbx M
      by_cases hlt3:j<K
      ·obtain⟨h,B⟩:∃h,S.held[j]?=some h:=⟨_,aF (by rw[RL.o];exact hlt3)⟩;obtain⟨_,hint⟩:=I9.o z abW.o;obtain⟨gh,rfl,r0⟩:=mU hint j h B;have r1:=HV1.o z H.o;have d:=dn (HT.o h z H.o);rw[Yj.o h (List.mem_of_getElem? B)]at d;obtain⟨b,a⟩:=aK ((Doc.value (fZ L) S.terms h==1));rw[a]at d
       have jF:Hid (b=true->(S.held.take (j+1)).all (λh=>Doc.value (fZ L) S.terms h==1)=true):=λe=>by
        rw[List.take_add_one,B,List.all_append,acS.o];simp only[Option.toList_some,List.all_cons,List.all_nil,Bool.and_true,Bool.true_and];exact a.trans e
       have Ac:Hid (b=false->S.held.all (λh=>Doc.value (fZ L) S.terms h==1)=false):=λe=>by
        rw[List.all_eq_false];exact⟨h,List.mem_of_getElem? B,by rw[a,e];simp⟩
       have hjn:(j:Int)<(K:Int):=aR;clear a hint B;go_wp2_with fail;refine d.o.dX λw3 hb3=>?_;have HB3:=dn (H.o.dW hb3);have EA:=dn (abW.o.dW hb3);clear hb3 r0 r1 d;cases b
       ·have Q:=dn (mr.o F.o false (Ac.o rfl));go_wp2;go_ret2;exact⟨Q.o,EA.o⟩
       ·have Ad:=dn (jF.o rfl);go_wp2;go_roundw
        ·exact⟨j+1,bL,aR,HB3.o,Ad.o⟩
        ·exact aph
      ·have hjn:¬((j:Int)<(K:Int)):=aR;have Q:=dn (mr.o F.o true (by have:=acS.o;rw[List.take_of_length_le (by rw[RL.o];omega)]at this;exact this));go_wp2;go_ret2;exact⟨Q.o,abW.o⟩
