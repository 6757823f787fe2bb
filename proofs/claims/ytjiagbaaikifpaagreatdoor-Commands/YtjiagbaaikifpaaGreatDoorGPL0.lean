import Derived.Test.YtjiagbaaikifpaaGreatDoorGRef9
set_option maxRecDepth 100000
set_option maxHeartbeats 16000000
namespace Go.Proofs.YtjiagbaaikifpaaGreatDoor
open Go.RowKit Go.Proofs.Tryz
variable {B b:List Value}{E e:TypeId}{I:List Doc.Item}{N i j k m n:Nat}{V v:Value}{W w:World}{l:List Nat}{x:dN}
theorem Er (c:UInt8)(w:World):dH 176 #[.int .u8 c.toNat] w λe a=>e=dF (.bool (Doc.letter c))/\a=w:=by
 have b:Hid (Doc.letter c=((decide (97<=c.toNat)&&decide (c.toNat<=122))||(decide (65<=c.toNat)&&decide (c.toNat<=90)))):=rfl;generalize Doc.letter c=d at *
 by_cases f:(97:Int)<=c.toNat<;>by_cases g:(c.toNat:Int)<=122<;>by_cases h:(65:Int)<=c.toNat<;>by_cases i:(c.toNat:Int)<=90
 all_goals
  first
  | (exfalso;omega)
  | (go_enter func176,ntmps176
     go_wp2;go_ret;refine⟨dS ?_,rfl⟩;rw[b.o,Bool.eq_iff_iff];simp only[Bool.or_eq_true,Bool.and_eq_true,decide_eq_true_eq,eq_self,true_iff,false_iff,Bool.false_eq_true];omega)
theorem AP (c:UInt8)(w:World):dH 239 #[.int .u8 c.toNat] w λe a=>e=dF (.bool (Doc.digit c))/\a=w:=by
 have b:Hid (Doc.digit c=(decide (48<=c.toNat)&&decide (c.toNat<=57))):=rfl;generalize Doc.digit c=d at *
 by_cases f:(48:Int)<=c.toNat<;>by_cases g:(c.toNat:Int)<=57
 all_goals
  first
  | (exfalso;omega)
  | (go_enter func239,ntmps239
     go_wp2;go_ret;refine⟨dS ?_,rfl⟩;rw[b.o,Bool.eq_iff_iff];simp only[Bool.and_eq_true,decide_eq_true_eq,eq_self,true_iff,false_iff,Bool.false_eq_true];omega)
theorem Wz:∀n:Fin 256,Doc.named (UInt8.ofNat n.1)=(n.1==45||n.1==43||n.1==42||n.1==60||n.1==62||n.1==61||((decide (97<=n.1)&&decide (n.1<=122))||(decide (65<=n.1)&&decide (n.1<=90)))||(decide (48<=n.1)&&decide (n.1<=57))):=aY
theorem ZR (c:UInt8):Doc.named c=(c.toNat==45||c.toNat==43||c.toNat==42||c.toNat==60||c.toNat==62||c.toNat==61||Doc.letter c||Doc.digit c):=by
 have h:=Wz ⟨c.toNat,c.toNat_lt⟩;simp only[UInt8.ofNat_toNat]at h;exact aoK
theorem TB (c:UInt8)(w:World):dH 234 #[.int .u8 c.toNat] w λe f=>e=dF (.bool (Doc.named c))/\f=w:=by
 have b:=dn (ZR c);have g:=dn (Er c);have h:=dn (AP c);generalize Doc.named c=i at *;generalize Doc.letter c=le at *;generalize Doc.digit c=j at *;have a:∀n:Nat,((c.toNat:Int)==(n:Int))=(c.toNat==n):=λn=>ao3;cases h1:((c.toNat:Int)==45)
 ·cases h2:((c.toNat:Int)==43)
  ·cases h3:((c.toNat:Int)==42)
   ·cases h4:((c.toNat:Int)==60)
    ·cases h5:((c.toNat:Int)==62)
     ·cases h6:((c.toNat:Int)==61)
      ·have d:Hid (i=(le||j)):=by
        show _=_;rw[b.o,<-a 45,<-a 43,<-a 42,<-a 60,<-a 62,<-a 61];simp[h1,h2,h3,h4,h5,h6]
       clear a;go_enter func234,ntmps234;go_wp2_with fail;refine(g.o w).mono ?_;rintro e k ⟨rfl,rfl⟩;cases le
       ·go_wp2_with fail;refine(h.o k).mono ?_;rintro e l ⟨rfl,rfl⟩;go_wp2;go_ret;exact⟨dS (by rw[d.o];simp),rfl⟩
       ·go_wp2;go_ret;exact⟨dS (by rw[d.o];simp),rfl⟩
      ·go_enter func234,ntmps234;go_wp2;go_ret;exact⟨dS (by rw[b.o,<-a 61];simp[h6]),rfl⟩
     ·go_enter func234,ntmps234;go_wp2;go_ret;exact⟨dS (by rw[b.o,<-a 62];simp[h5]),rfl⟩
    ·go_enter func234,ntmps234;go_wp2;go_ret;exact⟨dS (by rw[b.o,<-a 60];simp[h4]),rfl⟩
   ·go_enter func234,ntmps234;go_wp2;go_ret;exact⟨dS (by rw[b.o,<-a 42];simp[h3]),rfl⟩
  ·go_enter func234,ntmps234;go_wp2;go_ret;exact⟨dS (by rw[b.o,<-a 43];simp[h2]),rfl⟩
 ·go_enter func234,ntmps234;go_wp2;go_ret;exact⟨dS (by rw[b.o,<-a 45];simp[h1]),rfl⟩
theorem Ji (l:dN)(i:Nat)(w:World)(hi:i<=l.length)(r:l.length<=1000000) :
 dH 171 #[dD l,dw i] w λf m=>f=dF (dw (Doc.gQ l i).length)/\m=w:=by
 have s:=gU;have g:=dn (λn=>TB n w);obtain⟨b,c⟩:=aK ((Doc.gQ l i).length);rw[c];have o:=dn c;clear c;go_enter func171,ntmps171;go_wp2_with fail
 go_loop [5] (fun v=>∃k:Nat,v=dw k/\i+k<=l.length/\b=k+(Doc.gQ l (i+k)).length) (fun v=>l.length-(intOf v).toNat)
 ·exact⟨0,rfl,aR,by rw[Nat.zero_add,Nat.add_zero];exact o.o.symm⟩
 case round=>
  obtain⟨k,rfl,t,h⟩:=hrel;have d:=dn h;clear h
  by_cases j:i+k<l.length
  ·cases hn:Doc.named l[i+k]
   ·have a:=g.o l[i+k];rw[hn]at a;have a:=dn a;have e:=dn (Doc.Ag j hn);go_wp2_with fail;refine a.o.mono ?_;rintro f p ⟨rfl,rfl⟩;go_wp2;go_ret;exact⟨fM (by rw[d.o,e.o];simp),rfl⟩
   ·have a:=g.o l[i+k];rw[hn]at a;have a:=dn a;have e:=dn (Doc.Ah j hn);go_wp2_with fail;refine a.o.dX λp q=>?_;subst q;go_wp2;go_round
    ·exact⟨k+1,bL,aR,by rw[d.o,e.o,List.length_cons,Nat.add_assoc i k 1];omega⟩
    ·exact aph
  ·go_wp2;go_ret;exact⟨fM (by rw[d.o,Doc.GM aR];simp),rfl⟩
theorem oL (p f:Nat)(x:dN)(w:World):dH 173 #[.agg #[dw p,dD x,dw f]] w λe b=>e=dF (.bool (x==[]))/\dB w b:=by
 have d:=gU;have a:Hid (dB w (w.alloc (.cells #[dw p,dD x,dw f] 129))):=ai;generalize g:(x==[])=c at *;cases c
 ·go_enter func173,ntmps173;go_wp2;go_ret;exact⟨rfl,a.o⟩
 ·go_enter func173,ntmps173;go_wp2;go_ret;exact⟨rfl,a.o⟩
structure uD (w:World)(g o:Nat)(t:Doc.Item):Prop where
 pos:w.cell? (dA g o)=some (dw t.pos)
 word:w.cell? (dA g (o+1))=some (dD t.word)
 fin:w.cell? (dA g (o+2))=some (dw t.fin)
theorem uD.below {o:Nat}{t:Doc.Item}(h:uD w n o t)(a:dB w W):uD W n o t:=by
 have b:=aj h.pos;exact⟨(a.dL h.pos b),(a.dL h.word b),(a.dL h.fin b)⟩
def vO (w:World)(v:Value)(its:List Doc.Item):Prop:=gu v its.length (λg i=>∀h:i<its.length,uD w g (i*3) its[i])
theorem vO.below (h:vO w v I)(a:dB w W):vO W v I:=gu.imp h λ_ _ _ b hi=>(b hi).below a
def uj (its:List Doc.Item)(b:Nat):Doc.Item:=(its[b]?).getD ⟨0,[],0⟩
theorem zw (v:Value)(a:List Doc.Item)(b:Nat)(w:World)(hi:vO w v a):dH 120 #[v,dw b] w λe k=>e=dF (.agg #[dw (uj a b).pos,dD (uj a b).word,dw (uj a b).fin])/\dB w k:=by
 obtain⟨m,n,rfl,o,l,d⟩:=hi;unfold maxLen at l
 by_cases f:b<a.length
 ·have e:uj a b=a[b]:=by unfold uj;rw[aF f];rfl
  rw[e];obtain⟨p,rfl,h⟩:=d b f;have i:=h f;have j:=(Below.refl w.heap.size w).alloc ae (.cells #[dw 0,eB,dw 0] 129);have c:=i.below j;have q:=c.pos;have r:=c.word;have s:=c.fin;have g:Hid (dB w (w.alloc (.cells #[dw a[b].pos,dD a[b].word,dw a[b].fin] 129))):=ai;clear d h i c j e;go_enter func120,ntmps120;go_wp2;exact dR (.agg #[dw a[b].pos,dD a[b].word,dw a[b].fin]) (by simp[results,results120,go_sem]) rfl ⟨rfl,g.o⟩
 ·have e:uj a b=⟨0,[],0⟩:=by unfold uj;rw[List.getElem?_eq_none aR];rfl
  rw[e];have g:Hid (dB w (w.alloc (.cells #[dw 0,eB,dw 0] 129))):=ai;clear d e;go_enter func120,ntmps120;go_wp2;exact dR (.agg #[dw 0,eB,dw 0]) (by simp[results,results120,go_sem]) rfl ⟨rfl,g.o⟩
theorem Mq (a:List Doc.Tr)(b:Nat):∀n,n<=a.length->b+n<=Doc.start a b n:=by
 intro n
 induction n with
 | zero=>intro _;rw[Doc.xK];exact ae
 | succ n c=>intro h;have:=c aR;have:=Doc.F8 (ks:=a) (b:=b) (n:=n) aR;omega
def afY (w':World)(base:Nat)(xs:List Nat)(e:Ending):Prop:=∃u,e=dF u/\w'.ownsRow base 3 1 u xs.length (xs.map (λa:Nat=>Value.int .i64 (a:Int)))
theorem UT (B:Value)(c:List Doc.Item)(b O:Nat)(a:List Doc.Tr)(w:World)(hi:vO w B c)(d:Doc.mg c b (.list O a))(hn:c.length<=1000000) :
 dH 79 #[B,dw b] w λP C=>afY C w.heap.size (Doc.places a (b+1)) P/\dB w C:=by
 obtain⟨Q,R,S,T,U⟩:=info_parts nk;have V:=dn hi;obtain⟨ao,cap,rfl,X,D,o⟩:=hi;unfold maxLen at D;have p:=d.lt';obtain⟨Y,rfl,E⟩:=o b p;have Z:=(E p).fin;have e:=d.item;rw[aF p]at e;injection e with e
 have f:c[b].fin=b+1+(Doc.gP a (b+1)).length:=by rw[e];simp only[Doc.flat,List.length_cons];omega
 have hEl:b+1+(Doc.gP a (b+1)).length<=c.length:=by have:=d.lt;simp only[Doc.flat,List.length_cons]at this;omega
 rw[f]at Z
 have ajB:Hid (∀n (h:n<a.length),Doc.start a (b+1) n<b+1+(Doc.gP a (b+1)).length/\Doc.start a (b+1) n<Doc.start a (b+1) (n+1)/\Doc.start a (b+1) (n+1)<=b+1+(Doc.gP a (b+1)).length/\∀W,dB w W->W.dQ Y (Doc.start a (b+1) n*3+2)=some (dw (Doc.start a (b+1) (n+1)))):=by
  intro n h;have F:=d.kid h;have q:=Doc.F8 (b:=b+1) h;have a2:=Doc.Zb (ks:=a) (b:=b+1) (n:=n+1) aR;refine⟨aR,q,a2,λW hb=>?_⟩;have r:=F.lt';obtain⟨g',g,hc'⟩:=o _ r;injection g with g;injection g with g;subst g;have s:=((hc' r).below hb).fin;have j:=F.item;rw[aF r]at j;injection j with j;rw[j]at s;simp only at s;rw[Doc.GY h];exact s
 have hkn:a.length<=1000000:=by
  have q:=Mq a (b+1) a.length ae;rw[Doc.zF]at q;exact aR
 have uG:Hid (Doc.start a (b+1) 0=b+1):=Doc.xK a (b+1);have aiX:Hid (∀n,n<=a.length->¬n<a.length->Doc.start a (b+1) n=b+1+(Doc.gP a (b+1)).length):=λn X D=>by rw[show n=a.length by omega];exact Doc.zF a (b+1)
 have Yu:=dn (λn=>Doc.Qn (ks:=a) (b:=b+1) (n:=n));have G:=dn (Doc.BZ a (b+1));generalize b+1+(Doc.gP a (b+1)).length=bg at *;clear o E d f e V;have hge:decide ((c.length:Int)<=(b:Int))=false:=decide_eq_false aR;have ae7:decide ((b:Int)≥(c.length:Int))=false:=decide_eq_false aR;have alc:¬((c.length:Int)<=(b:Int)):=aR;go_enter func79,ntmps79;go_wp2_with fail
 go_loopw [5,7] (fun bn t wr=>∃(n:Nat),t=dw (Doc.start a (b+1) n:Nat)/\n<=a.length/\wr.ownsRow w.heap.size 3 1 bn n (((Doc.places a (b+1)).take n).map (fun i:Nat=>Value.int .i64 (i:Int)))/\dB w wr) (fun _ t _=>bg-(intOf t).toNat)
 ·exact⟨0,by rw[uG.o];rfl,aR,World.ownsRow_nil _ _ _ _,af⟩
 case round=>
  obtain⟨n,rfl,hnk,u,v⟩:=hrel;have x:=dn u;have H:=dn v;obtain⟨av,Ay,rfl,hv1,hv2⟩:=ik u;have hsz:=v.size;clear u
  by_cases y:n<a.length
  ·obtain⟨k1,k2,k3,z⟩:=ajB.o n y;have I:=Yu.o n y;have J:=dn I;clear I v;obtain⟨A,k⟩:=aK (Doc.start a (b+1) n);obtain⟨K,l⟩:=aK (Doc.start a (b+1) (n+1));rw[k,l]at k2;rw[k]at k1 z J;rw[l]at k3 z;rw[k];have nS:=dn l;clear k l;go_wp2_with (at_builtin;refine dU rfl (.tmp 33) (.tmp 35) 57 rfl w.heap.size 3 Q (dw 0) 1 8 underlying57 R S T U rfl aY (.slice av n Ay) n (((Doc.places a (b+1)).take n).map (λi:Nat=>Value.int .i64 (i:Int))) rfl (by exact x.o.alloc _) (dA wr.heap.size 0) 1 [dw (A:Int)] rfl rfl bP bX bz aR aX ?_;intro ga fD m L M hg1 hg2;have N:Hid (dB w m):=(H.o.alloc hsz _).grown M aX (λbq hx=>(x.o.lt bq hx).1);have q1:=z m N.o)
   have HF:Hid (m.ownsRow w.heap.size 3 1 (dJ ga (n+1) fD) (n+1) (((Doc.places a (b+1)).take (n+1)).map (λi:Nat=>Value.int .i64 (i:Int)))):=by
    show m.ownsRow _ _ _ _ _ _;rw[J.o,List.map_append];exact L
   clear L M hg1 hg2;go_wp2;go_roundw
   ·exact⟨n+1,by rw[nS.o],aR,HF.o,N.o⟩
   ·exact aph
  ·have f:=aiX.o n hnk y;rw[f];clear f;go_wp2;go_ret;refine⟨⟨_,rfl,?_⟩,H.o⟩;have h:=x.o;have hnn:n=a.length:=aR;rw[G.o,<-hnn];rw[List.take_of_length_le (by rw[G.o];omega)]at h;exact h
theorem X8:(prog.info? 129).map (λi=>(i.zero,i.size,i.bytes))=some (some (.agg #[dw 0,eB,dw 0]),3,32):=bR
def jo (t:Doc.Item):List Value:=[dw t.pos,eO t.word,dw t.fin]
def jZ (its:List Doc.Item):List Value:=(its.map jo).flatten
def ja (l:List Nat):List Value:=l.map (λa:Nat=>Value.int .i64 (a:Int))
structure ny (w:World)(sb:Nat)(l:dN)(its:List Doc.Item)(op:List Nat):Prop where
 lt:sb<w.heap.size
 text:w.cell? (dA sb 0)=some (dD l)
 items:∃v,w.cell? (dA sb 1)=some v/\w.ownsRow (sb+1) 129 3 v its.length (jZ its)
 opens:∃v,w.cell? (dA sb 2)=some v/\w.ownsRow (sb+1) 3 1 v op.length (ja op)
 fr:∀o,w.frozen? (dA sb o)=false
theorem ny.below (h:ny w n x I l)(a:dB w W):ny W n x I l:=by
 obtain⟨b,c,d⟩:=h.items;obtain⟨e,f,g⟩:=h.opens;exact⟨Nat.lt_of_lt_of_le h.lt a.size,(a.dL h.text h.lt),⟨b,(a.dL c h.lt),ownsRow_below d a⟩,⟨e,(a.dL f h.lt),ownsRow_below g a⟩,λo=>(a.gq (h.fr o) h.lt)⟩
theorem Kn (h:w.ownsRow n e m v k b){c:Nat}(a:v.ownBlock=some c):∃d,w.heap[c]?=some (.cells d e (0,0)):=by
 rcases h.2 with ⟨f,_⟩|⟨g,j,d,f,_,i,_⟩
 ·rw[f]at a;simp[Value.ownBlock]at a
 ·rw[f]at a;have:g=c:=aor;subst this;exact⟨d,i⟩
theorem Cc (h:w.ownsRow n e k v j b)(c:w.ownsRow m E i V N B)(d:e≠E):∀a,v.ownBlock=some a->V.ownBlock≠some a:=by
 intro a f g;obtain⟨p,l⟩:=Kn h f;obtain⟨q,o⟩:=Kn c g;exact iH l o d rfl
theorem TA (w:World)(p n:Nat)(x:dN)(a:TypeId)(m:Nat)(b:m=w.heap.size):∀j u,(jo ⟨p,x,n+1⟩)[j]?=some u->((w.alloc (.cells #[dw p,dD x,dw ((n:Int)+1)] a)).drew).cell? (((dA m 0):Addr).add j)=some u:=by
 subst b;intro j u h;show(w.alloc _).cell? _=_
 match j,h with
 | 0,h=>simp[jo,eO,Addr.add]at h ⊢;exact h
 | 1,h=>simp[jo,eO,Addr.add]at h ⊢;exact h
 | 2,h=>simp[jo,eO,Addr.add]at h ⊢;exact h
 | n+3,h=>simp[jo]at h
theorem aaf (t:Doc.Item):∀u∈jo t,u.oneCell'=true:=by
 intro u a;simp only[jo,List.mem_cons,List.not_mem_nil,or_false]at a;rcases a with rfl|rfl|rfl<;>rfl
theorem Xo (a:List Doc.Item)(t:Doc.Item):jZ (a++[t])=jZ a++jo t:=by simp[jZ]
theorem G9 (l:List Nat)(a:Nat):ja (l++[a])=ja l++[dw (a:Int)]:=by simp[ja]
theorem ny.addItem {t:Doc.Item}(h:ny w n x I l)(d:w.cell? (dA n 1)=some v)(a:mo w W n 1 (n+1) 129 3 v V (I.length+1) (jZ I++jo t)):ny W n x (I++[t]) l:=by
 obtain⟨i,b,e⟩:=h.items;obtain⟨f,g,c⟩:=h.opens;rw[d]at b;injection b with b
 subst b;have j:=a.size;refine⟨aP h.lt,(a.cells 0 aR).trans h.text,⟨V,a.cell,?_⟩,⟨f,(a.cells 2 aR).trans g,(a.other _ _ _ _ _ c (Cc c e aY)).1⟩,λo=>(a.frozen o).trans (h.fr o)⟩;rw[Xo,List.length_append];exact a.own
theorem ny.ad1 (h:ny w n x I l)(d:w.cell? (dA n 2)=some v)(a:mo w W n 2 (n+1) 3 1 v V (l.length+1) (ja l++[dw (m:Int)])):ny W n x I (l++[m]):=by
 obtain⟨e,f,c⟩:=h.items;obtain⟨i,b,g⟩:=h.opens;rw[d]at b;injection b with b
 subst b;have j:=a.size;refine⟨aP h.lt,(a.cells 0 aR).trans h.text,⟨e,(a.cells 1 aR).trans f,(a.other _ _ _ _ _ c (Cc c g aY)).1⟩,⟨V,a.cell,?_⟩,λo=>(a.frozen o).trans (h.fr o)⟩;rw[G9,List.length_append];exact a.own
def IK (w w':World)(sb:Nat)(l:dN)(its:List Doc.Item)(op:List Nat):Prop:=ny w' sb l its op/\Below sb w w'
theorem Kg (a:Nat)(l:dN)(b:List Doc.Item)(m:List Nat)(p n:Nat)(x:dN)(w:World)(h:ny w a l b m)(P:b.length<=1000000) :
 dH 172 #[dK a 0,.agg #[dw p,dD x,dw n]] w λe C=>e=dF (dM #[])/\IK w C a l (b++[⟨p,x,b.length+1⟩]) m:=by
 obtain⟨D,hi,E,F,G⟩:=info_parts X8;have r:dB w (w.alloc (.cells #[dw p,dD x,dw n] 129)):=ai;have c:dB w (w.alloc (.cells #[dw p,dD x,dw ((b.length:Int)+1)] 129)):=ai;have H:=dn c;have f:=h.below c;have I:=dn f;have s:=h.lt;obtain⟨Q,t,d⟩:=h.items;obtain⟨g,i,rfl,R,S⟩:=ik d;have T:=r.dL t s;have J:=c.dL t s;have u:=ownsRow_below d c;have v:=dn u;have K:=λo=>f.fr o;have j:=dn J;have y:∀q,(Value.slice g b.length i).ownBlock=some q->a+1<=q:=λq L=>(d.lt q L).1;have z:=dn y;have M:a≠w.heap.size:=aR;have U:=M.symm;clear h f r c d u y;go_enter func172,ntmps172;go_upto_region 2 with fail
 go_region_law (refine jC rfl (.tmp 15) (.tmp 17) 121 rfl (a+1) 129 D (.agg #[dw 0,eB,dw 0]) 3 32 underlying121 hi E F G rfl aY (.slice g b.length i) b.length (jZ b) cO (by exact(v.o.alloc _).drew) (dA (w.heap.size+1) 0) 1 (jo ⟨p,x,b.length+1⟩) cO rfl (by exact TA _ p b.length x _ _ aW) (aaf _) bz aR aX ?_;intro V W A N k X O;have Y:A.cell? (dA a 1)=some (.slice g b.length i):=((eY k (a:=dA a 1) aX (fun e=>aP (z.o a e.symm))).trans (dV _ _ (dA a 1) aX)).trans j.o;have Z:A.frozen? (dA a 1)=false:=((fo k (a:=dA a 1) aX (fun e=>aP (z.o a e.symm))).trans (eF _ _ (dA a 1) aX)).trans (K 1))
 all_goals
  have B:=gK (f:=1) aR ((v.o.alloc _).drew) aX ((dV _ _ (dA a 1) aX).trans j.o) N k O;go_wp2;go_end0;refine⟨rfl,(I.o.below (ai.drew)).addItem ((dV _ _ (dA a 1) aX).trans j.o) B,?_⟩;exact((H.o.mono aR).trans ((ai.drew).mono aX)).trans B.below
theorem Qi (b:Nat)(l:dN)(c:List Doc.Item)(a:List Nat)(m:Nat)(w:World)(h:ny w b l c a)(F:c.length<=1000000)(Y:a.length<=1000) :
 dH 169 #[dK b 0,dw m] w λe n=>
  (a.length=0/\c.length>0/\e=dF (dw 2)/\n=w)\/(¬(a.length=0/\c.length>0)/\a.length≥12/\e=dF (dw 3)/\n=w)\/
  (¬(a.length=0/\c.length>0)/\¬a.length≥12/\e=dF (dw 0)/\IK w n b l (c++[⟨m,[],c.length+1⟩]) (a++[c.length])):=by
 obtain⟨G,hi,H,I,J⟩:=info_parts nk;have K:=dn h;have Z:=h.lt;obtain⟨bg,hv,s⟩:=h.items;obtain⟨ao,cap,rfl,hc1,hc2⟩:=ik s;obtain⟨v2,L,i⟩:=h.opens;obtain⟨j,k,rfl,hd1,hd2⟩:=ik i;have M:=h.fr;have t:=dn i;have o:=dn L;have u:Hid (∀q,(Value.slice j a.length k).ownBlock=some q->b+1<=q):=λq N=>(i.lt q N).1;clear h s i
 by_cases d:a.length=0/\c.length>0
 ·have p:((a.length:Int)==0)=true:=by rw[d.1];rfl
  have O:(c.length:Int)>0:=aR;have f:=dn d;clear d;go_enter func169,ntmps169;go_wp2;go_ret;exact .inl ⟨f.o.1,f.o.2,rfl,rfl⟩
 ·have v:((a.length:Int)==0)=false\/(((a.length:Int)==0)=true/\¬(c.length:Int)>0):=by
   by_cases x:a.length=0
   ·exact .inr ⟨by rw[x];rfl,by intro hp;exact d ⟨x,aR⟩⟩
   ·exact .inl (ak aR)
  have f:=dn d;clear d
  by_cases y:a.length≥12
  ·have p:((a.length:Int)==0)=false:=ak aR;clear v;go_enter func169,ntmps169;go_wp2;go_ret;exact .inr (.inl ⟨f.o,y,rfl,rfl⟩)
  ·rcases v with p|⟨p,O⟩
   all_goals
    go_enter func169,ntmps169;go_upto_region 5 with fail;go_cut [] (fun P=>∃Q R,mo ((w.alloc (.cells #[dw (c.length:Int)] 3)).drew) P b 2 (b+1) 3 1 (.slice j a.length k) (dJ Q (a.length+1) R) (a.length+1) (ja a++[dw (c.length:Int)]))
    case first=>
     go_region_law (refine jC rfl (.tmp 29) (.tmp 35) 57 rfl (b+1) 3 G (dw 0) 1 8 underlying57 hi H I J rfl aY (.slice j a.length k) a.length (ja a) cO (by exact(t.o.alloc _).drew) (dA w.heap.size 0) 1 [dw (c.length:Int)] cO rfl bP bX bz aR aX ?_;intro z A B S r hg1 T;have q1:B.cell? (dA b 2)=some (.slice j a.length k):=((eY r (a:=dA b 2) aX (fun e=>aP (u.o b e.symm))).trans (dV _ _ (dA b 2) aX)).trans o.o;have q2:B.frozen? (dA b 2)=false:=((fo r (a:=dA b 2) aX (fun e=>aP (u.o b e.symm))).trans (eF _ _ (dA b 2) aX)).trans (M 2))
     all_goals
      have g:=gK (f:=2) aR ((t.o.alloc _).drew) aX ((dV _ _ (dA b 2) aX).trans o.o) S r T;go_wp2;go_meet
      ·exact⟨z,A,g⟩
    case rest=>
     obtain⟨z,A,g⟩:=hcut;have C:=(K.o.below (ai.drew)).ad1 ((dV _ _ (dA b 2) aX).trans o.o) g;have U:Hid (Below b w wc):=(((Below.refl w.heap.size w).alloc ae _).drew).mono aR |>.trans g.below;have V:=dn (Kg b l c (a++[c.length]) m 0 [] wc C F);clear g C;go_wp2_with fail;refine V.o.mono ?_;rintro e w2 ⟨rfl,D,E⟩;have W:=dn D;have X:=dn E;clear D E;go_wp2;go_ret;exact .inr (.inr ⟨f.o,y,rfl,W.o,U.o.trans X.o⟩)
def numOf (x:dN):Nat:=if Doc.digits x=true then dC.val x else 0
theorem yK {x:dN}(h:Doc.digits x=false):numOf x=0:=by simp[numOf,h]
theorem zJ {x:dN}(h:Doc.digits x=true):numOf x=dC.val x:=by simp[numOf,h]
theorem YS (h:n<x.length):dC.val (x.take (n+1))=10*dC.val (x.take n)+dC.dv x[n]:=by
 rw[List.take_add_one,aF h];simp only[Option.toList_some];exact dC.jM _ _
theorem afH (c:UInt8)(h:48<=c.toNat)(a:c.toNat<=57):(dC.dv c:Int)=(c.toNat:Int)-48:=by
 unfold dC.dv;exact aR
theorem FL (x:dN)(w:World)(T:x.length<=1000000) :
 dH 182 #[dD x] w λe C=>e=dF (dM #[dw (numOf x:Nat),.bool (Doc.digits x)])/\C=w:=by
 have U:=gU
 by_cases i:x.length=0
 ·have:x=[]:=List.eq_nil_of_length_eq_zero i;subst this;rw[yK CF,CF];exact aqy
 ·have r:0<x.length:=aR;have V:((x.length:Int)==0)=false:=ak aR
  by_cases s:8<x.length
  ·rw[yK (Au s),Au s];clear i;exact aqy
  ·have d:x≠[]:=λe=>i ant
   have t:x.length<=1↔∃f,x=[f]:=⟨λh=>by
    match x,h,d with
    | [f],_,_=>exact⟨f,rfl⟩
    | [],_,h=>exact absurd rfl h
    | W::X::Y,h,_=>simp at h,fun⟨f,h⟩=>aom⟩
   have D:(((x[0].toNat:Int)==48)=true/\1<x.length/\Doc.digits x=false)\/((((x[0].toNat:Int)==48)=false\/(((x[0].toNat:Int)==48)=true/\x.length<=1))/\Doc.digits x=x.all Doc.digit):=by
    cases a:((x[0].toNat:Int)==48)
    ·refine .inr ⟨.inl rfl,xV d aR ?_⟩;rintro ⟨h,_⟩;rw[(zS r).1 h]at a;cases a
    ·by_cases b:x.length<=1
     ·refine .inr ⟨.inr ⟨rfl,b⟩,xV d aR ?_⟩;rintro ⟨u,E⟩;obtain⟨f,j⟩:=t.1 b;subst j;apply E;simp at u;rw[u]
     ·refine .inl ⟨rfl,aR,FC ((zS r).2 a) ?_⟩;intro e;rw[e]at b;simp at b
   clear t i;rcases D with ⟨a,b,c⟩|⟨j,c⟩
   ·rw[yK c,c];clear c d;exact aqy
   ·have F:Hid (Doc.digits x=(x.drop 0).all Doc.digit):=c;have G:=dn (λh=>yK (x:=x) h);have H:=dn (λh=>zJ (x:=x) h);generalize Doc.digits x=l at *;generalize numOf x=Z at *;clear c d;rcases j with a|⟨a,b⟩
    all_goals
     go_enter func182,ntmps182;go_wp2_with fail
     go_loop [4,5] (fun I m=>∃k:Nat,m=dw k/\I=dw (dC.val (x.take k):Nat)/\k<=x.length/\l=(x.drop k).all Doc.digit/\dC.val (x.take k)<10 ^ k) (fun _ m=>x.length-(intOf m).toNat)
     ·exact⟨0,rfl,aW,aR,F.o,aW⟩
     case round=>
      obtain⟨k,rfl,rfl,hk,v,n⟩:=hrel;have J:dC.val (x.take k)<10 ^ 8:=Nat.lt_of_lt_of_le n (Nat.pow_le_pow_right aR aR);have hm4:dC.val (x.take k)<100000000:=aR;have K:=dn n;have o:=dn v;clear v n J
      by_cases y:k<x.length
      ·have z:=dn (OG Doc.digit x k y);have L:=dn (YS y);have M:=dn (afH x[k]);have N:Hid (Doc.digit x[k]=(decide (48<=x[k].toNat)&&decide (x[k].toNat<=57))):=rfl;have A:=dn (AP x[k] w);generalize Doc.digit x[k]=O at *;generalize hv:dC.val (x.take k)=bg at *;cases O
       ·go_wp2_with fail;refine A.o.dX λP p=>?_;subst p;go_wp2;go_ret2;have g:l=false:=by rw[o.o,z.o];rfl
        exact⟨by rw[G.o g,g];rfl,rfl⟩
       ·have q:=N.o
        have Q:48<=x[k].toNat:=by
         by_cases h:48<=x[k].toNat
         ·exact h
         ·simp[h]at q
        have R:x[k].toNat<=57:=by
         by_cases h:x[k].toNat<=57
         ·exact h
         ·simp[h]at q
        clear q;go_wp2_with fail;refine A.o.dX λP p=>?_;subst p;go_wp2;go_round
        case rel=>
         have B:=L.o;have e2:=M.o Q R;have e3:=K.o;refine⟨k+1,bL,?_,aR,by rw[o.o,z.o];rfl,by rw[B,Nat.pow_succ];omega⟩;rw[B];congr 1;omega
        case measure=>exact aph
      ·go_wp2;go_ret2;have g:l=true:=by rw[o.o,List.drop_eq_nil_of_le aR];rfl
       have S:k=x.length:=aR;refine⟨?_,rfl⟩;rw[H.o g,g,S,List.take_length];rfl
