import Derived.Test.YtbichedkajfmiaaGreatDoorGDoc4
import Derived.Test.YtbichedkajfmiaaGreatDoorGLaws0
import Derived.Test.YtbichedkajfmiaaGreatDoorGRef15
import Derived.Test.YtbichedkajfmiaaGreatDoorC
set_option maxRecDepth 100000
set_option maxHeartbeats 16000000
namespace Go.Proofs.YtbichedkajfmiaaGreatDoor
open Go.RowKit
variable {B b:List Value}{E e:TypeId}{I:List Doc.Item}{N i j k m n:Nat}{V v:Value}{W w:World}{l:List Nat}{x:List UInt8}
theorem BN (c:UInt8)(w:World):Calls Tryz.prog 171 #[.int .u8 c.toNat] w fun e a=>e=.returned (.bool (Doc.letter c))/\a=w:=by
 have b:Hid (Doc.letter c=((decide (97<=c.toNat)&&decide (c.toNat<=122))||(decide (65<=c.toNat)&&decide (c.toNat<=90)))):=rfl;generalize Doc.letter c=d at *
 by_cases f:(97:Int)<=c.toNat<;>by_cases g:(c.toNat:Int)<=122<;>by_cases h:(65:Int)<=c.toNat<;>by_cases i:(c.toNat:Int)<=90
 all_goals
  first
  | (exfalso;omega)
  | (go_enter Tryz.func171,Tryz.ntmps171
     go_wp2_with fail;go_ret;refine⟨dK ?_,rfl⟩;rw[b.o,Bool.eq_iff_iff];simp only[Bool.or_eq_true,Bool.and_eq_true,decide_eq_true_eq,eq_self,true_iff,false_iff,Bool.false_eq_true];omega)
theorem Df (c:UInt8)(w:World):Calls Tryz.prog 226 #[.int .u8 c.toNat] w fun e a=>e=.returned (.bool (Doc.digit c))/\a=w:=by
 have b:Hid (Doc.digit c=(decide (48<=c.toNat)&&decide (c.toNat<=57))):=rfl;generalize Doc.digit c=d at *
 by_cases f:(48:Int)<=c.toNat<;>by_cases g:(c.toNat:Int)<=57
 all_goals
  first
  | (exfalso;omega)
  | (go_enter Tryz.func226,Tryz.ntmps226
     go_wp2_with fail;go_ret;refine⟨dK ?_,rfl⟩;rw[b.o,Bool.eq_iff_iff];simp only[Bool.and_eq_true,decide_eq_true_eq,eq_self,true_iff,false_iff,Bool.false_eq_true];omega)
theorem Sg:∀n:Fin 256,Doc.named (UInt8.ofNat n.1)=(n.1==45||n.1==43||n.1==42||n.1==60||n.1==62||n.1==61||((decide (97<=n.1)&&decide (n.1<=122))||(decide (65<=n.1)&&decide (n.1<=90)))||(decide (48<=n.1)&&decide (n.1<=57))):=aR
theorem VB (c:UInt8):Doc.named c=(c.toNat==45||c.toNat==43||c.toNat==42||c.toNat==60||c.toNat==62||c.toNat==61||Doc.letter c||Doc.digit c):=by
 have h:=Sg ⟨c.toNat,c.toNat_lt⟩;simp only[UInt8.ofNat_toNat]at h;rw[h];rfl
theorem Pz (c:UInt8)(w:World):Calls Tryz.prog 221 #[.int .u8 c.toNat] w fun e f=>e=.returned (.bool (Doc.named c))/\f=w:=by
 have b:=di (VB c);have g:=di (BN c);have h:=di (Df c);generalize Doc.named c=i at *;generalize Doc.letter c=le at *;generalize Doc.digit c=j at *;have a:∀n:Nat,((c.toNat:Int)==(n:Int))=(c.toNat==n):=fun n=>akD;cases h1:((c.toNat:Int)==45)
 ·cases h2:((c.toNat:Int)==43)
  ·cases h3:((c.toNat:Int)==42)
   ·cases h4:((c.toNat:Int)==60)
    ·cases h5:((c.toNat:Int)==62)
     ·cases h6:((c.toNat:Int)==61)
      ·have d:Hid (i=(le||j)):=by
        show _=_;rw[b.o,<-a 45,<-a 43,<-a 42,<-a 60,<-a 62,<-a 61];simp[h1,h2,h3,h4,h5,h6]
       clear a;go_enter Tryz.func221,Tryz.ntmps221;go_wp2_with fail;refine(g.o w).mono ?_;rintro e k ⟨rfl,rfl⟩;cases le
       ·go_wp2_with fail;refine(h.o k).mono ?_;rintro e l ⟨rfl,rfl⟩;go_wp2_with fail;go_ret;exact⟨dK (by rw[d.o];simp),rfl⟩
       ·go_wp2_with fail;go_ret;exact⟨dK (by rw[d.o];simp),rfl⟩
      ·go_enter Tryz.func221,Tryz.ntmps221;go_wp2_with fail;go_ret;exact⟨dK (by rw[b.o,<-a 61];simp[h6]),rfl⟩
     ·go_enter Tryz.func221,Tryz.ntmps221;go_wp2_with fail;go_ret;exact⟨dK (by rw[b.o,<-a 62];simp[h5]),rfl⟩
    ·go_enter Tryz.func221,Tryz.ntmps221;go_wp2_with fail;go_ret;exact⟨dK (by rw[b.o,<-a 60];simp[h4]),rfl⟩
   ·go_enter Tryz.func221,Tryz.ntmps221;go_wp2_with fail;go_ret;exact⟨dK (by rw[b.o,<-a 42];simp[h3]),rfl⟩
  ·go_enter Tryz.func221,Tryz.ntmps221;go_wp2_with fail;go_ret;exact⟨dK (by rw[b.o,<-a 43];simp[h2]),rfl⟩
 ·go_enter Tryz.func221,Tryz.ntmps221;go_wp2_with fail;go_ret;exact⟨dK (by rw[b.o,<-a 45];simp[h1]),rfl⟩
theorem FC (l:List UInt8)(i:Nat)(w:World)(hi:i<=l.length)(r:l.length<=1000000) :
 Calls Tryz.prog 166 #[.string ⟨l.toArray⟩,.int .i64 i] w fun e m=>e=.returned (.int .i64 (Doc.fu l i).length)/\m=w:=by
 have s:=fJ;have g:=di (fun n=>Pz n w);obtain⟨b,c⟩:=aJ ((Doc.fu l i).length);rw[c];have o:=di c;clear c;go_enter Tryz.func166,Tryz.ntmps166;go_wp2_with fail
 go_loop [5] (fun v=>∃k:Nat,v=.int .i64 k/\i+k<=l.length/\b=k+(Doc.fu l (i+k)).length) (fun v=>l.length-(intOf v).toNat)
 case atStart=>exact⟨0,rfl,aO,by rw[Nat.zero_add,Nat.add_zero];exact o.o.symm⟩
 case round=>
  obtain⟨k,rfl,t,h⟩:=hrel;have d:=di h;clear h
  by_cases j:i+k<l.length
  ·cases hn:Doc.named l[i+k]
   ·have a:=g.o l[i+k];rw[hn]at a;have a:=di a;have f:=di (Doc.xI j hn);go_wp2_with fail;refine a.o.mono ?_;rintro e p ⟨rfl,rfl⟩;go_wp2_with fail;go_ret;exact⟨fB (by rw[d.o,f.o];simp),rfl⟩
   ·have a:=g.o l[i+k];rw[hn]at a;have a:=di a;have f:=di (Doc.xJ j hn);go_wp2_with fail;refine a.o.mono ?_;rintro e p ⟨rfl,q⟩;subst q;go_wp2_with fail
    go_round
    case rel=>exact⟨k+1,bJ,aO,by rw[d.o,f.o,List.length_cons,Nat.add_assoc i k 1];omega⟩
    case measure=>exact akL
  ·go_wp2_with fail;go_ret;exact⟨fB (by rw[d.o,Doc.Eb aO];simp),rfl⟩
theorem ma (p f:Nat)(x:List UInt8)(w:World):Calls Tryz.prog 168 #[.agg #[.int .i64 p,.string ⟨x.toArray⟩,.int .i64 f]] w fun e b=>e=.returned (.bool (x==[]))/\Below w.heap.size w b:=by
 have d:=fJ;have a:Hid (Below w.heap.size w (w.alloc (.cells #[.int .i64 p,.string ⟨x.toArray⟩,.int .i64 f] 129))):=ag;generalize g:(x==[])=c at *;cases c
 ·exact amV
 ·exact amV
structure qZ (w:World)(g o:Nat)(t:Doc.Item):Prop where
 pos:w.cell? ⟨g,o,none⟩=some (.int .i64 t.pos)
 word:w.cell? ⟨g,o+1,none⟩=some (.string ⟨t.word.toArray⟩)
 fin:w.cell? ⟨g,o+2,none⟩=some (.int .i64 t.fin)
theorem qZ.below {o:Nat}{t:Doc.Item}(h:qZ w n o t)(a:Below w.heap.size w W):qZ W n o t:=by
 have b:=ai h.pos;exact⟨(a.cell (p:=⟨n,o,none⟩) b).trans h.pos,(a.cell (p:=⟨n,o+1,none⟩) b).trans h.word,(a.cell (p:=⟨n,o+2,none⟩) b).trans h.fin⟩
def qp (w:World)(v:Value)(its:List Doc.Item):Prop:=fA v its.length (fun g i=>∀h:i<its.length,qZ w g (i*3) its[i])
theorem qp.below (h:qp w v I)(a:Below w.heap.size w W):qp W v I:=fA.imp h fun _ _ _ b hi=>(b hi).below a
def qI (its:List Doc.Item)(b:Nat):Doc.Item:=(its[b]?).getD ⟨0,[],0⟩
theorem wR (v:Value)(a:List Doc.Item)(b:Nat)(w:World)(hi:qp w v a):Calls Tryz.prog 118 #[v,.int .i64 b] w fun e k=>e=.returned (.agg #[.int .i64 (qI a b).pos,.string ⟨(qI a b).word.toArray⟩,.int .i64 (qI a b).fin])/\Below w.heap.size w k:=by
 obtain⟨m,n,rfl,o,l,d⟩:=hi;unfold maxLen at l
 by_cases f:b<a.length
 ·have e:qI a b=a[b]:=by unfold qI;rw[aD f];rfl
  rw[e];obtain⟨p,rfl,h⟩:=d b f;have i:=h f;have j:=(Below.refl w.heap.size w).alloc ae (.cells #[.int .i64 0,.string ⟨#[]⟩,.int .i64 0] 129);have c:=i.below j;have q:=c.pos;have r:=c.word;have s:=c.fin;have g:Hid (Below w.heap.size w (w.alloc (.cells #[.int .i64 a[b].pos,.string ⟨a[b].word.toArray⟩,.int .i64 a[b].fin] 129))):=ag;clear d h i c j e;go_enter Tryz.func118,Tryz.ntmps118;go_wp2_with fail;exact bodyPost_ret (v:=.agg #[.int .i64 a[b].pos,.string ⟨a[b].word.toArray⟩,.int .i64 a[b].fin]) (by simp[results,Tryz.results118,go_sem]) rfl ⟨rfl,g.o⟩
 ·have e:qI a b=⟨0,[],0⟩:=by unfold qI;rw[List.getElem?_eq_none aO];rfl
  rw[e];have g:Hid (Below w.heap.size w (w.alloc (.cells #[.int .i64 0,.string ⟨#[]⟩,.int .i64 0] 129))):=ag;clear d e;go_enter Tryz.func118,Tryz.ntmps118;go_wp2_with fail;exact bodyPost_ret (v:=.agg #[.int .i64 0,.string ⟨#[]⟩,.int .i64 0]) (by simp[results,Tryz.results118,go_sem]) rfl ⟨rfl,g.o⟩
theorem Jo (a:List Doc.Tr)(b:Nat):∀n,n<=a.length->b+n<=Doc.start a b n:=by
 intro n
 induction n with
 | zero=>intro _;rw[Doc.uQ];exact ae
 | succ n c=>intro h;have:=c aO;have:=Doc.Du (ks:=a) (b:=b) (n:=n) aO;omega
def aca (w':World)(base:Nat)(xs:List Nat)(e:Ending):Prop:=∃u,e=.returned u/\w'.ownsRow base 3 1 u xs.length (xs.map (fun a:Nat=>Value.int .i64 (a:Int)))
theorem QG (B:Value)(c:List Doc.Item)(b O:Nat)(a:List Doc.Tr)(w:World)(hi:qp w B c)(d:Doc.kF c b (.list O a))(hn:c.length<=1000000) :
 Calls Tryz.prog 78 #[B,.int .i64 b] w fun P C=>aca C w.heap.size (Doc.places a (b+1)) P/\Below w.heap.size w C:=by
 obtain⟨Q,R,S,T,U⟩:=info_parts Tryz.mI;have V:=di hi;obtain⟨ao,cap,rfl,X,D,o⟩:=hi;unfold maxLen at D;have p:=d.lt';obtain⟨Y,rfl,E⟩:=o b p;have Z:=(E p).fin;have e:=d.item;rw[aD p]at e;injection e with e
 have f:c[b].fin=b+1+(Doc.fD a (b+1)).length:=by rw[e];simp only[Doc.flat,List.length_cons];omega
 have hEl:b+1+(Doc.fD a (b+1)).length<=c.length:=by have:=d.lt;simp only[Doc.flat,List.length_cons]at this;omega
 rw[f]at Z
 have afH:Hid (∀n (h:n<a.length),Doc.start a (b+1) n<b+1+(Doc.fD a (b+1)).length/\Doc.start a (b+1) n<Doc.start a (b+1) (n+1)/\Doc.start a (b+1) (n+1)<=b+1+(Doc.fD a (b+1)).length/\∀W,Below w.heap.size w W->W.cell? ⟨Y,Doc.start a (b+1) n*3+2,none⟩=some (.int .i64 (Doc.start a (b+1) (n+1)))):=by
  intro n h;have F:=d.kid h;have q:=Doc.Du (b:=b+1) h;have a2:=Doc.U2 (ks:=a) (b:=b+1) (n:=n+1) aO;refine⟨aO,q,a2,fun W hb=>?_⟩;have r:=F.lt';obtain⟨g',g,hc'⟩:=o _ r;injection g with g;injection g with g;subst g;have s:=((hc' r).below hb).fin;have j:=F.item;rw[aD r]at j;injection j with j;rw[j]at s;simp only at s;rw[Doc.Ef h];exact s
 have hkn:a.length<=1000000:=by
  have q:=Jo a (b+1) a.length ae;rw[Doc.wZ]at q;exact aO
 have ry:Hid (Doc.start a (b+1) 0=b+1):=Doc.uQ a (b+1);have ae9:Hid (∀n,n<=a.length->¬n<a.length->Doc.start a (b+1) n=b+1+(Doc.fD a (b+1)).length):=fun n X D=>by rw[show n=a.length by omega];exact Doc.wZ a (b+1)
 have Uf:=di (fun n=>Doc.MH (ks:=a) (b:=b+1) (n:=n));have G:=di (Doc.zx a (b+1));generalize b+1+(Doc.fD a (b+1)).length=bg at *;clear o E d f e V;have hge:decide ((c.length:Int)<=(b:Int))=false:=decide_eq_false aO;have abh:decide ((b:Int)≥(c.length:Int))=false:=decide_eq_false aO;have ahl:¬((c.length:Int)<=(b:Int)):=aO;go_enter Tryz.func78,Tryz.ntmps78;go_wp2_with fail
 go_loopw [5,7] (fun bn t wr=>∃(n:Nat),t=.int .i64 (Doc.start a (b+1) n:Nat)/\n<=a.length/\wr.ownsRow w.heap.size 3 1 bn n (((Doc.places a (b+1)).take n).map (fun i:Nat=>Value.int .i64 (i:Int)))/\Below w.heap.size w wr) (fun _ t _=>bg-(intOf t).toNat)
 case atStart=>exact⟨0,by rw[ry.o];rfl,aO,World.ownsRow_nil _ _ _ _,af⟩
 case round=>
  obtain⟨n,rfl,hnk,u,v⟩:=hrel;have x:=di u;have H:=di v;obtain⟨av,xZ,rfl,hv1,hv2⟩:=fM u;have hsz:=v.size;clear u
  by_cases y:n<a.length
  ·obtain⟨k1,k2,k3,z⟩:=afH.o n y;have I:=Uf.o n y;have J:=di I;clear I v;obtain⟨A,k⟩:=aJ (Doc.start a (b+1) n);obtain⟨K,l⟩:=aJ (Doc.start a (b+1) (n+1));rw[k,l]at k2;rw[k]at k1 z J;rw[l]at k3 z;rw[k];have kG:=di l;clear k l;go_wp2_with (at_builtin;refine dD rfl (.tmp 33) (.tmp 35) 57 rfl w.heap.size 3 Q (.int .i64 0) 1 8 Tryz.underlying57 R S T U rfl aR (.slice av n xZ) n (((Doc.places a (b+1)).take n).map (fun i:Nat=>Value.int .i64 (i:Int))) rfl (by exact x.o.alloc _) ⟨wr.heap.size,0,none⟩ 1 [.int .i64 (A:Int)] rfl rfl bM bX aX aO aQ ?_;intro ga eZ m L M hg1 hg2;have N:Hid (Below w.heap.size w m):=(H.o.alloc hsz _).grown M aQ (fun bq hx=>(x.o.lt bq hx).1);have q1:=z m N.o)
   have HF:Hid (m.ownsRow w.heap.size 3 1 (.slice (some ⟨ga,0,none⟩) (n+1) eZ) (n+1) (((Doc.places a (b+1)).take (n+1)).map (fun i:Nat=>Value.int .i64 (i:Int)))):=by
    show m.ownsRow _ _ _ _ _ _;rw[J.o,List.map_append];exact L
   clear L M hg1 hg2;go_wp2_with fail;go_roundw
   case rel=>exact⟨n+1,by rw[kG.o],aO,HF.o,N.o⟩
   case measure=>exact akL
  ·have f:=ae9.o n hnk y;rw[f];clear f;go_wp2_with fail;go_ret;refine⟨⟨_,rfl,?_⟩,H.o⟩;have h:=x.o;have hnn:n=a.length:=aO;rw[G.o,<-hnn];rw[List.take_of_length_le (by rw[G.o];omega)]at h;exact h
theorem Tryz.VX:(Tryz.prog.info? 129).map (fun i=>(i.zero,i.size,i.bytes))=some (some (.agg #[.int .i64 0,.string ⟨#[]⟩,.int .i64 0]),3,32):=bL
def iD (t:Doc.Item):List Value:=[.int .i64 t.pos,dO t.word,.int .i64 t.fin]
def jb (its:List Doc.Item):List Value:=(its.map iD).flatten
def gX (l:List Nat):List Value:=l.map (fun a:Nat=>Value.int .i64 (a:Int))
structure lD (w:World)(sb:Nat)(l:List UInt8)(its:List Doc.Item)(op:List Nat):Prop where
 lt:sb<w.heap.size
 text:w.cell? ⟨sb,0,none⟩=some (.string ⟨l.toArray⟩)
 items:∃v,w.cell? ⟨sb,1,none⟩=some v/\w.ownsRow (sb+1) 129 3 v its.length (jb its)
 opens:∃v,w.cell? ⟨sb,2,none⟩=some v/\w.ownsRow (sb+1) 3 1 v op.length (gX op)
 fr:∀o,w.frozen? ⟨sb,o,none⟩=false
theorem lD.below (h:lD w n x I l)(a:Below w.heap.size w W):lD W n x I l:=by
 obtain⟨b,c,d⟩:=h.items;obtain⟨e,f,g⟩:=h.opens;exact⟨Nat.lt_of_lt_of_le h.lt a.size,(a.cell (p:=⟨n,0,none⟩) h.lt).trans h.text,⟨b,(a.cell (p:=⟨n,1,none⟩) h.lt).trans c,ownsRow_below d a⟩,⟨e,(a.cell (p:=⟨n,2,none⟩) h.lt).trans f,ownsRow_below g a⟩,fun o=>(a.frozen (p:=⟨n,o,none⟩) h.lt).trans (h.fr o)⟩
theorem GM (h:w.ownsRow n e m v k b){c:Nat}(a:v.ownBlock=some c):∃d,w.heap[c]?=some (.cells d e (0,0)):=by
 rcases h.2 with ⟨f,_⟩|⟨g,j,d,f,_,i,_⟩
 ·rw[f]at a;simp[Value.ownBlock]at a
 ·rw[f]at a;have:g=c:=aj5;subst this;exact⟨d,i⟩
theorem zA (h:w.ownsRow n e k v j b)(c:w.ownsRow m E i V N B)(d:e≠E):∀a,v.ownBlock=some a->V.ownBlock≠some a:=by
 intro a f g;obtain⟨p,l⟩:=GM h f;obtain⟨q,o⟩:=GM c g;exact gp l o d rfl
theorem Py (w:World)(p n:Nat)(x:List UInt8)(a:TypeId)(m:Nat)(b:m=w.heap.size):∀j u,(iD ⟨p,x,n+1⟩)[j]?=some u->((w.alloc (.cells #[.int .i64 p,.string ⟨x.toArray⟩,.int .i64 ((n:Int)+1)] a)).drew).cell? ((⟨m,0,none⟩:Addr).add j)=some u:=by
 subst b;intro j u h;show(w.alloc _).cell? _=_
 match j,h with
 | 0,h=>simp[iD,dO,Addr.add]at h ⊢;exact h
 | 1,h=>simp[iD,dO,Addr.add]at h ⊢;exact h
 | 2,h=>simp[iD,dO,Addr.add]at h ⊢;exact h
 | n+3,h=>simp[iD]at h
theorem VR (t:Doc.Item):∀u∈iD t,u.oneCell'=true:=by
 intro u a;simp only[iD,List.mem_cons,List.not_mem_nil,or_false]at a;rcases a with rfl|rfl|rfl<;>rfl
theorem S9 (a:List Doc.Item)(t:Doc.Item):jb (a++[t])=jb a++iD t:=by simp[jb]
theorem En (l:List Nat)(a:Nat):gX (l++[a])=gX l++[.int .i64 (a:Int)]:=by simp[gX]
theorem lD.addItem {t:Doc.Item}(h:lD w n x I l)(d:w.cell? ⟨n,1,none⟩=some v)(a:lH w W n 1 (n+1) 129 3 v V (I.length+1) (jb I++iD t)):lD W n x (I++[t]) l:=by
 obtain⟨i,b,e⟩:=h.items;obtain⟨f,g,c⟩:=h.opens;rw[d]at b;injection b with b
 subst b;have j:=a.size;refine⟨by have:=h.lt;omega,(a.cells 0 aO).trans h.text,⟨V,a.cell,?_⟩,⟨f,(a.cells 2 aO).trans g,(a.other _ _ _ _ _ c (zA c e aR)).1⟩,fun o=>(a.frozen o).trans (h.fr o)⟩;rw[S9,List.length_append];exact a.own
theorem lD.aaj (h:lD w n x I l)(d:w.cell? ⟨n,2,none⟩=some v)(a:lH w W n 2 (n+1) 3 1 v V (l.length+1) (gX l++[.int .i64 (m:Int)])):lD W n x I (l++[m]):=by
 obtain⟨e,f,c⟩:=h.items;obtain⟨i,b,g⟩:=h.opens;rw[d]at b;injection b with b
 subst b;have j:=a.size;refine⟨by have:=h.lt;omega,(a.cells 0 aO).trans h.text,⟨e,(a.cells 1 aO).trans f,(a.other _ _ _ _ _ c (zA c g aR)).1⟩,⟨V,a.cell,?_⟩,fun o=>(a.frozen o).trans (h.fr o)⟩;rw[En,List.length_append];exact a.own
def EZ (w w':World)(sb:Nat)(l:List UInt8)(its:List Doc.Item)(op:List Nat):Prop:=lD w' sb l its op/\Below sb w w'
theorem GD (a:Nat)(l:List UInt8)(b:List Doc.Item)(m:List Nat)(p n:Nat)(x:List UInt8)(w:World)(h:lD w a l b m)(P:b.length<=1000000) :
 Calls Tryz.prog 167 #[.pointer (some ⟨a,0,none⟩),.agg #[.int .i64 p,.string ⟨x.toArray⟩,.int .i64 n]] w fun e C=>e=.returned (.tuple #[])/\EZ w C a l (b++[⟨p,x,b.length+1⟩]) m:=by
 obtain⟨D,hi,E,F,G⟩:=info_parts Tryz.VX;have r:Below w.heap.size w (w.alloc (.cells #[.int .i64 p,.string ⟨x.toArray⟩,.int .i64 n] 129)):=ag;have c:Below w.heap.size w (w.alloc (.cells #[.int .i64 p,.string ⟨x.toArray⟩,.int .i64 ((b.length:Int)+1)] 129)):=ag;have H:=di c;have f:=h.below c;have I:=di f;have s:=h.lt;obtain⟨Q,t,d⟩:=h.items;obtain⟨g,i,rfl,R,S⟩:=fM d;have T:=(r.cell (p:=⟨a,1,none⟩) s).trans t;have J:=(c.cell (p:=⟨a,1,none⟩) s).trans t;have u:=ownsRow_below d c;have v:=di u;have K:=fun o=>f.fr o;have j:=di J;have y:∀q,(Value.slice g b.length i).ownBlock=some q->a+1<=q:=fun q L=>(d.lt q L).1;have z:=di y;have M:a≠w.heap.size:=aO;have U:=M.symm;clear h f r c d u y;go_enter Tryz.func167,Tryz.ntmps167;go_upto_region 2 with fail
 go_region_law (refine iH rfl (.tmp 15) (.tmp 17) 121 rfl (a+1) 129 D (.agg #[.int .i64 0,.string ⟨#[]⟩,.int .i64 0]) 3 32 Tryz.underlying121 hi E F G rfl aR (.slice g b.length i) b.length (jb b) bZ (by exact(v.o.alloc _).drew) ⟨w.heap.size+1,0,none⟩ 1 (iD ⟨p,x,b.length+1⟩) bZ rfl (by exact Py _ p b.length x _ _ aP) (VR _) aX aO aQ ?_;intro V W A N k X O;have Y:A.cell? ⟨a,1,none⟩=some (.slice g b.length i):=((dP k (a:=⟨a,1,none⟩) aQ (fun e=>by have:=z.o a e.symm;omega)).trans (dC _ _ ⟨a,1,none⟩ aQ)).trans j.o;have Z:A.frozen? ⟨a,1,none⟩=false:=((dS k (a:=⟨a,1,none⟩) aQ (fun e=>by have:=z.o a e.symm;omega)).trans (dI _ _ ⟨a,1,none⟩ aQ)).trans (K 1))
 all_goals
  have B:=fE (f:=1) aO ((v.o.alloc _).drew) aQ ((dC _ _ ⟨a,1,none⟩ aQ).trans j.o) N k O;go_wp2_with fail;go_end0;refine⟨rfl,(I.o.below (ag.drew)).addItem ((dC _ _ ⟨a,1,none⟩ aQ).trans j.o) B,?_⟩;exact((H.o.mono aO).trans ((ag.drew).mono aQ)).trans B.below
theorem Mx (b:Nat)(l:List UInt8)(c:List Doc.Item)(a:List Nat)(m:Nat)(w:World)(h:lD w b l c a)(F:c.length<=1000000)(Y:a.length<=1000) :
 Calls Tryz.prog 164 #[.pointer (some ⟨b,0,none⟩),.int .i64 m] w fun e n=>
  (a.length=0/\c.length>0/\e=.returned (.int .i64 2)/\n=w)\/(¬(a.length=0/\c.length>0)/\a.length≥12/\e=.returned (.int .i64 3)/\n=w)\/
  (¬(a.length=0/\c.length>0)/\¬a.length≥12/\e=.returned (.int .i64 0)/\EZ w n b l (c++[⟨m,[],c.length+1⟩]) (a++[c.length])):=by
 obtain⟨G,hi,H,I,J⟩:=info_parts Tryz.mI;have K:=di h;have Z:=h.lt;obtain⟨bg,hv,s⟩:=h.items;obtain⟨ao,cap,rfl,hc1,hc2⟩:=fM s;obtain⟨v2,L,i⟩:=h.opens;obtain⟨j,k,rfl,hd1,hd2⟩:=fM i;have M:=h.fr;have t:=di i;have o:=di L;have u:Hid (∀q,(Value.slice j a.length k).ownBlock=some q->b+1<=q):=fun q N=>(i.lt q N).1;clear h s i
 by_cases d:a.length=0/\c.length>0
 ·have p:((a.length:Int)==0)=true:=by rw[d.1];rfl
  have O:(c.length:Int)>0:=aO;have f:=di d;clear d;go_enter Tryz.func164,Tryz.ntmps164;go_wp2_with fail;go_ret;exact .inl ⟨f.o.1,f.o.2,rfl,rfl⟩
 ·have v:((a.length:Int)==0)=false\/(((a.length:Int)==0)=true/\¬(c.length:Int)>0):=by
   by_cases x:a.length=0
   ·exact .inr ⟨by rw[x];rfl,by intro hp;exact d ⟨x,aO⟩⟩
   ·exact .inl (aj aO)
  have f:=di d;clear d
  by_cases y:a.length≥12
  ·have p:((a.length:Int)==0)=false:=aj aO;clear v;go_enter Tryz.func164,Tryz.ntmps164;go_wp2_with fail;go_ret;exact .inr (.inl ⟨f.o,y,rfl,rfl⟩)
  ·rcases v with p|⟨p,O⟩
   all_goals
    go_enter Tryz.func164,Tryz.ntmps164;go_upto_region 5 with fail;go_cut [] (fun P=>∃Q R,lH ((w.alloc (.cells #[.int .i64 (c.length:Int)] 3)).drew) P b 2 (b+1) 3 1 (.slice j a.length k) (.slice (some ⟨Q,0,none⟩) (a.length+1) R) (a.length+1) (gX a++[.int .i64 (c.length:Int)]))
    case first=>
     go_region_law (refine iH rfl (.tmp 29) (.tmp 35) 57 rfl (b+1) 3 G (.int .i64 0) 1 8 Tryz.underlying57 hi H I J rfl aR (.slice j a.length k) a.length (gX a) bZ (by exact(t.o.alloc _).drew) ⟨w.heap.size,0,none⟩ 1 [.int .i64 (c.length:Int)] bZ rfl bM bX aX aO aQ ?_;intro z A B S r hg1 T;have q1:B.cell? ⟨b,2,none⟩=some (.slice j a.length k):=((dP r (a:=⟨b,2,none⟩) aQ (fun e=>by have:=u.o b e.symm;omega)).trans (dC _ _ ⟨b,2,none⟩ aQ)).trans o.o;have q2:B.frozen? ⟨b,2,none⟩=false:=((dS r (a:=⟨b,2,none⟩) aQ (fun e=>by have:=u.o b e.symm;omega)).trans (dI _ _ ⟨b,2,none⟩ aQ)).trans (M 2))
     all_goals
      have g:=fE (f:=2) aO ((t.o.alloc _).drew) aQ ((dC _ _ ⟨b,2,none⟩ aQ).trans o.o) S r T;go_wp2_with fail;go_meet
      case rel=>exact⟨z,A,g⟩
    case rest=>
     obtain⟨z,A,g⟩:=hcut;have C:=(K.o.below (ag.drew)).aaj ((dC _ _ ⟨b,2,none⟩ aQ).trans o.o) g;have U:Hid (Below b w wc):=(((Below.refl w.heap.size w).alloc ae _).drew).mono aO |>.trans g.below;have V:=di (GD b l c (a++[c.length]) m 0 [] wc C F);clear g C;go_wp2_with fail;refine V.o.mono ?_;rintro e w2 ⟨rfl,D,E⟩;have W:=di D;have X:=di E;clear D E;go_wp2_with fail;go_ret;exact .inr (.inr ⟨f.o,y,rfl,W.o,U.o.trans X.o⟩)
def numOf (x:List UInt8):Nat:=if Doc.digits x=true then dn.val x else 0
theorem vV {x:List UInt8}(h:Doc.digits x=false):numOf x=0:=by simp[numOf,h]
theorem xh {x:List UInt8}(h:Doc.digits x=true):numOf x=dn.val x:=by simp[numOf,h]
theorem UK (h:n<x.length):dn.val (x.take (n+1))=10*dn.val (x.take n)+dn.dv x[n]:=by
 rw[List.take_add_one,aD h];simp only[Option.toList_some];exact dn.lW _ _
theorem abR (c:UInt8)(h:48<=c.toNat)(a:c.toNat<=57):(dn.dv c:Int)=(c.toNat:Int)-48:=by
 unfold dn.dv;exact aO
theorem De (x:List UInt8)(w:World)(T:x.length<=1000000) :
 Calls Tryz.prog 177 #[.string ⟨x.toArray⟩] w fun e C=>e=.returned (.tuple #[.int .i64 (numOf x:Nat),.bool (Doc.digits x)])/\C=w:=by
 have U:=fJ
 by_cases i:x.length=0
 ·have:x=[]:=List.eq_nil_of_length_eq_zero i;subst this;rw[vV zW,zW];exact alP
 ·have r:0<x.length:=aO;have V:((x.length:Int)==0)=false:=aj aO
  by_cases s:8<x.length
  ·rw[vV (xW s),xW s];clear i;exact alP
  ·have d:x≠[]:=fun e=>i akj
   have t:x.length<=1↔∃f,x=[f]:=⟨fun h=>by
    match x,h,d with
    | [f],_,_=>exact⟨f,rfl⟩
    | [],_,h=>exact absurd rfl h
    | W::X::Y,h,_=>simp at h,fun⟨f,h⟩=>by rw[h];simp⟩
   have D:(((x[0].toNat:Int)==48)=true/\1<x.length/\Doc.digits x=false)\/((((x[0].toNat:Int)==48)=false\/(((x[0].toNat:Int)==48)=true/\x.length<=1))/\Doc.digits x=x.all Doc.digit):=by
    cases a:((x[0].toNat:Int)==48)
    ·refine .inr ⟨.inl rfl,uZ d aO ?_⟩;rintro ⟨h,_⟩;rw[(xw r).1 h]at a;cases a
    ·by_cases b:x.length<=1
     ·refine .inr ⟨.inr ⟨rfl,b⟩,uZ d aO ?_⟩;rintro ⟨u,E⟩;obtain⟨f,j⟩:=t.1 b;subst j;apply E;simp at u;rw[u]
     ·refine .inl ⟨rfl,aO,CZ ((xw r).2 a) ?_⟩;intro e;rw[e]at b;simp at b
   clear t i;rcases D with ⟨a,b,c⟩|⟨j,c⟩
   ·rw[vV c,c];clear c d;exact alP
   ·have F:Hid (Doc.digits x=(x.drop 0).all Doc.digit):=c;have G:=di (fun h=>vV (x:=x) h);have H:=di (fun h=>xh (x:=x) h);generalize Doc.digits x=l at *;generalize numOf x=Z at *;clear c d;rcases j with a|⟨a,b⟩
    all_goals
     go_enter Tryz.func177,Tryz.ntmps177;go_wp2_with fail
     go_loop [4,5] (fun I m=>∃k:Nat,m=.int .i64 k/\I=.int .i64 (dn.val (x.take k):Nat)/\k<=x.length/\l=(x.drop k).all Doc.digit/\dn.val (x.take k)<10 ^ k) (fun _ m=>x.length-(intOf m).toNat)
     case atStart=>exact⟨0,rfl,aP,aO,F.o,aP⟩
     case round=>
      obtain⟨k,rfl,rfl,hk,v,n⟩:=hrel;have J:dn.val (x.take k)<10 ^ 8:=Nat.lt_of_lt_of_le n (Nat.pow_le_pow_right aO aO);have hm4:dn.val (x.take k)<100000000:=aO;have K:=di n;have o:=di v;clear v n J
      by_cases y:k<x.length
      ·have z:=di (Ld Doc.digit x k y);have L:=di (UK y);have M:=di (abR x[k]);have N:Hid (Doc.digit x[k]=(decide (48<=x[k].toNat)&&decide (x[k].toNat<=57))):=rfl;have A:=di (Df x[k] w);generalize Doc.digit x[k]=O at *;generalize hv:dn.val (x.take k)=bg at *;cases O
       ·go_wp2_with fail;refine A.o.mono ?_;rintro e P ⟨rfl,p⟩;subst p;go_wp2_with fail;go_ret2;have g:l=false:=by rw[o.o,z.o];rfl
        exact⟨by rw[G.o g,g];rfl,rfl⟩
       ·have q:=N.o
        have Q:48<=x[k].toNat:=by
         by_cases h:48<=x[k].toNat
         ·exact h
         ·simp[h]at q
        have R:x[k].toNat<=57:=by
         by_cases h:x[k].toNat<=57
         ·exact h
         ·simp[h]at q
        clear q;go_wp2_with fail;refine A.o.mono ?_;rintro e P ⟨rfl,p⟩;subst p;go_wp2_with fail
        go_round
        case rel=>
         have B:=L.o;have e2:=M.o Q R;have e3:=K.o;refine⟨k+1,bJ,?_,aO,by rw[o.o,z.o];rfl,by rw[B,Nat.pow_succ];omega⟩;rw[B];congr 1;omega
        case measure=>exact akL
      ·go_wp2_with fail;go_ret2;have g:l=true:=by rw[o.o,List.drop_eq_nil_of_le aO];rfl
       have S:k=x.length:=aO;refine⟨?_,rfl⟩;rw[H.o g,g,S,List.take_length];rfl
end Go.Proofs.YtbichedkajfmiaaGreatDoor
