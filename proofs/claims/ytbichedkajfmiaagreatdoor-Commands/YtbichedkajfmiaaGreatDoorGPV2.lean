import Derived.Test.YtbichedkajfmiaaGreatDoorGPC23
import Derived.Test.YtbichedkajfmiaaGreatDoorC
set_option maxRecDepth 100000
set_option maxHeartbeats 16000000
namespace Go.Proofs.YtbichedkajfmiaaGreatDoor
open Go.RowKit
variable {U W u w:World}{k m n:Nat}{o:Own}{x:List UInt8}
theorem Dw {own:Own}{b:Doc.dB}(f:Fr own (dw own k (n+1)) n w W)(d:w.heap.size<=k)(g:k<W.heap.size)(e:Fr (dw own k (n+1)) o n W u)(h:dA u o n m b)
 (i:∀(own a:Own) (n:Nat) (c:World),Fr own a n c u->c.heap.size<=k->Fr own a n c U) (j:∀(own:Own) (n m:Nat) (S:Doc.dB),dA u own n m S->own k≠0->own k≠n->dA U own n m S):∃a,Fr own a n w U/\dA U a n m b:=by
 have l:o k=n+1:=by rw[e.ext k g];unfold dw;rw[if_pos rfl]
 exact⟨dw o k 0,(i _ _ _ _ (f.trans e) d).unbox d,(j o n m b h aO aO).unbox aO aO⟩
def DoP (w w':World)(own:Own)(k sb:Nat)(R:Value × Doc.dB)(e:Ending):Prop:=∃own',Fr own own' k w w'/\e=.returned R.1/\dA w' own' k sb R.2
theorem Ti {S:Doc.dB}(h:x.length<=400):Doc.jV S x=AY S x:=by
 unfold Doc.jV AY;rw[if_neg aO];cases Doc.parse x<;>rfl
theorem tZ.start (w:World):tZ (w.alloc (.cells #[.int .i64 0,.int .i64 0,.int .i64 0,.slice none 0 0,.string ⟨#[]⟩,.int .i64 0] 40)) w.heap.size:=
 ⟨aP,aP,aP,aP,aP,aP,fun j=>aP⟩
theorem Mf (O k:Nat)(own:Own)(S:Doc.dB)(l:List UInt8)(b:Int)(w:World)(p:dA w own k O S)(q:dH own w)(hk:k≠0)(v:Doc.fQ S)(s:eU w)(y:∀b,b<2->own b=0)(hl:l.length<=1000000) :
 Calls Tryz.prog 18 #[.pointer (some ⟨O,0,none⟩),.string ⟨l.toArray⟩,.int .i64 b] w fun U w'=>DoP w w' own k O (Hm S l b) U:=by
 obtain⟨R,V⟩:=aJ (Hm S l b);have m:Hid (R=if b<0\/8192<b then(rep 11 0 0 0,S) else match Doc.jV S l with|.error x=>(rep x.1 x.2 0 0,S)|.ok r=>if r.2=true then(rep 0 0 3 (b+1),r.1) else(rep 0 0 0 0,r.1)):=by show _=_;rw[<-V];rfl
 rw[V];clear V;have W:=di q;have X:=di p
 by_cases h1:b<0
 ·have c:Hid (R=(rep 11 0 0 0,S)):=by show _=_;rw[m.o,if_pos (Or.inl h1)]
  exact alO
 ·by_cases h2:8192<b
  ·have c:Hid (R=(rep 11 0 0 0,S)):=by show _=_;rw[m.o,if_pos (Or.inr h2)]
   exact alO
  ·have t:Hid (R=match Doc.jV S l with|.error x=>(rep x.1 x.2 0 0,S)|.ok r=>if r.2=true then(rep 0 0 3 (b+1),r.1) else(rep 0 0 0 0,r.1)):=by show _=_;rw[m.o,if_neg aO]
   by_cases Y:400<l.length
   ·have c:Hid (R=(rep 1 0 0 0,S)):=by
     show _=_;have hd:Doc.jV S l=.error (1,0):=by unfold Doc.jV;rw[if_pos Y]
     rw[t.o,hd];rfl
    have t3:(400:Int)<(l.length:Int):=aO;clear p q v s y m t Y;go_enter Tryz.func18,Tryz.ntmps18;go_wp2_with fail;exact bodyPost_ret (v:=rep 1 0 0 0) aje rfl ⟨own,Fr.of_below k W.o ag,by rw[c.o],ako⟩
   ·rw[Ti aO]at t;have t3:¬((400:Int)<(l.length:Int)):=aO;obtain⟨g,Z⟩:∃g,w.alloc (.cells #[.int .i64 0,.int .i64 0,.int .i64 0,.slice none 0 0,.string ⟨#[]⟩,.int .i64 0] 40)=g:=⟨_,rfl⟩;have P:Below w.heap.size w g:=by rw[<-Z];exact af.alloc ae _
    have Fq:Hid (tZ g w.heap.size):=by show tZ g _;rw[<-Z];exact tZ.start w
    have hsz:g.heap.size=w.heap.size+1:=by rw[<-Z];simp
    have Q:Hid (Fr own (dw own w.heap.size (k+1)) k w g):=Fr.boxed q P ae aO;have hgs:=s.size;have afj:=di (aak O k (dw own w.heap.size (k+1)) S l g (p.boxed P ae) Q.o.dJ hk v (s.ed (fun b hb hlt=>P.block b hlt)) (fun b hb=>by unfold dw;rw[if_neg aO];exact y b hb) aO);have Cf:Hid (dw own w.heap.size (k+1) w.heap.size≠k):=bR;have HCK:=di (fun bg=>Tw b bg aO aO);generalize AY S l=RR at *;clear p q v s y m Y P;go_enter Tryz.func18,Tryz.ntmps18;go_wp2_with fail;refine afj.o.mono ?_;rintro U e ⟨zB,n,hm⟩;have hs2:=n.size;cases RR with
    | error x=>
     obtain⟨d,f⟩:=x;obtain⟨rfl,hne,u⟩:=hm;simp only at hne;have hen:((d:Int) !=0)=true:=aZ;have c:Hid (R=(rep d f 0 0,S)):=t.o;have o:Below e.heap.size e (e.alloc (.cells #[.int .i64 (d:Int),.int .i64 (f:Int)] 64)):=ag;have h:=di (n.trans (Fr.of_below k n.dJ o));have z:=di (u.below o);have T:=di (h.o.block w.heap.size aO Cf.o);have f0:(e.alloc (.cells #[.int .i64 (d:Int),.int .i64 (f:Int)] 64)).cell? ⟨e.heap.size,0,none⟩=some (.int .i64 (d:Int)):=aP;have f1:(e.alloc (.cells #[.int .i64 (d:Int),.int .i64 (f:Int)] 64)).cell? ⟨e.heap.size,1,none⟩=some (.int .i64 (f:Int)):=aP;clear n u o;go_upto_region 6 with fail
     generalize e.alloc (.cells #[.int .i64 (d:Int),.int .i64 (f:Int)] 64)=wa at *;have a:=Fq.o.of_block T.o;have A:=a.c0;have B:=a.c1;have C:=a.c2;have D:=a.c3;have E:=a.c4;have F:=a.c5;have cf:=a.fr;obtain⟨wz,hwz,G,H,I,J,K,L,i,j⟩:=Dx A B C D E F (.int .i64 (d:Int)) (.int .i64 (f:Int)) (.int .i64 (0:Int)) (.slice none 0 0) (.string ⟨#[]⟩) (.int .i64 (0:Int));have M:=di (Dw Q.o ae aO h.o z.o i j);clear a i j;go_wp2_with fail;refine bodyPost_ret (v:=rep (d:Int) (f:Int) (0:Int) (0:Int)) aiI rfl ?_;exact al9
    | ok r=>
     obtain⟨S',bn⟩:=r;obtain⟨rfl,u⟩:=hm;simp only at u;have o:Below e.heap.size e (e.alloc (.cells #[.int .i64 0,.int .i64 0] 64)):=ag;have h:=di (n.trans (Fr.of_below k n.dJ o));have z:=di (u.below o);have T:=di (h.o.block w.heap.size aO Cf.o);have f0:(e.alloc (.cells #[.int .i64 0,.int .i64 0] 64)).cell? ⟨e.heap.size,0,none⟩=some (.int .i64 0):=aP;clear n u o;go_upto_region 6 with fail
     generalize e.alloc (.cells #[.int .i64 0,.int .i64 0] 64)=wa at *;cases bn
     ·have c:Hid (R=(rep 0 0 0 0,S')):=t.o;have a:=Fq.o.of_block T.o;have A:=a.c0;have B:=a.c1;have C:=a.c2;have D:=a.c3;have E:=a.c4;have F:=a.c5;have cf:=a.fr;obtain⟨wz,hwz,G,H,I,J,K,L,i,j⟩:=Dx A B C D E F (.int .i64 (0:Int)) (.int .i64 (0:Int)) (.int .i64 (0:Int)) (.slice none 0 0) (.string ⟨#[]⟩) (.int .i64 (0:Int));have M:=di (Dw Q.o ae aO h.o z.o i j);clear a i j;go_wp2_with fail;refine bodyPost_ret (v:=rep 0 0 0 0) aiI rfl ?_;exact al9
     ·have c:Hid (R=(rep 0 0 3 (b+1),S')):=t.o;go_wp2_with fail;refine(HCK.o _).mono ?_;rintro U w3 ⟨rfl,hb3⟩;have qw:=di (h.o.trans (Fr.of_below k h.o.dJ hb3));have nV:=di (z.o.below hb3);have agf:=di (qw.o.block w.heap.size aO Cf.o);clear hb3 h z T;simp only[rep];have a:=Fq.o.of_block agf.o;have A:=a.c0;have B:=a.c1;have C:=a.c2;have D:=a.c3;have E:=a.c4;have F:=a.c5;have cf:=a.fr;obtain⟨wz,hwz,G,H,I,J,K,L,i,j⟩:=Dx A B C D E F (.int .i64 (0:Int)) (.int .i64 (0:Int)) (.int .i64 (3:Int)) (.slice none 0 0) (.string ⟨#[]⟩) (.int .i64 (b+1:Int));have M:=di (Dw Q.o ae aO qw.o nV.o i j);clear a i j;go_wp2_with fail;refine bodyPost_ret (v:=rep (0:Int) (0:Int) (3:Int) (b+1:Int)) aiI rfl ?_;exact al9
end Go.Proofs.YtbichedkajfmiaaGreatDoor
