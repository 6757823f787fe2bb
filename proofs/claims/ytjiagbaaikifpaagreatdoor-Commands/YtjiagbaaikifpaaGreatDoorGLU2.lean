import Derived.Test.YtjiagbaaikifpaaGreatDoorGLA0
import Derived.Test.YtjiagbaaikifpaaGreatDoorGLS0
set_option maxRecDepth 100000
set_option maxHeartbeats 16000000
namespace Go.Proofs.YtjiagbaaikifpaaGreatDoor
open Go.RowKit Go.Proofs.Tryz
theorem ast (g:eu)(h a:Nat)(c:List kv)(w:World)(e:xZ w g h c)(j:c.length=a)(s:∀o∈c,vN o)(hmax:a<=65536)(t:gZ w) :
 dH 15 #[.slice g a h,dw 2] w λk J=>k=dF (dw (-1))/\dB w J:=by
 have K:=e.le;have hc2:=e.max;rw[j]at K;have L:=dn j;have M:=dn s;have N:Hid (∀W,dB w W->xZ W g h c):=λW O=>e.same (λP l=>O.block P l);have Q:=dn (xh.zero t);clear e j s t;go_enter func15,ntmps15;go_wp2_with fail
 go_loopw [6] (fun q wr=>∃i:Nat,q=dw i/\i<=a/\xh w wr i) (fun q _=>a-(intOf q).toNat)
 ·exact⟨0,rfl,aR,Q.o⟩
 case round=>
  obtain⟨i,rfl,hi,b⟩:=hrel;have HST:=dn b
  by_cases l:i<a
  ·obtain⟨o,m⟩:∃o,c[i]?=some o:=⟨_,aF (by rw[L.o];exact l)⟩;have n:=b.round (o:=o) aR (M.o o (List.mem_of_getElem? m));have u:=dn n.part;have v:=dn n.step;obtain⟨x,bg,rfl,f⟩:=(N.o wr b.below).get i o m;have R:=dn f;have S:Hid (x<wr.heap.size):=aj f.kind;obtain⟨y,z,A,B,C,D⟩:=id f;obtain⟨T,oa,ob,oc,os,ot⟩:=o;simp only at y z A B C D u v;have hii:(i:Int)<(a:Int):=aR;clear b n m f;go_wp2_with fail;refine u.o.mono ?_;rintro k U ⟨⟨pv,rfl,E,_⟩,p⟩;have hA1:=R.o.same (p.block x S.o);obtain⟨V,X,Y,Z,d4,d5⟩:=id hA1;simp only at V X Y Z d4 d5;have nS:=dn (v.o U p);have HP3:=dn E;clear hA1 p E y z A B C D;go_wp2_with fail;refine nS.o.mono ?_;rintro k w2 ⟨⟨rb,rfl,F⟩,G⟩;have H:=dn (G.looks aR);have Pm:=dn F;clear G F;cases rb with
   | true=>
    exact aqu
   | false=>
    have HV:Hid (pv=16):=by
     by_cases I:T=3
     ·exact HP3.o I
     ·have:=Pm.o I;cases this
    obtain rfl:=HV.o;exact aqu
  ·have HF:=dn b.below;clear b;go_wp2;go_ret;exact⟨rfl,HF.o⟩
theorem ass (b:eu)(c d:Nat)(a:List kv)(w:World)(l:xZ w b c a)(m:a.length=d)(r:∀v∈a,v.s.length<=1000000000000000/\v.t.length<=1000000000000000)(i:∀o∈a,(-9223372036854775808<=o.a/\o.a<=9223372036854775807)/\(-9223372036854775808<=o.b/\o.b<=9223372036854775807)/\(-9223372036854775808<=o.c/\o.c<=9223372036854775807))(n:gZ w) :
 dH 11 #[.slice b d c,dw 2] w λe f=>e=dF (fu)/\dB w f:=by
 have A:=dn (VS b c d a w l m r);have B:Hid (∀W,dB w W->dH 14 #[] W λe f=>e=dF (fu)/\dB W f):=λW j=>XW W (n.fT (λg _ h=>j.block g h))
 have C:Hid (∀W,dB w W->(a.length<=65536/\l8 a<=65536)->dH 15 #[.slice b d c,dw 2] W λe f=>e=dF (dw (-1))/\dB W f):=λW j J=>
  ast b c d a W (l.same (λg h=>j.block g h)) m (λo k=>by
   have K:=SX k;exact⟨(i o k).1,(i o k).2.1,(i o k).2.2,aR,aR⟩) aR (n.fT (λg _ h=>j.block g h))
 clear l m r i n;go_enter func11,ntmps11;go_wp2_with fail;refine A.o.mono ?_;rintro e D ⟨⟨E,rfl,s⟩,t⟩;have p:=dn t.below;have q:=dn s;clear t s;cases E with
 | false=>
  go_wp2;go_ret;exact⟨rfl,p.o⟩
 | true=>
  have F:=dn (B.o D p.o);have G:Hid (a.length<=65536/\l8 a<=65536):=by first|exact q.o rfl|exact q.o|exact q.o trivial
  go_wp2_with fail;refine F.o.dX λu x=>?_;have y:Hid (dB w u):=p.o.dW x;clear x;go_wp2_with fail;refine(C.o u y.o G.o).dX λH z=>?_;have I:Hid (dB w H):=y.o.dW z;clear z;go_wp2;go_ret;exact⟨rfl,I.o⟩
theorem ar5 (b:eu)(c d:Nat)(a:List kv)(w:World)(e:xZ w b c a)(f:a.length=d)(g:∀v∈a,v.s.length<=1000000000000000/\v.t.length<=1000000000000000)(h:∀o∈a,(-9223372036854775808<=o.a/\o.a<=9223372036854775807)/\(-9223372036854775808<=o.b/\o.b<=9223372036854775807)/\(-9223372036854775808<=o.c/\o.c<=9223372036854775807))(i:gZ w) :
 dH 3 #[.slice b d c] w λk l=>k=dF (fu)/\dB w l:=by
 have m:=dn (ass b c d a w e f g h i);clear e f g h i;go_enter func3,ntmps3;go_wp2_with fail;refine m.o.dX λp j=>?_;have n:=dn j;clear j;go_wp2;go_ret;exact⟨rfl,n.o⟩
