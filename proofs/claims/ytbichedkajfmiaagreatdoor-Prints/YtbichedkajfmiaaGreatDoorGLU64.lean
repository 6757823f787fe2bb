import Derived.Test.YtbichedkajfmiaaGreatDoorGLA0
import Derived.Test.YtbichedkajfmiaaGreatDoorGLSG
import Derived.Test.YtbichedkajfmiaaGreatDoorC
set_option maxRecDepth 100000
set_option maxHeartbeats 16000000
namespace Go.Proofs.YtbichedkajfmiaaGreatDoor
open Go.RowKit
theorem aar (h:Option Addr)(j a:Nat)(c:List iK)(w:World)(f:kY w h j c)(k:c.length=a)(s:∀o∈c,pX o)(hmax:a<=65536)(t:eU w) :
 Calls Tryz.prog 14 #[.slice h a j,.int .i64 64] w fun e N=>e=.returned (.int .i64 (-1))/\Below w.heap.size w N:=by
 exact akN
theorem ZM (b:Option Addr)(c d:Nat)(a:List iK)(w:World)(m:kY w b c a)(n:a.length=d)(s:∀v∈a,v.s.length<=1000000000000000/\v.t.length<=1000000000000000)(i:∀o∈a,(-9223372036854775808<=o.a/\o.a<=9223372036854775807)/\(-9223372036854775808<=o.b/\o.b<=9223372036854775807)/\(-9223372036854775808<=o.c/\o.c<=9223372036854775807))(p:eU w) :
 Calls Tryz.prog 10 #[.slice b d c,.int .i64 64] w fun e f=>e=.returned (.bool true)/\Below w.heap.size w f:=by
 have A:=di (AV b c d a w m n s);have B:Hid (∀W,Below w.heap.size w W->Calls Tryz.prog 13 #[] W fun e f=>e=.returned (.bool true)/\Below W.heap.size W f):=fun W j=>BF W (p.ed (fun g _ h=>j.block g h))
 have C:Hid (∀W,Below w.heap.size w W->(a.length<=65536/\jq a<=65536)->Calls Tryz.prog 14 #[.slice b d c,.int .i64 64] W fun e f=>e=.returned (.int .i64 (-1))/\Below W.heap.size W f):=fun W j J=>
  aar b c d a W (m.same (fun g h=>j.block g h)) n (fun o k=>by
   have K:=zC k;exact⟨(i o k).1,(i o k).2.1,(i o k).2.2,aO,aO⟩) aO (p.ed (fun g _ h=>j.block g h))
 clear m n s i p;go_enter Tryz.func10,Tryz.ntmps10;go_wp2_with fail;refine A.o.mono ?_;rintro e D ⟨⟨E,rfl,t⟩,u⟩;have l:=di u.below;have q:=di t;clear u t;cases E with
 | false=>
  go_wp2_with fail;go_ret;exact⟨rfl,l.o⟩
 | true=>
  exact ak0
theorem Oy (b:Option Addr)(c d:Nat)(a:List iK)(w:World)(e:kY w b c a)(f:a.length=d)(g:∀v∈a,v.s.length<=1000000000000000/\v.t.length<=1000000000000000)(h:∀o∈a,(-9223372036854775808<=o.a/\o.a<=9223372036854775807)/\(-9223372036854775808<=o.b/\o.b<=9223372036854775807)/\(-9223372036854775808<=o.c/\o.c<=9223372036854775807))(i:eU w) :
 Calls Tryz.prog 4 #[.slice b d c] w fun j l=>j=.returned (.bool true)/\Below w.heap.size w l:=by
 have m:=di (ZM b c d a w e f g h i);clear e f g h i;go_enter Tryz.func4,Tryz.ntmps4;exact alv
end Go.Proofs.YtbichedkajfmiaaGreatDoor
