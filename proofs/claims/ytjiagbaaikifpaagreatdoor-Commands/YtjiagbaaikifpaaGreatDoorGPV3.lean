import Derived.Test.YtjiagbaaikifpaaGreatDoorGMo12
import Derived.Test.YtjiagbaaikifpaaGreatDoorGPC22
set_option maxRecDepth 100000
set_option maxHeartbeats 16000000
namespace Go.Proofs.YtjiagbaaikifpaaGreatDoor
open Go.RowKit Go.Proofs.Tryz
theorem SB (a k:Nat)(own:Own)(S:Doc.dO)(b:eu)(c n:Nat)(L:List fU)(w:World)(d:dI w own k a S)(e:Doc.iq S)(f:gI w b c L)(g:L.length=n)
 (h:∀x∈L,x.val.length<=1000000/\∀y∈x.args,y.length<=1000000) (i:∀x∈L,-9223372036854775808<=x.sym/\x.sym<=9223372036854775807) :
 dH 46 #[dK a 0,.slice b n c] w λl m=>kL S L l/\dB w m:=by
 have o:=dn (Tt a S b c n L w d.book d.Xc e f g h i);clear d e f g h i;unfold kL at *;generalize (Doc.holds S (fZ L)).1=q at *;generalize (Doc.holds S (fZ L)).2=r at *;go_enter func46,ntmps46;go_wp2_with fail;refine o.o.dX λs j=>?_;have p:=dn j;clear j;go_wp2;go_ret2;exact⟨rfl,p.o⟩
