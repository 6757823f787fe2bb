import Derived.SevenTiedAt
import Derived.Test.YtjiagbaaikifpaaGreatDoorCards
import Derived.Test.YtjiagbaaikifpaaGreatDoorTie
import Derived.Test.YtjiagbaaikifpaaGreatDoorGCF64
import Derived.Test.YtjiagbaaikifpaaGreatDoorGCL0
import Derived.Test.YtjiagbaaikifpaaGreatDoorGLU64
set_option maxRecDepth 100000
set_option maxHeartbeats 16000000
namespace Go.Proofs.YtjiagbaaikifpaaGreatDoor
open Go Go.ChangeShapes Go.WideShapes Go.ChangeAt Go.WideMaps Go.WideElems Go.RowKit Go.Deep Go.Proofs.Tryz
theorem ar7 (a:Os)(r:a.Started)(H:Type)(b:TypeId × Value->H) :
 ReturnsInHanded {} Tryz.checked a 4 .any (λw c=>(Rows.printsSpec.pre b prog f4 [] false w c/\laidMetH prog laidAll w)/\sizedMet b prog f4 (OpenSpec.ofChange Rows.printsSpec) false w c)
  (Rows.printsSpec.post b prog f4 false true false false):=by
 refine returnsInHanded_of_change_and (C:=Tryz.checked) (X:=λw _=>laidMetH prog laidAll w) (λ_ _ _ s h=>h.of_heap s) own r bR func4
  (ChangeSpec.witness_shaped (enc:=b) (C:=Tryz.checked) (os:=a) (X:=λw _=>laidMetH prog laidAll w) false (World.doorLaid prog 400 a) #[dE] 8 rfl (World.shaped_of_RefB bR bR) bR bR bR (aaP a _)) ?_
 intro W u c e x P f g _ i y _;have j:∀(k:Nat) t v,f4.params[k]?=some t->c[k]?=some v->Value.okWide prog W .any u t v:=f;have z:=g;obtain⟨p,Q,hA0,A,rfl,R,S⟩:=g;have l:DataW.TrodAll b prog W 0 (λ_=>true) true f4.params.toList c.toList e p:=hA0;have m:(DataW.weightsEach prog (f4.params.toList++Rows.printsSpec.plain.varTypes prog) (e++x)).all (·<=reachBytes)=true:=i;rw[params4]at l j m;obtain⟨B,T,rfl,rfl,n⟩:=trodAll_one l;obtain⟨rfl,rfl⟩:=trodVars_none A;have o:=n;have C:∀D∈p,D.block<W.heap.size:=by obtain⟨E,F⟩:=o;exact DataW.trod_lt E _ _ _ F
 obtain⟨G,I,d,rfl,J,K,L⟩:=Qu (j 0 22 B rfl rfl) n;have M:∀v∈d,v.s.length<=1000000000000000/\v.t.length<=1000000000000000:=VV L m;have N:=Oj y;clear hA0 f i;refine(asf G I d.length d W J rfl M K N).mono λU V ⟨O,q⟩=>?_;subst O;exact⟨_,rfl,_,_,_,[],p,[],z,trodAll_mk1 (shut_bool underlying4 _),trodAll_mk1 (Below.trod laidOut bR (of_decide_eq_true bR) o q C),rfl,q.frame _,λh=>an3⟩
theorem asj:Rows.PrintsSaid:=
 OpenClaim.holds_of_wide 4 f4 rfl rfl rfl rfl rfl rfl rfl ⟨rfl,rfl,rfl,rfl,rfl⟩ rfl rfl rfl rfl rfl ash func4 asa
  (of_decide_eq_true bR) asc
  (λa b H c _=>ar7 a b H c)
theorem prints_holds:Rows.PrintsCardSaid:=
 Claim7.holds_tied_plain_at .later [] [.data, .data, .data, .data] true (true, "d9489a981beee1d233ac6c45d5d1fb07b6e85f388eed2e0625670c6fd0a3f9a5") false
  asj (λ_ h=>an3) aoI (λ_ h=>an3) prints_row_tie rfl ⟨rfl,rfl⟩ aoI rfl
  (λf b c d=>by
   obtain rfl : f = 4 := Option.some.inj ((show prog.funcNamed "reason/reasonlaw.Prints" = some 4 by kernel_rfl).symm.trans c) |>.symm;obtain rfl:b=f4:=(Option.some.inj (func4.symm.trans d)).symm
   exact⟨bR,λj t a=>by
    rw[params4]at a;have e:t∈[22]:=by simpa using Array.mem_of_getElem? a
    have g:([22].all λu=>!prog.wantsStandIn u)=true:=bR;exact(show prog.wantsStandIn t=false by simpa using List.all_eq_true.1 g t e)⟩)
  aoI
#print axioms prints_holds
