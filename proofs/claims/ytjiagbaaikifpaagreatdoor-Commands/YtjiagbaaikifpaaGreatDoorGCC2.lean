import Derived.SevenTiedAt
import Derived.Test.YtjiagbaaikifpaaGreatDoorCards
import Derived.Test.YtjiagbaaikifpaaGreatDoorTie
import Derived.Test.YtjiagbaaikifpaaGreatDoorGCF2
import Derived.Test.YtjiagbaaikifpaaGreatDoorGCL0
import Derived.Test.YtjiagbaaikifpaaGreatDoorGLU2
set_option maxRecDepth 100000
set_option maxHeartbeats 16000000
namespace Go.Proofs.YtjiagbaaikifpaaGreatDoor
open Go Go.ChangeShapes Go.WideShapes Go.ChangeAt Go.WideMaps Go.WideElems Go.RowKit Go.Deep Go.Proofs.Tryz
theorem ar2 (a:Os)(r:a.Started)(H:Type)(b:TypeId × Value->H) :
 ReturnsInHanded {} Tryz.checked a 3 .any (λw c=>(Rows.commandsSpec.pre b prog f3 [] false w c/\laidMetH prog laidAll w)/\sizedMet b prog f3 (OpenSpec.ofChange Rows.commandsSpec) false w c)
  (Rows.commandsSpec.post b prog f3 false true false false):=by
 refine returnsInHanded_of_change_and (C:=Tryz.checked) (X:=λw _=>laidMetH prog laidAll w) (λ_ _ _ s h=>h.of_heap s) own r bR func3
  (ChangeSpec.witness_shaped (enc:=b) (C:=Tryz.checked) (os:=a) (X:=λw _=>laidMetH prog laidAll w) false (World.doorLaid prog 400 a) #[dE] 8 rfl (World.shaped_of_RefB bR bR) bR bR bR (aaP a _)) ?_
 intro W u c e x P f g _ i y _;have j:∀(k:Nat) t v,f3.params[k]?=some t->c[k]?=some v->Value.okWide prog W .any u t v:=f;have z:=g;obtain⟨p,Q,hA0,A,rfl,R,S⟩:=g;have l:DataW.TrodAll b prog W 0 (λ_=>true) true f3.params.toList c.toList e p:=hA0;have m:(DataW.weightsEach prog (f3.params.toList++Rows.commandsSpec.plain.varTypes prog) (e++x)).all (·<=reachBytes)=true:=i;rw[params3]at l j m;obtain⟨B,T,rfl,rfl,n⟩:=trodAll_one l;obtain⟨rfl,rfl⟩:=trodVars_none A;have o:=n;have C:∀D∈p,D.block<W.heap.size:=by obtain⟨E,F⟩:=o;exact DataW.trod_lt E _ _ _ F
 obtain⟨G,I,d,rfl,J,K,L⟩:=Qu (j 0 22 B rfl rfl) n;have M:∀v∈d,v.s.length<=1000000000000000/\v.t.length<=1000000000000000:=VV L m;have N:=Oj y;clear hA0 f i;refine(ar5 G I d.length d W J rfl M K N).mono λU V ⟨O,q⟩=>?_;subst O;exact⟨_,rfl,_,_,_,[],p,[],z,trodAll_mk1 (shut_bool underlying4 _),trodAll_mk1 (Below.trod laidOut bR (of_decide_eq_true bR) o q C),rfl,q.frame _,λh=>an3⟩
theorem ar9:Rows.CommandsSaid:=
 OpenClaim.holds_of_wide 3 f3 rfl rfl rfl rfl rfl rfl rfl ⟨rfl,rfl,rfl,rfl,rfl⟩ rfl rfl rfl rfl rfl ar6 func3 ar3
  (of_decide_eq_true bR) ar4
  (λa b H c _=>ar2 a b H c)
theorem commands_holds:Rows.CommandsCardSaid:=
 Claim7.holds_tied_plain_at .later [] [.data, .data, .data, .data] true (true, "d9489a981beee1d233ac6c45d5d1fb07b6e85f388eed2e0625670c6fd0a3f9a5") false
  ar9 (λ_ h=>an3) aoI (λ_ h=>an3) commands_row_tie rfl ⟨rfl,rfl⟩ aoI rfl
  (λf b c d=>by
   obtain rfl : f = 3 := Option.some.inj ((show prog.funcNamed "reason/reasonlaw.Commands" = some 3 by kernel_rfl).symm.trans c) |>.symm;obtain rfl:b=f3:=(Option.some.inj (func3.symm.trans d)).symm
   exact⟨bR,λj t a=>by
    rw[params3]at a;have e:t∈[22]:=by simpa using Array.mem_of_getElem? a
    have g:([22].all λu=>!prog.wantsStandIn u)=true:=bR;exact(show prog.wantsStandIn t=false by simpa using List.all_eq_true.1 g t e)⟩)
  aoI
#print axioms commands_holds
