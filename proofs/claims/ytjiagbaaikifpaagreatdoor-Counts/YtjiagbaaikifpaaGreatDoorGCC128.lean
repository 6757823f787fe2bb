import Derived.SevenTiedAt
import Derived.Test.YtjiagbaaikifpaaGreatDoorCards
import Derived.Test.YtjiagbaaikifpaaGreatDoorTie
import Derived.Test.YtjiagbaaikifpaaGreatDoorGCF128
import Derived.Test.YtjiagbaaikifpaaGreatDoorGCL0
import Derived.Test.YtjiagbaaikifpaaGreatDoorGLU128
set_option maxRecDepth 100000
set_option maxHeartbeats 16000000
namespace Go.Proofs.YtjiagbaaikifpaaGreatDoor
open Go Go.ChangeShapes Go.WideShapes Go.ChangeAt Go.WideMaps Go.WideElems Go.RowKit Go.Deep Go.Proofs.Tryz
theorem ar8 (a:Os)(r:a.Started)(H:Type)(b:TypeId × Value->H) :
 ReturnsInHanded {} Tryz.checked a 5 .any (λw c=>(Rows.countsSpec.pre b prog f5 [] false w c/\laidMetH prog laidAll w)/\sizedMet b prog f5 (OpenSpec.ofChange Rows.countsSpec) false w c)
  (Rows.countsSpec.post b prog f5 false true false false):=by
 refine returnsInHanded_of_change_and (C:=Tryz.checked) (X:=λw _=>laidMetH prog laidAll w) (λ_ _ _ s h=>h.of_heap s) own r bR func5
  (ChangeSpec.witness_shaped (enc:=b) (C:=Tryz.checked) (os:=a) (X:=λw _=>laidMetH prog laidAll w) false (World.doorLaid prog 400 a) #[dE] 8 rfl (World.shaped_of_RefB bR bR) bR bR bR (aaP a _)) ?_
 intro W u c e x P f g _ i y _;have j:∀(k:Nat) t v,f5.params[k]?=some t->c[k]?=some v->Value.okWide prog W .any u t v:=f;have z:=g;obtain⟨p,Q,hA0,A,rfl,R,S⟩:=g;have l:DataW.TrodAll b prog W 0 (λ_=>true) true f5.params.toList c.toList e p:=hA0;have m:(DataW.weightsEach prog (f5.params.toList++Rows.countsSpec.plain.varTypes prog) (e++x)).all (·<=reachBytes)=true:=i;rw[params5]at l j m;obtain⟨B,T,rfl,rfl,n⟩:=trodAll_one l;obtain⟨rfl,rfl⟩:=trodVars_none A;have o:=n;have C:∀D∈p,D.block<W.heap.size:=by obtain⟨E,F⟩:=o;exact DataW.trod_lt E _ _ _ F
 obtain⟨G,I,d,rfl,J,K,L⟩:=Qu (j 0 22 B rfl rfl) n;have M:∀v∈d,v.s.length<=1000000000000000/\v.t.length<=1000000000000000:=VV L m;have N:=Oj y;clear hA0 f i;refine(asg G I d.length d W J rfl M K N).mono λU V ⟨O,q⟩=>?_;subst O;exact⟨_,rfl,_,_,_,[],p,[],z,trodAll_mk1 (shut_bool underlying4 _),trodAll_mk1 (Below.trod laidOut bR (of_decide_eq_true bR) o q C),rfl,q.frame _,λh=>an3⟩
theorem asl:Rows.CountsSaid:=
 OpenClaim.holds_of_wide 5 f5 rfl rfl rfl rfl rfl rfl rfl ⟨rfl,rfl,rfl,rfl,rfl⟩ rfl rfl rfl rfl rfl asi func5 asb
  (of_decide_eq_true bR) ase
  (λa b H c _=>ar8 a b H c)
theorem counts_holds:Rows.CountsCardSaid:=
 Claim7.holds_tied_plain_at .later [] [.data, .data, .data, .data] true (true, "d9489a981beee1d233ac6c45d5d1fb07b6e85f388eed2e0625670c6fd0a3f9a5") false
  asl (λ_ h=>an3) aoI (λ_ h=>an3) counts_row_tie rfl ⟨rfl,rfl⟩ aoI rfl
  (λf b c d=>by
   obtain rfl : f = 5 := Option.some.inj ((show prog.funcNamed "reason/reasonlaw.Counts" = some 5 by kernel_rfl).symm.trans c) |>.symm;obtain rfl:b=f5:=(Option.some.inj (func5.symm.trans d)).symm
   exact⟨bR,λj t a=>by
    rw[params5]at a;have e:t∈[22]:=by simpa using Array.mem_of_getElem? a
    have g:([22].all λu=>!prog.wantsStandIn u)=true:=bR;exact(show prog.wantsStandIn t=false by simpa using List.all_eq_true.1 g t e)⟩)
  aoI
#print axioms counts_holds
