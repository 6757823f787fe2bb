import Derived.SevenTiedAt
import Derived.Test.YtjiagbaaikifpaaGreatDoorCards
import Derived.Test.YtjiagbaaikifpaaGreatDoorTie
import Derived.Test.YtjiagbaaikifpaaGreatDoorGCF32
import Derived.Test.YtjiagbaaikifpaaGreatDoorGCL0
import Derived.Test.YtjiagbaaikifpaaGreatDoorGLU32
set_option maxRecDepth 100000
set_option maxHeartbeats 16000000
namespace Go.Proofs.YtjiagbaaikifpaaGreatDoor
open Go Go.ChangeShapes Go.WideShapes Go.ChangeAt Go.WideMaps Go.WideElems Go.RowKit Go.Deep Go.Proofs.Tryz
theorem QB (a:Os)(r:a.Started)(H:Type)(b:TypeId × Value->H) :
 ReturnsInHanded {} Tryz.checked a 6 .any (λw c=>(Rows.holdsSpec.pre b prog f6 [] false w c/\laidMetH prog laidAll w)/\sizedMet b prog f6 (OpenSpec.ofChange Rows.holdsSpec) false w c)
  (Rows.holdsSpec.post b prog f6 false true false false):=by
 refine returnsInHanded_of_change_and (C:=Tryz.checked) (X:=λw _=>laidMetH prog laidAll w) (λ_ _ _ s h=>h.of_heap s) own r bR func6
  (ChangeSpec.witness_shaped (enc:=b) (C:=Tryz.checked) (os:=a) (X:=λw _=>laidMetH prog laidAll w) false (World.doorLaid prog 400 a) #[dE] 8 rfl (World.shaped_of_RefB bR bR) bR bR bR (aaP a _)) ?_
 intro W u c e x P f g _ i y _;have j:∀(k:Nat) t v,f6.params[k]?=some t->c[k]?=some v->Value.okWide prog W .any u t v:=f;have z:=g;obtain⟨p,Q,hA0,A,rfl,R,S⟩:=g;have l:DataW.TrodAll b prog W 0 (λ_=>true) true f6.params.toList c.toList e p:=hA0;have m:(DataW.weightsEach prog (f6.params.toList++Rows.holdsSpec.plain.varTypes prog) (e++x)).all (·<=reachBytes)=true:=i;rw[params6]at l j m;obtain⟨B,T,rfl,rfl,n⟩:=trodAll_one l;obtain⟨rfl,rfl⟩:=trodVars_none A;have o:=n;have C:∀D∈p,D.block<W.heap.size:=by obtain⟨E,F⟩:=o;exact DataW.trod_lt E _ _ _ F
 obtain⟨G,I,d,rfl,J,K,L⟩:=Qu (j 0 22 B rfl rfl) n;have M:∀v∈d,v.s.length<=1000000000000000/\v.t.length<=1000000000000000:=VV L m;have N:=Oj y;clear hA0 f i;refine(Vq G I d.length d W J rfl M K N).mono λU V ⟨O,q⟩=>?_;subst O;exact⟨_,rfl,_,_,_,[],p,[],z,trodAll_mk1 (shut_bool underlying4 _),trodAll_mk1 (Below.trod laidOut bR (of_decide_eq_true bR) o q C),rfl,q.frame _,λh=>an3⟩
theorem Zl:Rows.HoldsSaid:=
 OpenClaim.holds_of_wide 6 f6 rfl rfl rfl rfl rfl rfl rfl ⟨rfl,rfl,rfl,rfl,rfl⟩ rfl rfl rfl rfl rfl WB func6 Uo
  (of_decide_eq_true bR) Vo
  (λa b H c _=>QB a b H c)
theorem holds_holds:Rows.HoldsCardSaid:=
 Claim7.holds_tied_plain_at .later [] [.data, .data, .data, .data] true (true, "d9489a981beee1d233ac6c45d5d1fb07b6e85f388eed2e0625670c6fd0a3f9a5") false
  Zl (λ_ h=>an3) aoI (λ_ h=>an3) holds_row_tie rfl ⟨rfl,rfl⟩ aoI rfl
  (λf b c d=>by
   obtain rfl : f = 6 := Option.some.inj ((show prog.funcNamed "reason/reasonlaw.Holds" = some 6 by kernel_rfl).symm.trans c) |>.symm;obtain rfl:b=f6:=(Option.some.inj (func6.symm.trans d)).symm
   exact⟨bR,λj t a=>by
    rw[params6]at a;have e:t∈[22]:=by simpa using Array.mem_of_getElem? a
    have g:([22].all λu=>!prog.wantsStandIn u)=true:=bR;exact(show prog.wantsStandIn t=false by simpa using List.all_eq_true.1 g t e)⟩)
  aoI
#print axioms holds_holds
