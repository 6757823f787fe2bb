import Derived.SevenTiedAt
import Derived.Test.YtbichedkajfmiaaGreatDoorCards
import Derived.Test.YtbichedkajfmiaaGreatDoorTie
import Derived.Test.YtbichedkajfmiaaGreatDoorGCF128
import Derived.Test.YtbichedkajfmiaaGreatDoorGCL0
import Derived.Test.YtbichedkajfmiaaGreatDoorGLU128
import Derived.Test.YtbichedkajfmiaaGreatDoorC
set_option maxRecDepth 100000
set_option maxHeartbeats 16000000
namespace Go.Proofs.YtbichedkajfmiaaGreatDoor
open Go Go.ChangeShapes Go.WideShapes Go.ChangeAt Go.WideMaps Go.WideElems Go.RowKit Go.Deep
theorem J9 (a:Os)(r:a.Started)(H:Type)(b:TypeId × Value->H) :
 ReturnsInHanded {} Tryz.checked a 5 .any (fun w c=>(Rows.countsSpec.pre b Tryz.prog Tryz.f5 [] false w c/\laidMetH Tryz.prog laidAll w)/\sizedMet b Tryz.prog Tryz.f5 (OpenSpec.ofChange Rows.countsSpec) false w c)
  (Rows.countsSpec.post b Tryz.prog Tryz.f5 false true false false):=by
 refine returnsInHanded_of_change_and (C:=Tryz.checked) (X:=fun w _=>laidMetH Tryz.prog laidAll w) (fun _ _ _ s h=>h.of_heap s) own r bL Tryz.func5
  (ChangeSpec.witness_shaped (enc:=b) (C:=Tryz.checked) (os:=a) (X:=fun w _=>laidMetH Tryz.prog laidAll w) false (World.doorLaid Tryz.prog 400 a) #[.slice none 0 0] 8 rfl (World.shaped_of_RefB bL bL) bL bL bL (DW a _)) ?_
 intro W u c e x P f g _ i y _;have j:∀(k:Nat) t v,Tryz.f5.params[k]?=some t->c[k]?=some v->Value.okWide Tryz.prog W .any u t v:=f;have z:=g;obtain⟨p,Q,He,A,rfl,R,S⟩:=g;have l:DataW.TrodAll b Tryz.prog W 0 (fun _=>true) true Tryz.f5.params.toList c.toList e p:=He;have m:(DataW.weightsEach Tryz.prog (Tryz.f5.params.toList++Rows.countsSpec.plain.varTypes Tryz.prog) (e++x)).all (·<=reachBytes)=true:=i;rw[Tryz.params5]at l j m;obtain⟨B,T,rfl,rfl,n⟩:=trodAll_one l;obtain⟨rfl,rfl⟩:=trodVars_none A;have o:=n;have C:∀D∈p,D.block<W.heap.size:=ajf;obtain⟨G,I,d,rfl,J,K,L⟩:=xN (j 0 22 B rfl rfl) n;have M:∀v∈d,v.s.length<=1000000000000000/\v.t.length<=1000000000000000:=AX L m;have N:=wh y;clear He f i;refine(Oz G I d.length d W J rfl M K N).mono fun U V ⟨O,q⟩=>?_;exact alh
theorem RL:Rows.CountsSaid:=
 OpenClaim.holds_of_wide 5 Tryz.f5 rfl rfl rfl rfl rfl rfl rfl ⟨rfl,rfl,rfl,rfl,rfl⟩ rfl rfl rfl rfl rfl Pp Tryz.func5 M6
  (of_decide_eq_true bL) Ow
  (fun a b H c _=>J9 a b H c)
theorem counts_holds:Rows.CountsCardSaid:=
 Claim7.holds_tied_plain_at .later [] [.data, .data, .data, .data] true (true, "dfad4c1ef9438703cf78ec9377339bae4a4e855b311da182266303d224612148") false
  RL (fun _ h=>aiG) ah1 (fun _ h=>aiG) counts_row_tie rfl ⟨rfl,rfl⟩ ah1 rfl
  (fun f b c d=>by
   obtain rfl : f = 5 := Option.some.inj ((show Tryz.prog.funcNamed "reason/reasonlaw.Counts" = some 5 by kernel_rfl).symm.trans c) |>.symm;obtain rfl:b=Tryz.f5:=(Option.some.inj (Tryz.func5.symm.trans d)).symm
   exact⟨bL,fun j t a=>by
    rw[Tryz.params5]at a;have e:t∈[22]:=ajD;have g:([22].all fun u=>!Tryz.prog.wantsStandIn u)=true:=bL;exact(show Tryz.prog.wantsStandIn t=false by simpa using List.all_eq_true.1 g t e)⟩)
  ah1
#print axioms counts_holds
end Go.Proofs.YtbichedkajfmiaaGreatDoor
