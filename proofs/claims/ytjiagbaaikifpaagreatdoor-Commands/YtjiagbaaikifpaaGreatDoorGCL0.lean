import Derived.ChangeOld
import Derived.Deep.Slices
import Derived.LaidMore
import Derived.Lib.LaidTab
import Derived.OpenShut
import Derived.ProofKit
import Derived.ShutString
import Derived.Stop.Joined
import Derived.Stop.LaidErr
import Derived.Test.YtjiagbaaikifpaaGreatDoorRows
import Derived.Test.YtjiagbaaikifpaaGreatDoorGLW4
set_option maxRecDepth 100000
set_option maxHeartbeats 16000000
namespace Go.Proofs.YtjiagbaaikifpaaGreatDoor
open Go.ChangeShapes Go.WideShapes Go.ChangeAt Go.WideMaps Go.WideElems Go.RowKit Go.Deep Go.Proofs.Tryz
variable {E e:TypeId}{b:List Value}{k m n:Nat}{v:Value}{w:World}
theorem Tryz.adR:prog.cellsOf 33=6:=bR
theorem Tryz.XI:prog.cellsOf 3=1:=bR
theorem Tryz.KO:prog.cellsOf 9=1:=bR
def yJ {H:Type}(v:kv):DataW H:=.agg [.lit (.int .i64 v.kind),.lit (.int .i64 v.a),.lit (.int .i64 v.b),.lit (.int .i64 v.c),.lit (.string v.s),.lit (.string v.t)]
def abu (o:kv):Prop:=(-9223372036854775808<=o.a/\o.a<=9223372036854775807)/\(-9223372036854775808<=o.b/\o.b<=9223372036854775807)/\(-9223372036854775808<=o.c/\o.c<=9223372036854775807)
theorem adp {H:Type}{q:TypeId × Value->H}{r:Nat->Bool}{held:Bool}{x:DataW H × List MemPlace}(s:DataW.trod q prog w n r held m 33 b=some x)(t:b.length=6) :
 ∃v:kv,b=[dw v.kind,dw v.a,dw v.b,dw v.c,dD v.s,dD v.t]/\x.1=yJ v/\abu v:=by
 obtain⟨u,Q,R,y,_,z,a⟩:=DataW.trod_struct underlying33 s
 match u,z,b,t with
 | [S,T,U,V,W,X],_,[Y,Z,v2,v3,v4,v5],_=>
  have c:=a 0 _ rfl;have d:=a 1 _ rfl;have e:=a 2 _ rfl;have f:=a 3 _ rfl;have g:=a 4 _ rfl;have h:=a 5 _ rfl;simp[Tryz.XI,Tryz.KO]at c d e f g h;obtain⟨A,i,B,w0⟩:=DataW.trod_int underlying3 c;obtain⟨C,j,D,E⟩:=DataW.trod_int underlying3 d;obtain⟨F,k,G,I⟩:=DataW.trod_int underlying3 e;obtain⟨J,l,K,L⟩:=DataW.trod_int underlying3 f;obtain⟨M,o,N,w4⟩:=DataW.trod_string underlying9 g;obtain⟨O,p,P,w5⟩:=DataW.trod_string underlying9 h;simp at i j k l o p;refine⟨⟨A,C,F,J,M.data.toList,O.data.toList⟩,?_,?_,bounds_i64 E,bounds_i64 I,bounds_i64 L⟩
  ·rw[i,j,k,l,o,p]
  ·rw[y,B,D,G,K,N,P];rfl
theorem Qu {H:Type}{y:TypeId × Value->H}{m:DataW H}{z:List MemPlace}(a:Value.okWide prog w .any n 22 v)(A:DataW.Trod y prog w 0 (λ_=>true) true 22 v m z) :
 ∃(p:eu) (h:Nat) (b:List kv),v=.slice p b.length h/\xZ w p h b/\(∀o∈b,abu o)/\(b=[]\/∃rest,m=.slice (b.map yJ) rest):=by
 obtain⟨X,k,B,rfl⟩:=okWide_slice underlying22 a;obtain⟨Y,C⟩:=A;rcases open_slice underlying22 C with ⟨c,_⟩|⟨l,len,h,E,Z,D,Pl,c,hb,F,G,I,J,K⟩
 ·simp[Value.cells]at c;obtain⟨rfl,rfl,rfl⟩:=c;exact⟨none,0,[],rfl,⟨ae,aR,λi v a=>by simp at a⟩,aW,.inl rfl⟩
 ·simp[Value.cells]at c;obtain⟨rfl,rfl,rfl⟩:=c;have hlm:k<=E:=by rw[I];split<;>omega
  have L:∀i,i<k->∃o:kv,(∀j u,[Value.int .i64 o.kind,dw o.a,dw o.b,dw o.c,dD o.s,dD o.t][j]?=some u->w.cell? (l.add (i*6+j))=some u)/\D i=yJ o/\abu o:=by
   intro i hi;obtain⟨cs',q,M⟩:=K i aR;rw[Tryz.adR]at q;obtain⟨_,N,O⟩:=World.cells?_some q;obtain⟨o,P,Q,R⟩:=adp M N;refine⟨o,λj u d=>?_,Q,R⟩
   have S:j<6:=by
    have:=(aG d).1;simpa using this
   have:=O j S;rw[add_add,P,d]at this;exact this
  haveI:Inhabited kv:=⟨⟨0,0,0,0,[],[]⟩⟩;obtain⟨f,hF⟩:=choose_lt L;refine⟨some l,B,(List.range k).map f,aW,⟨by simpa using F,by unfold maxLen at G;omega,λi v a=>?_⟩,λo r=>?_,?_⟩
  ·obtain⟨hi,s⟩:=aG a;simp at hi s;subst s;have T:=(hF i hi).1;obtain⟨t,g,U⟩:=l;have V:U=none:=by simpa[Addr.add] using World.cell?_spot ((hF 0 aR).1 0 _ rfl)
   subst V;refine⟨t,g,rfl,?_⟩
   have e:∀j u,[Value.int .i64 (f i).kind,dw (f i).a,dw (f i).b,dw (f i).c,dD (f i).s,dD (f i).t][j]?=some u->w.cell? (dA t (g+i*6+j))=some u:=λj u d=>by
    have:=T j u d;rw[Go.WideShapes.add_plain]at this;rw[show g+i*6+j=g+(i*6+j) by omega];exact this
   exact⟨e 0 _ rfl,e 1 _ rfl,e 2 _ rfl,e 3 _ rfl,e 4 _ rfl,e 5 _ rfl⟩
  ·simp at r;obtain⟨i,hi,rfl⟩:=r;exact(hF i hi).2.2
  ·right
   have x:=congrArg Prod.fst J;simp only at x;refine⟨_,x.trans (congrArg (λW=>DataW.slice W _) ?_)⟩;rw[List.map_map];exact List.map_congr_left λi hi=>(hF i di).2.1
theorem Fg {H:Type}{R:Nat}:∀(c:List kv) (o:kv),o∈c->(∀x∈DataW.weightsAll (H:=H) prog 33 (c.map yJ),x<=R)->o.s.length<=R/\o.t.length<=R
 | [],o,a,_=>by simp at a
 | q::c,o,a,d=>by
  rw[List.map_cons,DataW.weightsAll]at d;rcases List.mem_cons.1 a with rfl|a
  ·have b:∀x∈DataW.weights (H:=H) prog 33 (yJ o),x<=R:=λx e=>d x (List.mem_append_left _ e);unfold yJ DataW.weights at b;rw[underlying33]at b;simp only[List.map_cons,List.map_nil,DataW.weightsEach,DataW.weights]at b;simp at b;exact b
  ·exact Fg c o a (λx e=>d x (List.mem_append_right _ e))
theorem VV {H:Type}{d:DataW H}{a:List kv}(c:a=[]\/∃rest,d=.slice (a.map yJ) rest)(h:(DataW.weightsEach prog [22] [d]).all (·<=reachBytes)=true):∀v∈a,v.s.length<=1000000000000000/\v.t.length<=1000000000000000:=by
 intro v b;rcases c with rfl|⟨rest,rfl⟩
 ·simp at b
 ·rw[List.all_eq_true]at h;simp only[DataW.weightsEach,List.append_nil]at h;unfold DataW.weights at h;rw[underlying22]at h;simp only at h
  have:=Fg (H:=H) (R:=reachBytes) a v b (λx e=>by
   have:=h x (List.mem_cons_of_mem _ (List.mem_append_left _ e));simpa using this)
  unfold reachBytes at this;exact aR
theorem Tryz.afF : prog.globalNamed "reason/stack.operatorNames" = some 0 := by kernel_rfl
theorem Tryz.ahx:(prog.globals[0]?).map (·.type)=some 292:=bR
theorem Tryz.ahw:(prog.globals[1]?).map (·.type)=some 345:=bR
theorem Tryz.aaZ:prog.cellsOf 292=15:=bR
theorem Tryz.aaY:prog.cellsOf 345=20:=bR
theorem Tryz.aaX:prog.cellsOf 339=1:=bR
def laidAll : List (String × DataW Unit) := [("math/bits.deBruijn32tab", Rows.laid_math_bits_deBruijn32tab), ("math/bits.deBruijn64tab", Rows.laid_math_bits_deBruijn64tab), ("internal/strconv.uint64pow10", Rows.laid_internal_strconv_uint64pow10), ("reason/stack.operatorNames", Rows.laid_reason_stack_operatorNames)]
theorem Li {H:Type}{l:TypeId × Value->H}{o:Nat->Bool}{held:Bool}{xs:List (dN)}{p:List MemPlace}
 (q:prog.underlying e=some (.array k E)) (r:prog.underlying E=some .string) (t:prog.cellsOf E=1) (u:prog.cellsOf e=k)
 (v:DataW.trod l prog w n o held m e b=some (.agg (xs.map λs=>.lit (.string s)),p)):b=xs.map eO:=by
 obtain⟨f,F,_,a,g,x,z⟩:=DataW.trod_array q v;simp only[Prod.mk.injEq,DataW.agg.injEq]at a
 have A:xs.length=k:=by
  have:=congrArg List.length a.1;simpa[x] using this
 rw[u]at g;refine List.ext_getElem (by simp[g,A]) λi B G=>?_;have hi:i<k:=aR;have c:=z i hi;rw[t,Nat.mul_one]at c;obtain⟨y,h⟩:∃y,f[i]?=some y:=⟨_,aF aR⟩;rw[h]at c;obtain⟨s,j,C,_⟩:=DataW.trod_string r c;have d:(xs.map λs=>(DataW.lit (.string s):DataW H))[i]?=(f.map (·.1))[i]?:=by rw[a.1]
 rw[List.getElem?_map,List.getElem?_map,h,aF aR,C]at d;simp at d
 have D:b[i]=.string s:=by
  have:(b.drop i).take 1=[b[i]]:=by
   rw[List.take_one,List.head?_drop,aF B];rfl
  rw[this]at j;simpa using j
 rw[D,List.getElem_map,d];rfl
theorem Oj (h:laidMetH prog laidAll w):gZ w:=by
 rw[MakeChecks.laidMetH_plain _ _ _ bR]at h;unfold laidAll at h;have b:=h.tail.tail;have c:=b.tail;refine⟨?_,Lib.tabIs_of_head Tryz.JF Tryz.ahw underlying345 underlying339 Tryz.aaX Tryz.aaY (zs:=Lib.pow10Tab) b⟩;obtain⟨j,⟨k,l,m,n,o,p,d,e,a,f,_,_⟩,_⟩:=c;obtain rfl:=Option.some.inj (Tryz.afF.symm.trans d);obtain rfl:=Option.some.inj (Tryz.ahx.symm.trans e);have g:=Li (xs:=Doc.gX) underlying292 underlying9 Tryz.KO Tryz.aaZ f;unfold World.var? at a;rw[Tryz.afF]at a;simp only[Option.bind_some]at a;split at a
 ·rename_i q t fr i;injection a with a;subst a;exact⟨t,fr,by rw[i,<-g]⟩
 ·cases a
theorem own:ownKnob prog.godebug=none:=bR
theorem laidOut:laidOutB prog=true:=bR
theorem aaP (a:Os)(b:Array Value):laidMetH prog laidAll ((World.doorLaid prog 400 a).forCall (λ_ _=>0) ⟨#[],b,[]⟩).memory:=
 laidMetH_of_parts3 (fuel:=8) (laidMet_of_run' 8 bR bR) bR bR
