import Derived.ChangeOld
import Derived.Deep.Slices
import Derived.LaidMore
import Derived.Lib.LaidTab
import Derived.OpenShut
import Derived.ProofKit
import Derived.ShutString
import Derived.Stop.Joined
import Derived.Stop.LaidErr
import Derived.Test.YtbichedkajfmiaaGreatDoorRows
import Derived.Test.YtbichedkajfmiaaGreatDoorGLW13
import Derived.Test.YtbichedkajfmiaaGreatDoorC
set_option maxRecDepth 100000
set_option maxHeartbeats 16000000
namespace Go.Proofs.YtbichedkajfmiaaGreatDoor
open Go.ChangeShapes Go.WideShapes Go.ChangeAt Go.WideMaps Go.WideElems Go.RowKit Go.Deep
variable {E e:TypeId}{b:List Value}{k m n:Nat}{v:Value}{w:World}
theorem Tryz.aab:Tryz.prog.cellsOf 33=6:=bL
theorem Tryz.Tx:Tryz.prog.cellsOf 3=1:=bL
theorem Tryz.Hr:Tryz.prog.cellsOf 9=1:=bL
def vU {H:Type}(v:iK):DataW H:=.agg [.lit (.int .i64 v.kind),.lit (.int .i64 v.a),.lit (.int .i64 v.b),.lit (.int .i64 v.c),.lit (.string v.s),.lit (.string v.t)]
def Xn (o:iK):Prop:=(-9223372036854775808<=o.a/\o.a<=9223372036854775807)/\(-9223372036854775808<=o.b/\o.b<=9223372036854775807)/\(-9223372036854775808<=o.c/\o.c<=9223372036854775807)
theorem ZO {H:Type}{q:TypeId × Value->H}{r:Nat->Bool}{held:Bool}{x:DataW H × List MemPlace}(s:DataW.trod q Tryz.prog w n r held m 33 b=some x)(t:b.length=6) :
 ∃v:iK,b=[.int .i64 v.kind,.int .i64 v.a,.int .i64 v.b,.int .i64 v.c,.string ⟨v.s.toArray⟩,.string ⟨v.t.toArray⟩]/\x.1=vU v/\Xn v:=by
 obtain⟨u,Q,R,y,_,z,a⟩:=DataW.trod_struct Tryz.underlying33 s
 match u,z,b,t with
 | [S,T,U,V,W,X],_,[Y,Z,v2,v3,v4,v5],_=>
  have c:=a 0 _ rfl;have d:=a 1 _ rfl;have e:=a 2 _ rfl;have f:=a 3 _ rfl;have g:=a 4 _ rfl;have h:=a 5 _ rfl;simp[Tryz.Tx,Tryz.Hr]at c d e f g h;obtain⟨A,i,B,w0⟩:=DataW.trod_int Tryz.underlying3 c;obtain⟨C,j,D,E⟩:=DataW.trod_int Tryz.underlying3 d;obtain⟨F,k,G,I⟩:=DataW.trod_int Tryz.underlying3 e;obtain⟨J,l,K,L⟩:=DataW.trod_int Tryz.underlying3 f;obtain⟨M,o,N,w4⟩:=DataW.trod_string Tryz.underlying9 g;obtain⟨O,p,P,w5⟩:=DataW.trod_string Tryz.underlying9 h;simp at i j k l o p;refine⟨⟨A,C,F,J,M.data.toList,O.data.toList⟩,?_,?_,bounds_i64 E,bounds_i64 I,bounds_i64 L⟩
  ·rw[i,j,k,l,o,p]
  ·rw[y,B,D,G,K,N,P];rfl
theorem xN {H:Type}{y:TypeId × Value->H}{m:DataW H}{z:List MemPlace}(a:Value.okWide Tryz.prog w .any n 22 v)(A:DataW.Trod y Tryz.prog w 0 (fun _=>true) true 22 v m z) :
 ∃(p:Option Addr) (h:Nat) (b:List iK),v=.slice p b.length h/\kY w p h b/\(∀o∈b,Xn o)/\(b=[]\/∃rest,m=.slice (b.map vU) rest):=by
 obtain⟨X,k,B,rfl⟩:=okWide_slice Tryz.underlying22 a;obtain⟨Y,C⟩:=A;rcases open_slice Tryz.underlying22 C with ⟨c,_⟩|⟨l,len,h,E,Z,D,Pl,c,hb,F,G,I,J,K⟩
 ·simp[Value.cells]at c;obtain⟨rfl,rfl,rfl⟩:=c;exact⟨none,0,[],rfl,⟨ae,aO,fun i v a=>by simp at a⟩,aP,.inl rfl⟩
 ·simp[Value.cells]at c;obtain⟨rfl,rfl,rfl⟩:=c;have hlm:k<=E:=by rw[I];split<;>omega
  have L:∀i,i<k->∃o:iK,(∀j u,[Value.int .i64 o.kind,.int .i64 o.a,.int .i64 o.b,.int .i64 o.c,.string ⟨o.s.toArray⟩,.string ⟨o.t.toArray⟩][j]?=some u->w.cell? (l.add (i*6+j))=some u)/\D i=vU o/\Xn o:=by
   intro i hi;obtain⟨cs',q,M⟩:=K i aO;rw[Tryz.aab]at q;obtain⟨_,N,O⟩:=World.cells?_some q;obtain⟨o,P,Q,R⟩:=ZO M N;refine⟨o,fun j u d=>?_,Q,R⟩
   have S:j<6:=by
    have:=(List.getElem?_eq_some_iff.1 d).1;simpa using this
   have:=O j S;rw[add_add,P,d]at this;exact this
  haveI:Inhabited iK:=⟨⟨0,0,0,0,[],[]⟩⟩;obtain⟨f,hF⟩:=choose_lt L;refine⟨some l,B,(List.range k).map f,aP,⟨by simpa using F,by unfold maxLen at G;omega,fun i v a=>?_⟩,fun o r=>?_,?_⟩
  ·obtain⟨hi,s⟩:=List.getElem?_eq_some_iff.1 a;simp at hi s;subst s;have T:=(hF i hi).1;obtain⟨t,g,U⟩:=l;have V:U=none:=by simpa[Addr.add] using World.cell?_spot ((hF 0 aO).1 0 _ rfl)
   subst V;refine⟨t,g,rfl,?_⟩
   have e:∀j u,[Value.int .i64 (f i).kind,.int .i64 (f i).a,.int .i64 (f i).b,.int .i64 (f i).c,.string ⟨(f i).s.toArray⟩,.string ⟨(f i).t.toArray⟩][j]?=some u->w.cell? ⟨t,g+i*6+j,none⟩=some u:=fun j u d=>by
    have:=T j u d;rw[Go.WideShapes.add_plain]at this;rw[show g+i*6+j=g+(i*6+j) by omega];exact this
   exact⟨e 0 _ rfl,e 1 _ rfl,e 2 _ rfl,e 3 _ rfl,e 4 _ rfl,e 5 _ rfl⟩
  ·simp at r;obtain⟨i,hi,rfl⟩:=r;exact(hF i hi).2.2
  ·right
   have x:=congrArg Prod.fst J;simp only at x;refine⟨_,x.trans (congrArg (fun W=>DataW.slice W _) ?_)⟩;rw[List.map_map];exact List.map_congr_left fun i hi=>(hF i ahT).2.1
theorem CP {H:Type}{R:Nat}:∀(c:List iK) (o:iK),o∈c->(∀x∈DataW.weightsAll (H:=H) Tryz.prog 33 (c.map vU),x<=R)->o.s.length<=R/\o.t.length<=R
 | [],o,a,_=>by simp at a
 | q::c,o,a,d=>by
  rw[List.map_cons,DataW.weightsAll]at d;rcases List.mem_cons.1 a with rfl|a
  ·have b:∀x∈DataW.weights (H:=H) Tryz.prog 33 (vU o),x<=R:=fun x e=>d x (List.mem_append_left _ e);unfold vU DataW.weights at b;rw[Tryz.underlying33]at b;simp only[List.map_cons,List.map_nil,DataW.weightsEach,DataW.weights]at b;simp at b;exact b
  ·exact CP c o a (fun x e=>d x (List.mem_append_right _ e))
theorem AX {H:Type}{d:DataW H}{a:List iK}(c:a=[]\/∃rest,d=.slice (a.map vU) rest)(h:(DataW.weightsEach Tryz.prog [22] [d]).all (·<=reachBytes)=true):∀v∈a,v.s.length<=1000000000000000/\v.t.length<=1000000000000000:=by
 intro v b;rcases c with rfl|⟨rest,rfl⟩
 ·simp at b
 ·rw[List.all_eq_true]at h;simp only[DataW.weightsEach,List.append_nil]at h;unfold DataW.weights at h;rw[Tryz.underlying22]at h;simp only at h
  have:=CP (H:=H) (R:=reachBytes) a v b (fun x e=>by
   have:=h x (List.mem_cons_of_mem _ (List.mem_append_left _ e));simpa using this)
  unfold reachBytes at this;exact aO
theorem Tryz.abP : Tryz.prog.globalNamed "reason/stack.operatorNames" = some 0 := by kernel_rfl
theorem Tryz.adL:(Tryz.prog.globals[0]?).map (·.type)=some 275:=bL
theorem Tryz.adK:(Tryz.prog.globals[1]?).map (·.type)=some 317:=bL
theorem Tryz.WS:Tryz.prog.cellsOf 275=15:=bL
theorem Tryz.WR:Tryz.prog.cellsOf 317=20:=bL
theorem Tryz.WQ:Tryz.prog.cellsOf 311=1:=bL
def laidAll : List (String × DataW Unit) := [("math/bits.deBruijn32tab", Rows.laid_math_bits_deBruijn32tab), ("math/bits.deBruijn64tab", Rows.laid_math_bits_deBruijn64tab), ("internal/strconv.uint64pow10", Rows.laid_internal_strconv_uint64pow10), ("reason/stack.operatorNames", Rows.laid_reason_stack_operatorNames)]
theorem Iy {H:Type}{l:TypeId × Value->H}{o:Nat->Bool}{held:Bool}{xs:List (List UInt8)}{p:List MemPlace}
 (q:Tryz.prog.underlying e=some (.array k E)) (r:Tryz.prog.underlying E=some .string) (t:Tryz.prog.cellsOf E=1) (u:Tryz.prog.cellsOf e=k)
 (v:DataW.trod l Tryz.prog w n o held m e b=some (.agg (xs.map fun s=>.lit (.string s)),p)):b=xs.map dO:=by
 obtain⟨f,F,_,a,g,x,z⟩:=DataW.trod_array q v;simp only[Prod.mk.injEq,DataW.agg.injEq]at a
 have A:xs.length=k:=by
  have:=congrArg List.length a.1;simpa[x] using this
 rw[u]at g;refine List.ext_getElem (by simp[g,A]) fun i B G=>?_;have hi:i<k:=aO;have c:=z i hi;rw[t,Nat.mul_one]at c;obtain⟨y,h⟩:∃y,f[i]?=some y:=⟨_,aD aO⟩;rw[h]at c;obtain⟨s,j,C,_⟩:=DataW.trod_string r c;have d:(xs.map fun s=>(DataW.lit (.string s):DataW H))[i]?=(f.map (·.1))[i]?:=by rw[a.1]
 rw[List.getElem?_map,List.getElem?_map,h,aD aO,C]at d;simp at d
 have D:b[i]=.string s:=by
  have:(b.drop i).take 1=[b[i]]:=by
   rw[List.take_one,List.head?_drop,aD B];rfl
  rw[this]at j;simpa using j
 rw[D,List.getElem_map,d];rfl
theorem wh (h:laidMetH Tryz.prog laidAll w):eU w:=by
 rw[MakeChecks.laidMetH_plain _ _ _ bL]at h;unfold laidAll at h;have b:=h.tail.tail;have c:=b.tail;refine⟨?_,Lib.tabIs_of_head Tryz.FY Tryz.adK Tryz.underlying317 Tryz.underlying311 Tryz.WQ Tryz.WR (zs:=Lib.pow10Tab) b⟩;obtain⟨j,⟨k,l,m,n,o,p,d,e,a,f,_,_⟩,_⟩:=c;obtain rfl:=Option.some.inj (Tryz.abP.symm.trans d);obtain rfl:=Option.some.inj (Tryz.adL.symm.trans e);have g:=Iy (xs:=Doc.fG) Tryz.underlying275 Tryz.underlying9 Tryz.Hr Tryz.WS f;unfold World.var? at a;rw[Tryz.abP]at a;simp only[Option.bind_some]at a;split at a
 ·rename_i q t fr i;injection a with a;subst a;exact⟨t,fr,by rw[i,<-g]⟩
 ·cases a
theorem own:ownKnob Tryz.prog.godebug=none:=bL
theorem laidOut:laidOutB Tryz.prog=true:=bL
theorem DW (a:Os)(b:Array Value):laidMetH Tryz.prog laidAll ((World.doorLaid Tryz.prog 400 a).forCall (fun _ _=>0) ⟨#[],b,[]⟩).memory:=
 laidMetH_of_parts3 (fuel:=8) (laidMet_of_run' 8 bL bL) bL bL
end Go.Proofs.YtbichedkajfmiaaGreatDoor
