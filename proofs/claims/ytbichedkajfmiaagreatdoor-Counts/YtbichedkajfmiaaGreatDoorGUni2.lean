import Derived.Test.YtbichedkajfmiaaGreatDoorGKept2
import Derived.Test.YtbichedkajfmiaaGreatDoorC
set_option maxRecDepth 100000
set_option maxHeartbeats 16000000
namespace Go.Proofs.YtbichedkajfmiaaGreatDoor
open Go.RowKit
variable {K l:List Nat}{P:List Bool}{V v:Value}{W u w:World}{a:Option Addr}{e:TypeId}{m n:Nat}
def iv (x:Nat):Value:=.int .i64 (x:Int)
def US (w wx:World)(n:Nat)(vy vn:Value)(ys ns:List Nat)(rs:List Bool):Prop:=
 wx.ownsRow 0 4 1 (.slice (some ⟨w.heap.size,0,none⟩) (n*n) (n*n)) (n*n) (rs.map Value.bool)/\rs.length=n*n/\
 wx.ownsRow (w.heap.size+1) 3 1 vy ys.length (ys.map iv)/\wx.ownsRow (w.heap.size+1) 3 1 vn ns.length (ns.map iv)/\(∀b,vy.ownBlock=some b->vn.ownBlock≠some b)/\
 (∀y∈ys,y<n)/\(∀y∈ns,y<n)/\Below w.heap.size w wx
theorem US.below (h:US w W n v V l K P)(a:Below W.heap.size W u):US w u n v V l K P:=by
 obtain⟨c,d,e,f,g,i,j,b⟩:=h;exact⟨ownsRow_below c a,d,ownsRow_below e a,ownsRow_below f a,g,i,j,b.trans (a.mono b.size)⟩
theorem US.set (h:US w W n v V l K P)(i:Nat):US w (W.setCell ⟨w.heap.size,i,none⟩ (.bool true)) n v V l K (P.set i true):=by
 obtain⟨a,b,c,d,e,f,g,j⟩:=h;obtain⟨k,_⟩:=a.stored i (.bool true);exact⟨by rw[List.map_set];exact k,by simp[b],ownsRow_setCell_below c aW _,ownsRow_setCell_below d aW _,e,f,g,j.setCell ae _⟩
theorem US.cell (h:US w W n v V l K P){i:Nat}(hi:i<n*n):∃b:Bool,W.cell? ⟨w.heap.size,i,none⟩=some (.bool b)/\W.frozen? ⟨w.heap.size,i,none⟩=false:=by
 obtain⟨a,c,_⟩:=h;exact⟨P[i]' aO,jG.cell a c aO⟩
theorem US.sizes (h:US w W n v V l K P):w.heap.size<W.heap.size:=by
 obtain⟨a,_⟩:=h;exact(a.lt _ rfl).2
theorem US.aeU (h:US w W n v V l K P)(X:Obj){g c la:Nat}(m:u.ownsRow (w.heap.size+1) 3 1 (.slice (some ⟨g,0,none⟩) (l.length+1) c) (l.length+1) (l.map iv++[iv la]))
 (b:(W.alloc X).grownBy u v.ownBlock) (o:v.ownBlock=some g\/(W.alloc X).heap.size<=g) (p:la<n):US w u n (.slice (some ⟨g,0,none⟩) (l.length+1) c) V (l++[la]) K P:=by
 obtain⟨q,r,d,f,i,s,t,j⟩:=h;have x:=j.size;refine⟨(q.alloc X).kept b ?_,r,akH,(f.alloc X).kept b ?_,?_,?_,t,?_⟩
 ·right
  intro e;have:=(d.lt w.heap.size (by rw[<-e];rfl)).1;exact aO
 ·cases hv:V.ownBlock with
  | none=>exact .inl rfl
  | some y=>exact .inr fun e=>i y e.symm hv
 ·intro z A k;have B:g=z:=by simpa[Value.ownBlock] using A
  subst B;rcases o with h|h
  ·exact i g h k
  ·have:=(f.lt g k).2;simp at h;exact aO
 ·intro C a;rcases List.mem_append.1 a with a|a
  ·exact s C a
  ·rw[List.mem_singleton.1 a];exact p
 ·exact(j.alloc x X).grown b aQ (fun D E=>by have:=(d.lt D E).1;omega)
theorem US.aeV (h:US w W n v V l K P)(X:Obj){g c la:Nat}(m:u.ownsRow (w.heap.size+1) 3 1 (.slice (some ⟨g,0,none⟩) (K.length+1) c) (K.length+1) (K.map iv++[iv la]))
 (b:(W.alloc X).grownBy u V.ownBlock) (o:V.ownBlock=some g\/(W.alloc X).heap.size<=g) (p:la<n):US w u n v (.slice (some ⟨g,0,none⟩) (K.length+1) c) l (K++[la]) P:=by
 obtain⟨q,r,d,f,i,s,t,j⟩:=h;have x:=j.size;refine⟨(q.alloc X).kept b ?_,r,(d.alloc X).kept b ?_,akH,?_,s,?_,?_⟩
 ·right
  intro e;have:=(f.lt w.heap.size (by rw[<-e];rfl)).1;exact aO
 ·cases hv:v.ownBlock with
  | none=>exact .inl rfl
  | some y=>exact .inr fun e=>i y hv e.symm
 ·intro z k A;have B:g=z:=by simpa[Value.ownBlock] using A
  subst B;rcases o with h|h
  ·exact i g k h
  ·have:=(d.lt g k).2;simp at h;exact aO
 ·intro C a;rcases List.mem_append.1 a with a|a
  ·exact t C a
  ·rw[List.mem_singleton.1 a];exact p
 ·exact(j.alloc x X).grown b aQ (fun D E=>by have:=(f.lt D E).1;omega)
theorem US.XZ (h:US w W n v V l K P):jG w W w.heap.size (n*n) P false W:=by
 obtain⟨a,b,d,e,f,g,i,c⟩:=h;exact⟨P,by rw[b];exact a,rfl,ae,(by intro h;cases h),c,Qa _ _⟩
theorem US.X0 (o:US w W n v V l K P){m:Bool}(p:jG w W w.heap.size (n*n) P m u):∃a,US w u n v V l K a/\P.count true<=a.count true/\(m=true->P.count true<a.count true):=by
 obtain⟨B,e,f,g,q,r,s,C⟩:=o;obtain⟨a,h,t,x,y,z,i⟩:=p
 have j:∀c:Value,(∀b,c.ownBlock=some b->w.heap.size+1<=b)->c.ownBlock=none\/c.ownBlock≠some w.heap.size:=fun c A=>by
  cases d:c.ownBlock with
  | none=>exact .inl rfl
  | some b=>right;intro k;have:=A b d;injection k with k;omega
 refine⟨a,⟨by rw[e]at h;exact h,by rw[t,e],f.kept i (j _ fun b d=>(f.lt b d).1),g.kept i (j _ fun b d=>(g.lt b d).1),q,r,s,z⟩,x,y⟩
theorem Bf (h:w.ownsRow n e 1 v l.length (l.map iv)):∃b a,v=.slice b l.length a/\l.length<=a/\a<=2 ^ 63-1/\∀i (hi:i<l.length),∃g,b=some ⟨g,0,none⟩/\w.cell? ⟨g,i,none⟩=some (.int .i64 l[i]):=by
 have d:=h;rcases h.2 with ⟨rfl,f⟩|⟨g,a,k,rfl,_,_,j,c,_⟩
 ·exact⟨none,0,by rw[f],aO,aO,fun i hi=>aO⟩
 ·unfold maxLen at c;refine⟨some ⟨g,0,none⟩,a,rfl,j,c,fun i hi=>⟨g,rfl,?_⟩⟩;rw[d.cellAt i aO];simp[hi,iv]
theorem GY (h:w.ownsRow n e 1 (.slice a l.length m) l.length (l.map iv)){i:Nat}(hi:i<l.length):∃g,a=some ⟨g,0,none⟩/\w.cell? ⟨g,i,none⟩=some (.int .i64 l[i]):=by
 obtain⟨f,j,b,_,_,c⟩:=Bf h;injection b with d k o
 subst d;exact c i hi
theorem Sl (n:Nat):(madeCells (Value.bool false).cells (n*1)).toList=(List.replicate n false).map Value.bool:=by
 simp only[madeCells,Value.cells,Nat.mul_one,List.map_replicate];apply List.ext_getElem
 ·exact aP
 ·intro i a b;simp[Nat.mod_one]
theorem Tryz.VY:(Tryz.prog.info? 3).map (fun i=>(i.zero,i.size,i.bytes))=some (some (.int .i64 0),1,8):=bL
theorem OA (I bb:Nat)(d:List dX)(held:List Nat)(cs:List (List Lit))(vl:Value)(c:List Lit)(w:World)(T:fT w I bb d held cs)(hls:eP w vl c)(hts:d.length<=1000)(hwf:iU d)(has:zg d)
 (hsm:c.length<=1000000) (zN:∀l∈c,(l.kind=69->l.a<d.length/\l.b<d.length)/\(l.kind=84->l.a<d.length)) :
 Calls Tryz.prog 148 #[.pointer (some ⟨I,0,none⟩),vl] w fun C U=>gL C/\Below w.heap.size w U:=by
 have r3:=T.book;obtain⟨vT,r4,hT⟩:=T.terms;obtain⟨aT,jZ,rfl,Yn,Yb,yQ⟩:=hT;have rO:=di hls;obtain⟨al,yc,rfl,Ct,uV,Bo⟩:=hls;unfold maxLen at uV;have Gj:=di Bo;have BU:=di zN
 have uL:Hid (∀e j (f:List Bool) (W:World),w.heap.size<=e->jG w W e j f false W->f.length=d.length*d.length->Calls Tryz.prog 202 #[.pointer (some ⟨I,0,none⟩),.slice (some ⟨e,0,none⟩) f.length j] W fun C U=>(∃m:Bool,C=.returned (.bool m)/\jG w W e j f m U)):=
  fun e j f W s hst hn=>Tu I bb d held cs e j f w W T s hst hn hts
 have HKI:Hid (∀e j (f:List Bool) (W:World),w.heap.size<=e->jG w W e j f false W->f.length=d.length*d.length->Calls Tryz.prog 203 #[.pointer (some ⟨I,0,none⟩),.slice (some ⟨e,0,none⟩) f.length j] W fun C U=>(∃m:Bool,C=.returned (.bool m)/\jG w W e j f m U)):=
  fun e j f W s hst hn=>ZT I bb d held cs e j f w W T s hst hn hts hwf has
 clear yQ T hwf has Bo zN;generalize d.length=n at *;have hnn:n*n<=1000000:=Nat.mul_le_mul hts hts;obtain⟨i0,hi,hz0,hz1,hz2⟩:=info_parts Tryz.DF;obtain⟨j0,hj,hj0,hj1,hj2⟩:=info_parts Tryz.VY;have m1:(0:Int)<=(n:Int)*(n:Int):=bP;have m2:(n:Int)*(n:Int)<=1000000:=bP;go_enter Tryz.func148,Tryz.ntmps148;go_wp2_with (refine wpList_make_full _ rfl (.tmp 27) (.tmp 27) 255 rfl 0 4 i0 (.bool false) 1 Tryz.underlying255 hi hz0 hz1 .i64 .i64 ((n:Int)*(n:Int)) ((n:Int)*(n:Int)) (n*n) rfl rfl aP aP (by rw[hz2];omega) aX aO ?_;intro W1 hown1 J);have hbW:Below w.heap.size w W1:=⟨J.os,J.tape,J.output,J.size,fun k hk=>J.block k hk aP⟩;have HUS:Hid (US w W1 n (.slice none 0 0) (.slice none 0 0) [] [] (List.replicate (n*n) false)):=⟨by rw[<-Sl];exact hown1,aP,World.ownsRow_nil _ _ _ _,World.ownsRow_nil _ _ _ _,by intro bg hb;simp[Value.ownBlock]at hb,aP,aP,hbW⟩;clear hown1 J hbW;go_wp2_with fail
 go_loopw [9] (fun i wr=>∃(k:Nat) (g:List Bool),i=.int .i64 k/\k<=n/\US w wr n (.slice none 0 0) (.slice none 0 0) [] [] g) (fun i _=>n-(intOf i).toNat)
 case atStart=>exact⟨0,_,rfl,aO,HUS.o⟩
 case round=>
  obtain⟨k,g,rfl,hk,V⟩:=hrel;have H1:=di V
  by_cases hlt:k<n
  ·have K:=nO hlt hlt;obtain⟨X,D,f1⟩:=V.cell K;have k1:(0:Int)<=(k:Int)*(n:Int):=bP;have h:(k:Int)*(n:Int)+(k:Int)<1000000:=bP;have k3:(k:Int)*(n:Int)+(k:Int)<(n:Int)*(n:Int):=aiu;have Y:(k:Int)*(n:Int)+(k:Int)<((n*n:Nat):Int):=by rw[Int.natCast_mul];exact k3
   have LD:=di (V.set (k*n+k));clear V;go_wp2_with fail;go_roundw
   case rel=>exact⟨k+1,_,bJ,aO,LD.o⟩
   case measure=>exact akL
  ·clear V;go_wp2_with fail
   go_loopw [7,8,10] (fun vy vn i wr=>∃(k:Nat) (b a:List Nat) (g:List Bool),i=.int .i64 k/\k<=c.length/\US w wr n vy vn b a g/\b.length<=k/\a.length<=k) (fun _ _ i _=>c.length-(intOf i).toNat)
   case atStart=>exact⟨0,[],[],g,rfl,aO,H1.o,aP,aP⟩
   case round=>
    obtain⟨h,b,a,L,rfl,hk2,r,hyl,hnl⟩:=hrel;have M:=di r;have v:=r.2.2.2.2.2.2.2;have DI:=r.sizes
    by_cases hlt2:h<c.length
    ·obtain⟨E,s,F⟩:=Gj.o h hlt2;subst s;have Z:=ai (F hlt2).neg;have PQ:E<w.heap.size:=Z;obtain⟨e1,e2,e3,e4⟩:=(F hlt2).below v Z;have t:=BU.o c[h] aP;generalize c[h]=l at *;have n1:w.heap.size≠E:=aO;have n2:=n1.symm;clear F;have o:Hid (∀(vy' vn':Value) (ys' ns':List Nat) (rs':List Bool) (wx:World),US w wx n vy' vn' ys' ns' rs'->ys'.length<=h+1->ns'.length<=h+1->∃(k:Nat) (b a:List Nat) (g:List Bool),Value.int .i64 ((h:Int)+1)=.int .i64 k/\k<=c.length/\US w wx n vy' vn' b a g/\b.length<=k/\a.length<=k):=fun vy' vn' ys' ns' rs' wx h1 h2 h3=>⟨h+1,ys',ns',rs',bJ,aO,h1,h2,h3⟩
     by_cases x:l.kind=69
     ·have t69:((l.kind:Int)==69)=true:=bz;have t84:((l.kind:Int)==84)=false:=aj aO;obtain⟨N,hB⟩:=t.1 x;have K:=nO N hB;obtain⟨X,D,f1⟩:=r.cell K;have LD:=di (r.set (l.a*n+l.b));have j1:(0:Int)<=(l.a:Int)*(n:Int):=bP;have j2:(l.a:Int)*(n:Int)+(l.b:Int)<1000000:=bP;have j3:(l.a:Int)*(n:Int)+(l.b:Int)<(n:Int)*(n:Int):=aiu;have j4:(l.a:Int)*(n:Int)+(l.b:Int)<((n*n:Nat):Int):=akg;have O:IntKind.i64.wrap ((l.a:Int)*(n:Int))=(l.a:Int)*(n:Int):=ah5;have w2:IntKind.i64.wrap ((l.a:Int)*(n:Int)+(l.b:Int))=(l.a:Int)*(n:Int)+(l.b:Int):=ah5;have w3:((l.a:Int)*(n:Int)+(l.b:Int)).toNat=l.a*n+l.b:=bP;have w4:(0:Int)<=(l.a:Int)*(n:Int)+(l.b:Int):=aO;clear x r t;generalize l.neg=ng at *;cases ng
      ·clear O w2 w3;exact amD
      ·go_wp2_with fail;go_region
       all_goals
        clear O w2 w3;go_wp2_with fail;go_roundw
        case rel=>exact o.o _ _ b a _ _ (LD.o.below (af.drew)) aO aO
        case measure=>exact akL
     ·have t69:((l.kind:Int)==69)=false:=aj aO
      by_cases h84:l.kind=84
      ·have t84:((l.kind:Int)==84)=true:=bz;have N:=t.2 h84;obtain⟨u1,u2,u3,u4,u5,u6,u7,u8⟩:=r;clear x h84 t;generalize l.neg=ng at *;generalize l.a=y at *;have CU:=u8.size;cases ng
       ·go_wp2_with (at_builtin;refine dD rfl (.tmp 110) (.tmp 116) 57 rfl (w.heap.size+1) 3 j0 (.int .i64 0) 1 8 Tryz.underlying57 hj hj0 hj1 hj2 rfl aR _ a.length (a.map iv) rfl (u4.alloc _) ⟨wr.heap.size,0,none⟩ 1 [.int .i64 y] rfl rfl bM bX aX aO aQ ?_;intro ga eZ O hown' P _ Ap);have HF:=di (M.o.aeV (.cells #[.int .i64 y] 3) (la:=y) hown' P Ap N);clear hown' P Ap u1 u2 u3 u4 u5 u6 u7 u8;go_wp2_with fail;go_roundw
        case rel=>exact o.o _ _ b (a++[y]) L _ HF.o aO aQ
        case measure=>exact akL
       ·go_wp2_with (at_builtin;refine dD rfl (.tmp 88) (.tmp 94) 57 rfl (w.heap.size+1) 3 j0 (.int .i64 0) 1 8 Tryz.underlying57 hj hj0 hj1 hj2 rfl aR _ b.length (b.map iv) rfl (u3.alloc _) ⟨wr.heap.size,0,none⟩ 1 [.int .i64 y] rfl rfl bM bX aX aO aQ ?_;intro ga eZ O hown' P _ Ap;have Au:=(v.alloc v.size _).grown P aQ (fun q hq=>by have:=(u3.lt q hq).1;omega);have p1:=(Au.cell (p:=⟨E,h*4,none⟩) PQ).trans ((v.cell (p:=⟨E,h*4,none⟩) PQ).symm.trans e1);have p2:=(Au.cell (p:=⟨E,h*4+1,none⟩) PQ).trans ((v.cell (p:=⟨E,h*4+1,none⟩) PQ).symm.trans e2));have HF:=di (M.o.aeU (.cells #[.int .i64 y] 3) (la:=y) hown' P Ap N);clear hown' P Ap u1 u2 u3 u4 u5 u6 u7 u8 Au;go_wp2_with fail;go_roundw
        case rel=>exact o.o _ _ (b++[y]) a L _ HF.o aQ aO
        case measure=>exact akL
      ·have t84:((l.kind:Int)==84)=false:=aj aO;clear x h84 r t;exact amD
    ·have Dk:=di r.2.1;clear r;go_wp2_with fail
     go_loopg [11] (n*n-L.count true+1) (fun gk mv wr=>∃(m:Bool) (g:List Bool),mv=.bool m/\US w wr n u7 u8 b a g/\gk=if m then n*n-g.count true+1 else 0)
     case atStart=>exact⟨true,L,rfl,M.o,rfl⟩
     case round=>
      obtain⟨m,Q,rfl,u,qK⟩:=hrel;have H3:=di u;have uJ:=di qK;have hlen3:=u.2.1;have QW:=di hlen3;clear u qK hlen3;cases m
      ·clear uL HKI;have u:=H3.o;obtain⟨ay,cy,hvy,hcy,hmy,aet⟩:=Bf u.2.2.1;obtain⟨an,cn,hvn,hcn,qJ,aeu⟩:=Bf u.2.2.2.1;subst hvy hvn;have hys:=u.2.2.2.2.2.1;have hns:=u.2.2.2.2.2.2.1;have HYS:=di hys;have wM:=di hns;clear u aet aeu hys hns uJ QW Dk M H1 HUS;go_wp2_with fail
       go_loopw [14] (fun i wr=>∃(k:Nat),i=.int .i64 k/\k<=b.length/\US w wr n (.slice ay b.length cy) (.slice an a.length cn) b a Q) (fun i _=>b.length-(intOf i).toNat)
       case atStart=>exact⟨0,rfl,aO,H3.o⟩
       case round=>
        obtain⟨Y,rfl,hk4,z⟩:=hrel;have H4:=di z;clear z
        by_cases PM:Y<b.length
        ·have hya:=HYS.o b[Y] aP;go_wp2_with fail
         go_loopw [15] (fun i wr=>∃(k:Nat),i=.int .i64 k/\k<=a.length/\US w wr n (.slice ay b.length cy) (.slice an a.length cn) b a Q) (fun i _=>a.length-(intOf i).toNat)
         case atStart=>exact⟨0,rfl,aO,H4.o⟩
         case round=>
          obtain⟨k5,rfl,hk5,p⟩:=hrel;have H5:=di p
          by_cases PL:k5<a.length
          ·have hnb:=wM.o a[k5] aP;have o:Hid (∀q,∃(k:Nat),Value.int .i64 ((k5:Int)+1)=.int .i64 k/\k<=a.length/\US w (wr.drewN q) n (.slice ay b.length cy) (.slice an a.length cn) b a Q):=fun q=>⟨k5+1,bJ,aO,H5.o.below (below_drewN af _)⟩;have mo:Hid (∀q,Below w.heap.size w (wr.drewN q)):=fun q=>below_drewN p.2.2.2.2.2.2.2 _;obtain⟨gy,rfl,d1⟩:=GY p.2.2.1 PM;obtain⟨gn,rfl,d2⟩:=GY p.2.2.2.1 PL;obtain⟨X,D,f1⟩:=p.cell (nO hya hnb);have K:=nO hya hnb;generalize b[Y]=A at *;generalize a[k5]=B at *;have j1:(0:Int)<=(A:Int)*(n:Int):=bP;have j2:(A:Int)*(n:Int)+(B:Int)<1000000:=bP;have j3:(A:Int)*(n:Int)+(B:Int)<(n:Int)*(n:Int):=aiu;have j4:(A:Int)*(n:Int)+(B:Int)<((n*n:Nat):Int):=akg;have O:IntKind.i64.wrap ((A:Int)*(n:Int))=(A:Int)*(n:Int):=ah5;have w2:IntKind.i64.wrap ((A:Int)*(n:Int)+(B:Int))=(A:Int)*(n:Int)+(B:Int):=ah5;have w3:((A:Int)*(n:Int)+(B:Int)).toNat=A*n+B:=bP;have w4:(0:Int)<=(A:Int)*(n:Int)+(B:Int):=aO;clear p;cases X
           all_goals
            exact ak8
          ·clear p;go_wp2_with fail;go_roundw
           case rel=>exact⟨Y+1,bJ,aO,H5.o⟩
           case measure=>exact akL
        ·clear HYS wM;go_wp2_with fail
         go_loopw [16] (fun i wr=>∃(k:Nat),i=.int .i64 k/\k<=c.length/\US w wr n (.slice ay b.length cy) (.slice an a.length cn) b a Q) (fun i _=>c.length-(intOf i).toNat)
         case atStart=>exact⟨0,rfl,aO,H4.o⟩
         case round=>
          obtain⟨R,rfl,hk6,G⟩:=hrel;have H6:=di G;have mo:Hid (∀q,Below w.heap.size w (wr.drewN q)):=fun q=>below_drewN G.2.2.2.2.2.2.2 _;have v:=G.2.2.2.2.2.2.2
          by_cases Wi:R<c.length
          ·have o:Hid (∀q,∃(k:Nat),Value.int .i64 ((R:Int)+1)=.int .i64 k/\k<=c.length/\US w (wr.drewN q) n (.slice ay b.length cy) (.slice an a.length cn) b a Q):=fun q=>⟨R+1,bJ,aO,H6.o.below (below_drewN af _)⟩;obtain⟨E,s,F⟩:=Gj.o R Wi;subst s;have Z:=ai (F Wi).neg;obtain⟨e1,e2,e3,e4⟩:=(F Wi).below v Z;have t:=BU.o c[R] aP;generalize c[R]=l at *;clear F Z
           by_cases x:l.kind=69
           ·have t69:((l.kind:Int)==69)=true:=bz;obtain⟨N,hB⟩:=t.1 x;have K:=nO N hB;obtain⟨X,D,f1⟩:=G.cell K;clear x G t;generalize l.neg=ng at *;cases ng
            ·skip
             have j1:(0:Int)<=(l.a:Int)*(n:Int):=bP;have j2:(l.a:Int)*(n:Int)+(l.b:Int)<1000000:=bP;have j3:(l.a:Int)*(n:Int)+(l.b:Int)<(n:Int)*(n:Int):=aiu;have j4:(l.a:Int)*(n:Int)+(l.b:Int)<((n*n:Nat):Int):=akg;have O:IntKind.i64.wrap ((l.a:Int)*(n:Int))=(l.a:Int)*(n:Int):=ah5;have w2:IntKind.i64.wrap ((l.a:Int)*(n:Int)+(l.b:Int))=(l.a:Int)*(n:Int)+(l.b:Int):=ah5;have w3:((l.a:Int)*(n:Int)+(l.b:Int)).toNat=l.a*n+l.b:=bP;have w4:(0:Int)<=(l.a:Int)*(n:Int)+(l.b:Int):=aO;cases X
             all_goals
              exact ak8
            ·exact ak8
           ·have t69:((l.kind:Int)==69)=false:=aj aO;clear x G t;exact ak8
          ·clear G;go_wp2_with fail;go_ret;exact⟨⟨_,rfl⟩,v⟩
      ·have c0:=uL.o w.heap.size (n*n) Q wr ae H3.o.XZ QW.o;rw[QW.o]at c0;have Dp:=di c0;clear c0;go_wp2_with fail;refine Dp.o.mono ?_;rintro C w4 ⟨H,rfl,hr4⟩;obtain⟨rs4,z,aa5,PM⟩:=H3.o.X0 hr4;have H4:=di z;have LQ:=di aa5;have afD:=di PM;have D:=HKI.o w.heap.size (n*n) rs4 w4 ae z.XZ z.2.1;rw[z.2.1]at D;have kv:=di D;clear D z aa5 PM hr4;go_wp2_with fail;refine kv.o.mono ?_;rintro C w5 ⟨S,rfl,hr5⟩;obtain⟨RH,p,aee,PL⟩:=H4.o.X0 hr5
       have HG:Hid ((if (H||S) then n*n-RH.count true+1 else 0)<gk):=by
        show _<_;have s:=uJ.o;simp only[if_true]at s;have c5:RH.count true<=n*n:=by rw[<-p.2.1];exact List.count_le_length
        have a1:=LQ.o;have a2:=afD.o;cases H<;>cases S<;>simp at a2 PL ⊢<;>omega
       have HF:Hid (∃(m:Bool) (g:List Bool),Value.bool (H||S)=.bool m/\US w w5 n u7 u8 b a g/\(if (H||S) then n*n-RH.count true+1 else 0)=if m then n*n-g.count true+1 else 0):=⟨H||S,RH,rfl,p,rfl⟩;clear p aee PL hr5;generalize (if (H||S) then n*n-RH.count true+1 else 0)=gn at *;cases H
       all_goals
        go_wp2_with fail
        go_roundg gn
        case measure=>exact HG.o
        case rel=>exact HF.o
end Go.Proofs.YtbichedkajfmiaaGreatDoor
