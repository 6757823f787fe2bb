import Derived.Test.YtjiagbaaikifpaaGreatDoorGEnv3
set_option maxRecDepth 100000
set_option maxHeartbeats 16000000
namespace Go.Proofs.YtjiagbaaikifpaaGreatDoor
open Go.RowKit Go.Proofs.Tryz
variable {K l:List Nat}{P:List Bool}{V v:Value}{W u w:World}{a:eu}{e:TypeId}{m n:Nat}
def iv (x:Nat):Value:=dw (x:Int)
def US (w wx:World)(n:Nat)(vy vn:Value)(ys ns:List Nat)(rs:List Bool):Prop:=
 wx.ownsRow 0 4 1 (dJ w.heap.size (n*n) (n*n)) (n*n) (rs.map Value.bool)/\rs.length=n*n/\
 wx.ownsRow (w.heap.size+1) 3 1 vy ys.length (ys.map iv)/\wx.ownsRow (w.heap.size+1) 3 1 vn ns.length (ns.map iv)/\(∀b,vy.ownBlock=some b->vn.ownBlock≠some b)/\
 (∀y∈ys,y<n)/\(∀y∈ns,y<n)/\dB w wx
theorem US.below (h:US w W n v V l K P)(a:dB W u):US w u n v V l K P:=by
 obtain⟨b,c,d,e,f,g,i,j⟩:=h;exact⟨ownsRow_below b a,c,ownsRow_below d a,ownsRow_below e a,f,g,i,j.dW a⟩
theorem US.set (h:US w W n v V l K P)(i:Nat):US w (W.setCell (dA w.heap.size i) (fu)) n v V l K (P.set i true):=by
 obtain⟨a,b,c,d,e,f,g,j⟩:=h;obtain⟨k,_⟩:=a.stored i (fu);exact⟨by rw[List.map_set];exact k,by simp[b],ownsRow_setCell_below c aZ _,ownsRow_setCell_below d aZ _,e,f,g,j.setCell ae _⟩
theorem US.cell (h:US w W n v V l K P){i:Nat}(hi:i<n*n):∃b:Bool,W.cell? (dA w.heap.size i)=some (.bool b)/\W.frozen? (dA w.heap.size i)=false:=by
 obtain⟨a,c,_⟩:=h;exact⟨P[i]' aR,kV.cell a c aR⟩
theorem US.sizes (h:US w W n v V l K P):w.heap.size<W.heap.size:=by
 obtain⟨a,_⟩:=h;exact(a.lt _ rfl).2
theorem US.aiI (h:US w W n v V l K P)(X:Obj){g c la:Nat}(m:u.ownsRow (w.heap.size+1) 3 1 (dJ g (l.length+1) c) (l.length+1) (l.map iv++[iv la]))
 (b:(W.alloc X).grownBy u v.ownBlock) (o:v.ownBlock=some g\/(W.alloc X).heap.size<=g) (p:la<n):US w u n (dJ g (l.length+1) c) V (l++[la]) K P:=by
 obtain⟨q,r,d,f,i,s,t,j⟩:=h;have x:=j.size;refine⟨(q.alloc X).kept b ?_,r,ao7,(f.alloc X).kept b ?_,?_,?_,t,?_⟩
 ·right
  intro e;have:=(d.lt w.heap.size (by rw[<-e];rfl)).1;exact aR
 ·cases hv:V.ownBlock with
  | none=>exact .inl rfl
  | some y=>exact .inr λe=>i y e.symm hv
 ·intro z A k;have B:g=z:=by simpa[Value.ownBlock] using A
  subst B;rcases o with h|h
  ·exact i g h k
  ·have:=(f.lt g k).2;simp at h;exact aR
 ·intro C a;rcases List.mem_append.1 a with a|a
  ·exact s C a
  ·rw[List.mem_singleton.1 a];exact p
 ·exact(j.alloc x X).grown b aX (λD E=>aP ((d.lt D E).1))
theorem US.aiJ (h:US w W n v V l K P)(X:Obj){g c la:Nat}(m:u.ownsRow (w.heap.size+1) 3 1 (dJ g (K.length+1) c) (K.length+1) (K.map iv++[iv la]))
 (b:(W.alloc X).grownBy u V.ownBlock) (o:V.ownBlock=some g\/(W.alloc X).heap.size<=g) (p:la<n):US w u n v (dJ g (K.length+1) c) l (K++[la]) P:=by
 obtain⟨q,r,d,f,i,s,t,j⟩:=h;have x:=j.size;refine⟨(q.alloc X).kept b ?_,r,(d.alloc X).kept b ?_,ao7,?_,s,?_,?_⟩
 ·right
  intro e;have:=(f.lt w.heap.size (by rw[<-e];rfl)).1;exact aR
 ·cases hv:v.ownBlock with
  | none=>exact .inl rfl
  | some y=>exact .inr λe=>i y hv e.symm
 ·intro z k A;have B:g=z:=by simpa[Value.ownBlock] using A
  subst B;rcases o with h|h
  ·exact i g k h
  ·have:=(d.lt g k).2;simp at h;exact aR
 ·intro C a;rcases List.mem_append.1 a with a|a
  ·exact t C a
  ·rw[List.mem_singleton.1 a];exact p
 ·exact(j.alloc x X).grown b aX (λD E=>aP ((f.lt D E).1))
theorem US.ab7 (h:US w W n v V l K P):kV w W w.heap.size (n*n) P false W:=by
 obtain⟨a,b,d,e,f,g,i,c⟩:=h;exact⟨P,by rw[b];exact a,rfl,ae,(by intro h;cases h),c,Uf _ _⟩
theorem US.ab8 (o:US w W n v V l K P){m:Bool}(p:kV w W w.heap.size (n*n) P m u):∃a,US w u n v V l K a/\P.count true<=a.count true/\(m=true->P.count true<a.count true):=by
 obtain⟨B,e,f,g,q,r,s,C⟩:=o;obtain⟨a,h,t,x,y,z,i⟩:=p
 have j:∀c:Value,(∀b,c.ownBlock=some b->w.heap.size+1<=b)->c.ownBlock=none\/c.ownBlock≠some w.heap.size:=λc A=>by
  cases d:c.ownBlock with
  | none=>exact .inl rfl
  | some b=>right;intro k;have:=A b d;injection k with k;omega
 refine⟨a,⟨by rw[e]at h;exact h,by rw[t,e],f.kept i (j _ λb d=>(f.lt b d).1),g.kept i (j _ λb d=>(g.lt b d).1),q,r,s,z⟩,x,y⟩
theorem DT (h:w.ownsRow n e 1 v l.length (l.map iv)):∃b a,v=.slice b l.length a/\l.length<=a/\a<=2 ^ 63-1/\∀i (hi:i<l.length),∃g,b=some (dA g 0)/\w.cell? (dA g i)=some (dw l[i]):=by
 have d:=h;rcases h.2 with ⟨rfl,f⟩|⟨g,a,k,rfl,_,_,j,c,_⟩
 ·exact⟨none,0,by rw[f],aR,aR,λi hi=>aR⟩
 ·unfold maxLen at c;refine⟨some (dA g 0),a,rfl,j,c,λi hi=>⟨g,rfl,?_⟩⟩;rw[d.cellAt i aR];simp[hi,iv]
theorem Kw (h:w.ownsRow n e 1 (.slice a l.length m) l.length (l.map iv)){i:Nat}(hi:i<l.length):∃g,a=some (dA g 0)/\w.cell? (dA g i)=some (dw l[i]):=by
 obtain⟨f,j,b,_,_,c⟩:=DT h;injection b with d k o
 subst d;exact c i hi
theorem WJ (n:Nat):(madeCells (Value.bool false).cells (n*1)).toList=(List.replicate n false).map Value.bool:=by
 simp only[madeCells,Value.cells,Nat.mul_one,List.map_replicate];apply List.ext_getElem
 ·exact aW
 ·intro i a b;simp[Nat.mod_one]
theorem X9:(prog.info? 3).map (λi=>(i.zero,i.size,i.bytes))=some (some (dw 0),1,8):=bR
theorem Sa (H bb:Nat)(d:List fB)(held:List Nat)(cs:List (List Lit))(vl:Value)(c:List Lit)(w:World)(S:iE w H bb d held cs)(hls:fK w vl c)(hts:d.length<=1000)(hwf:jQ d)(has:BK d)
 (hsm:c.length<=1000000) (xe:∀l∈c,(l.kind=69->l.a<d.length/\l.b<d.length)/\(l.kind=84->l.a<d.length)) :
 dH 150 #[dK H 0,vl] w λz T=>iY z/\dB w T:=by
 have r3:=S.book;obtain⟨vT,r4,hT⟩:=S.terms;obtain⟨aT,lL,rfl,acr,acg,Bo⟩:=hT;have rW:=dn hls;obtain⟨al,Az,rfl,EP,xQ,DZ⟩:=hls;unfold maxLen at xQ;have JW:=dn DZ;have xu:=dn xe
 have rY:Hid (∀e h (f:List Bool) (W:World),w.heap.size<=e->kV w W e h f false W->f.length=d.length*d.length->dH 207 #[dK H 0,dJ e f.length h] W λz T=>(∃m:Bool,z=dF (.bool m)/\kV w W e h f m T)):=
  λe h f W s hst hn=>XF H bb d held cs e h f w W S s hst hn hts
 have HKI:Hid (∀e h (f:List Bool) (W:World),w.heap.size<=e->kV w W e h f false W->f.length=d.length*d.length->dH 208 #[dK H 0,dJ e f.length h] W λz T=>(∃m:Bool,z=dF (.bool m)/\kV w W e h f m T)):=
  λe h f W s hst hn=>adx H bb d held cs e h f w W S s hst hn hts hwf has
 clear Bo S hwf has DZ xe;generalize d.length=n at *;have hnn:n*n<=1000000:=Nat.mul_le_mul hts hts;obtain⟨i0,hi,hz0,hz1,hz2⟩:=info_parts Ei;obtain⟨j0,hj,hj0,hj1,hj2⟩:=info_parts X9;have m1:(0:Int)<=(n:Int)*(n:Int):=bQ;have m2:(n:Int)*(n:Int)<=1000000:=bQ;go_enter func150,ntmps150;go_wp2_with (refine wpList_make_full _ rfl (.tmp 27) (.tmp 27) 265 rfl 0 4 i0 (dP) 1 underlying265 hi hz0 hz1 .i64 .i64 ((n:Int)*(n:Int)) ((n:Int)*(n:Int)) (n*n) rfl rfl aW aW (by rw[hz2];omega) bz aR ?_;intro W1 hown1 I);have hbW:dB w W1:=⟨I.os,I.tape,I.output,I.size,λk hk=>I.block k hk aW⟩;have HUS:Hid (US w W1 n (dE) (dE) [] [] (List.replicate (n*n) false)):=⟨by rw[<-WJ];exact hown1,aW,World.ownsRow_nil _ _ _ _,World.ownsRow_nil _ _ _ _,by intro bg hb;simp[Value.ownBlock]at hb,aW,aW,hbW⟩;clear hown1 I hbW;go_wp2_with fail
 go_loopw [9] (fun i wr=>∃(k:Nat) (g:List Bool),i=dw k/\k<=n/\US w wr n (dE) (dE) [] [] g) (fun i _=>n-(intOf i).toNat)
 ·exact⟨0,_,rfl,aR,HUS.o⟩
 case round=>
  obtain⟨k,g,rfl,hk,U⟩:=hrel;have H1:=dn U
  by_cases hlt:k<n
  ·have J:=qy hlt hlt;obtain⟨V,C,f1⟩:=U.cell J;have k1:(0:Int)<=(k:Int)*(n:Int):=bQ;have j:(k:Int)*(n:Int)+(k:Int)<1000000:=bQ;have k3:(k:Int)*(n:Int)+(k:Int)<(n:Int)*(n:Int):=amy;have X:(k:Int)*(n:Int)+(k:Int)<((n*n:Nat):Int):=by rw[Int.natCast_mul];exact k3
   have Pg:=dn (U.set (k*n+k));clear U;go_wp2;go_roundw
   ·exact⟨k+1,_,bL,aR,Pg.o⟩
   ·exact aph
  ·clear U;go_wp2_with fail
   go_loopw [7,8,10] (fun vy vn i wr=>∃(k:Nat) (b a:List Nat) (g:List Bool),i=dw k/\k<=c.length/\US w wr n vy vn b a g/\b.length<=k/\a.length<=k) (fun _ _ i _=>c.length-(intOf i).toNat)
   ·exact⟨0,[],[],g,rfl,aR,H1.o,aW,aW⟩
   case round=>
    obtain⟨j,b,a,K,rfl,hk2,r,hyl,hnl⟩:=hrel;have L:=dn r;have D:=r.2.2.2.2.2.2.2;have Gl:=r.sizes
    by_cases hlt2:j<c.length
    ·obtain⟨Y,s,E⟩:=JW.o j hlt2;subst s;have Z:=aj (E hlt2).neg;have TN:Y<w.heap.size:=Z;obtain⟨e1,e2,e3,e4⟩:=(E hlt2).below D Z;have t:=xu.o c[j] aW;generalize c[j]=l at *;have n1:w.heap.size≠Y:=aR;have n2:=n1.symm;clear E;have o:Hid (∀(vy' vn':Value) (ys' ns':List Nat) (rs':List Bool) (wx:World),US w wx n vy' vn' ys' ns' rs'->ys'.length<=j+1->ns'.length<=j+1->∃(k:Nat) (b a:List Nat) (g:List Bool),Value.int .i64 ((j:Int)+1)=dw k/\k<=c.length/\US w wx n vy' vn' b a g/\b.length<=k/\a.length<=k):=λvy' vn' ys' ns' rs' wx h1 h2 h3=>⟨j+1,ys',ns',rs',bL,aR,h1,h2,h3⟩
     by_cases v:l.kind=69
     ·have t69:((l.kind:Int)==69)=true:=bM;have t84:((l.kind:Int)==84)=false:=ak aR;obtain⟨M,hB⟩:=t.1 v;have J:=qy M hB;obtain⟨V,C,f1⟩:=r.cell J;have Pg:=dn (r.set (l.a*n+l.b));have j1:(0:Int)<=(l.a:Int)*(n:Int):=bQ;have j2:(l.a:Int)*(n:Int)+(l.b:Int)<1000000:=bQ;have j3:(l.a:Int)*(n:Int)+(l.b:Int)<(n:Int)*(n:Int):=amy;have j4:(l.a:Int)*(n:Int)+(l.b:Int)<((n*n:Nat):Int):=aoB;have N:IntKind.i64.wrap ((l.a:Int)*(n:Int))=(l.a:Int)*(n:Int):=bV;have w2:IntKind.i64.wrap ((l.a:Int)*(n:Int)+(l.b:Int))=(l.a:Int)*(n:Int)+(l.b:Int):=bV;have w3:((l.a:Int)*(n:Int)+(l.b:Int)).toNat=l.a*n+l.b:=bQ;have w4:(0:Int)<=(l.a:Int)*(n:Int)+(l.b:Int):=aR;clear v r t;generalize l.neg=ng at *;cases ng
      ·clear N w2 w3;go_wp2;go_roundw
       ·exact o.o _ _ b a K _ L.o aR aR
       ·exact aph
      ·go_wp2_with fail;go_region
       all_goals
        clear N w2 w3;go_wp2;go_roundw
        ·exact o.o _ _ b a _ _ (Pg.o.below (af.drew)) aR aR
        ·exact aph
     ·have t69:((l.kind:Int)==69)=false:=ak aR
      by_cases h84:l.kind=84
      ·have t84:((l.kind:Int)==84)=true:=bM;have M:=t.2 h84;obtain⟨u1,u2,u3,u4,u5,u6,u7,u8⟩:=r;clear v h84 t;generalize l.neg=ng at *;generalize l.a=x at *;have Fv:=u8.size;cases ng
       ·go_wp2_with (at_builtin;refine dU rfl (.tmp 110) (.tmp 116) 57 rfl (w.heap.size+1) 3 j0 (dw 0) 1 8 underlying57 hj hj0 hj1 hj2 rfl aY _ a.length (a.map iv) rfl (u4.alloc _) (dA wr.heap.size 0) 1 [dw x] rfl rfl bP bX bz aR aX ?_;intro ga fD N hown' O _ tu);have HF:=dn (L.o.aiJ (.cells #[dw x] 3) (la:=x) hown' O tu M);clear hown' O tu u1 u2 u3 u4 u5 u6 u7 u8;go_wp2;go_roundw
        ·exact o.o _ _ b (a++[x]) K _ HF.o aR aX
        ·exact aph
       ·go_wp2_with (at_builtin;refine dU rfl (.tmp 88) (.tmp 94) 57 rfl (w.heap.size+1) 3 j0 (dw 0) 1 8 underlying57 hj hj0 hj1 hj2 rfl aY _ b.length (b.map iv) rfl (u3.alloc _) (dA wr.heap.size 0) 1 [dw x] rfl rfl bP bX bz aR aX ?_;intro ga fD N hown' O _ tu;have D6:=(D.fO).grown O aX (λq hq=>aP ((u3.lt q hq).1));have p1:=D6.dL ((D.cell (p:=dA Y (j*4)) TN).symm.trans e1) TN;have p2:=(D6.dL ((D.cell (p:=dA Y (j*4+1)) TN).symm.trans e2) TN));have HF:=dn (L.o.aiI (.cells #[dw x] 3) (la:=x) hown' O tu M);clear hown' O tu u1 u2 u3 u4 u5 u6 u7 u8 D6;go_wp2;go_roundw
        ·exact o.o _ _ (b++[x]) a K _ HF.o aX aR
        ·exact aph
      ·have t84:((l.kind:Int)==84)=false:=ak aR;clear v h84 r t;go_wp2;go_roundw
       ·exact o.o _ _ b a K _ L.o aR aR
       ·exact aph
    ·have Ad:=dn r.2.1;clear r;go_wp2_with fail
     go_loopg [11] (n*n-K.count true+1) (fun gk mv wr=>∃(m:Bool) (g:List Bool),mv=.bool m/\US w wr n u7 u8 b a g/\gk=if m then n*n-g.count true+1 else 0)
     ·exact⟨true,K,rfl,L.o,rfl⟩
     case round=>
      obtain⟨m,P,rfl,u,uk⟩:=hrel;have H3:=dn u;have xD:=dn uk;have hlen3:=u.2.1;have Vb:=dn hlen3;clear u uk hlen3;cases m
      ·clear rY HKI;have u:=H3.o;obtain⟨ay,cy,hvy,hcy,hmy,aii⟩:=DT u.2.2.1;obtain⟨an,cn,hvn,hcn,ru,aij⟩:=DT u.2.2.2.1;subst hvy hvn;have hys:=u.2.2.2.2.2.1;have hns:=u.2.2.2.2.2.2.1;have HYS:=dn hys;have uI:=dn hns;clear u aii aij hys hns xD Vb Ad L H1 HUS;go_wp2_with fail
       go_loopw [14] (fun i wr=>∃(k:Nat),i=dw k/\k<=b.length/\US w wr n (.slice ay b.length cy) (.slice an a.length cn) b a P) (fun i _=>b.length-(intOf i).toNat)
       ·exact⟨0,rfl,aR,H3.o⟩
       case round=>
        obtain⟨X,rfl,hk4,y⟩:=hrel;have H4:=dn y;clear y
        by_cases TK:X<b.length
        ·have hya:=HYS.o b[X] aW;go_wp2_with fail
         go_loopw [15] (fun i wr=>∃(k:Nat),i=dw k/\k<=a.length/\US w wr n (.slice ay b.length cy) (.slice an a.length cn) b a P) (fun i _=>a.length-(intOf i).toNat)
         ·exact⟨0,rfl,aR,H4.o⟩
         case round=>
          obtain⟨k5,rfl,hk5,p⟩:=hrel;have H5:=dn p
          by_cases TJ:k5<a.length
          ·have hnb:=uI.o a[k5] aW;have o:Hid (∀q,∃(k:Nat),Value.int .i64 ((k5:Int)+1)=dw k/\k<=a.length/\US w (wr.drewN q) n (.slice ay b.length cy) (.slice an a.length cn) b a P):=λq=>⟨k5+1,bL,aR,H5.o.below (below_drewN af _)⟩;have jG:Hid (∀q,dB w (wr.drewN q)):=λq=>below_drewN p.2.2.2.2.2.2.2 _;obtain⟨gy,rfl,d1⟩:=Kw p.2.2.1 TK;obtain⟨gn,rfl,d2⟩:=Kw p.2.2.2.1 TJ;obtain⟨V,C,f1⟩:=p.cell (qy hya hnb);have J:=qy hya hnb;generalize b[X]=A at *;generalize a[k5]=B at *;have j1:(0:Int)<=(A:Int)*(n:Int):=bQ;have j2:(A:Int)*(n:Int)+(B:Int)<1000000:=bQ;have j3:(A:Int)*(n:Int)+(B:Int)<(n:Int)*(n:Int):=amy;have j4:(A:Int)*(n:Int)+(B:Int)<((n*n:Nat):Int):=aoB;have N:IntKind.i64.wrap ((A:Int)*(n:Int))=(A:Int)*(n:Int):=bV;have w2:IntKind.i64.wrap ((A:Int)*(n:Int)+(B:Int))=(A:Int)*(n:Int)+(B:Int):=bV;have w3:((A:Int)*(n:Int)+(B:Int)).toNat=A*n+B:=bQ;have w4:(0:Int)<=(A:Int)*(n:Int)+(B:Int):=aR;clear p;cases V
           all_goals
            exact apD
          ·clear p;go_wp2;go_roundw
           ·exact⟨X+1,bL,aR,H5.o⟩
           ·exact aph
        ·clear HYS uI;go_wp2_with fail
         go_loopw [16] (fun i wr=>∃(k:Nat),i=dw k/\k<=c.length/\US w wr n (.slice ay b.length cy) (.slice an a.length cn) b a P) (fun i _=>c.length-(intOf i).toNat)
         ·exact⟨0,rfl,aR,H4.o⟩
         case round=>
          obtain⟨Q,rfl,hk6,F⟩:=hrel;have H6:=dn F;have jG:Hid (∀q,dB w (wr.drewN q)):=λq=>below_drewN F.2.2.2.2.2.2.2 _;have D:=F.2.2.2.2.2.2.2
          by_cases aaq:Q<c.length
          ·have o:Hid (∀q,∃(k:Nat),Value.int .i64 ((Q:Int)+1)=dw k/\k<=c.length/\US w (wr.drewN q) n (.slice ay b.length cy) (.slice an a.length cn) b a P):=λq=>⟨Q+1,bL,aR,H6.o.below (below_drewN af _)⟩;obtain⟨Y,s,E⟩:=JW.o Q aaq;subst s;have Z:=aj (E aaq).neg;obtain⟨e1,e2,e3,e4⟩:=(E aaq).below D Z;have t:=xu.o c[Q] aW;generalize c[Q]=l at *;clear E Z
           by_cases v:l.kind=69
           ·have t69:((l.kind:Int)==69)=true:=bM;obtain⟨M,hB⟩:=t.1 v;have J:=qy M hB;obtain⟨V,C,f1⟩:=F.cell J;clear v F t;generalize l.neg=ng at *;cases ng
            ·skip
             have j1:(0:Int)<=(l.a:Int)*(n:Int):=bQ;have j2:(l.a:Int)*(n:Int)+(l.b:Int)<1000000:=bQ;have j3:(l.a:Int)*(n:Int)+(l.b:Int)<(n:Int)*(n:Int):=amy;have j4:(l.a:Int)*(n:Int)+(l.b:Int)<((n*n:Nat):Int):=aoB;have N:IntKind.i64.wrap ((l.a:Int)*(n:Int))=(l.a:Int)*(n:Int):=bV;have w2:IntKind.i64.wrap ((l.a:Int)*(n:Int)+(l.b:Int))=(l.a:Int)*(n:Int)+(l.b:Int):=bV;have w3:((l.a:Int)*(n:Int)+(l.b:Int)).toNat=l.a*n+l.b:=bQ;have w4:(0:Int)<=(l.a:Int)*(n:Int)+(l.b:Int):=aR;cases V
             all_goals
              exact apD
            ·exact apD
           ·have t69:((l.kind:Int)==69)=false:=ak aR;clear v F t;exact apD
          ·clear F;go_wp2;go_ret;exact⟨⟨_,rfl⟩,D⟩
      ·have c0:=rY.o w.heap.size (n*n) P wr ae H3.o.ab7 Vb.o;rw[Vb.o]at c0;have FY:=dn c0;clear c0;go_wp2_with fail;refine FY.o.mono ?_;rintro z w4 ⟨G,rfl,hr4⟩;obtain⟨rs4,y,aeW,TK⟩:=H3.o.ab8 hr4;have H4:=dn y;have Pw:=dn aeW;have ajv:=dn TK;have C:=HKI.o w.heap.size (n*n) rs4 w4 ae y.ab7 y.2.1;rw[y.2.1]at C;have lH:=dn C;clear C y aeW TK hr4;go_wp2_with fail;refine lH.o.mono ?_;rintro z w5 ⟨R,rfl,hr5⟩;obtain⟨V4,p,ah1,TJ⟩:=H4.o.ab8 hr5
       have HG:Hid ((if (G||R) then n*n-V4.count true+1 else 0)<gk):=by
        show _<_;have s:=xD.o;simp only[if_true]at s;have c5:V4.count true<=n*n:=by rw[<-p.2.1];exact List.count_le_length
        have a1:=Pw.o;have a2:=ajv.o;cases G<;>cases R<;>simp at a2 TJ ⊢<;>omega
       have HF:Hid (∃(m:Bool) (g:List Bool),Value.bool (G||R)=.bool m/\US w w5 n u7 u8 b a g/\(if (G||R) then n*n-V4.count true+1 else 0)=if m then n*n-g.count true+1 else 0):=⟨G||R,V4,rfl,p,rfl⟩;clear p ah1 TJ hr5;generalize (if (G||R) then n*n-V4.count true+1 else 0)=gn at *;cases G
       all_goals
        go_wp2_with fail
        go_roundg gn
        case measure=>exact HG.o
        case rel=>exact HF.o
