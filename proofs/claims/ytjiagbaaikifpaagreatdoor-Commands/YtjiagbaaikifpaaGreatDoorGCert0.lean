import Derived.BigQuiet
import Derived.Deep.DeepCutAuto
import Derived.Deep.QuietTactic
import Derived.Deep.RegionWith
import Derived.Test.YtjiagbaaikifpaaGreatDoorGNumMath2
set_option maxRecDepth 100000
set_option maxHeartbeats 16000000
namespace Go.Proofs.YtjiagbaaikifpaaGreatDoor
open Go.RowKit Go.Proofs.Tryz
variable {J:List Lit}{P:List Bool}{W w:World}{i m n:Nat}{v:Value}
def kP (k l:Lit):Bool:=decide (k.kind=l.kind/\k.a=l.a/\k.b=l.b)
theorem adu (a b:Nat):((a:Int)==(b:Int))=decide (a=b):=by
 rw[Bool.eq_iff_iff];exact aX
def hasB (on:List Lit)(l:Lit)(neg:Bool):Bool:=on.any (λx=>kP x l&&x.neg==neg)
theorem adC {l:Lit}{neg:Bool}(h:n<J.length)(a:kP J[n] l=true)(b:(J[n].neg==neg)=true):hasB J l neg=true:=by
 unfold hasB;rw[List.any_eq_true];exact⟨J[n],aW,by rw[a,b];rfl⟩
theorem aaD {l:Lit}{neg:Bool}(h:∀j (a:j<J.length),(kP J[j] l&&J[j].neg==neg)=false):hasB J l neg=false:=by
 unfold hasB;rw[List.any_eq_false];intro x b;obtain⟨j,a,rfl⟩:=List.getElem_of_mem b;rw[h j a];exact aW
theorem Below.lN {wr:World}(a:Below wr.drew.heap.size wr.drew w):dB wr w:=((Below.refl wr.heap.size wr).drew).trans a
theorem tX (k:Lit)(l:Lit)(w:World) :
 dH 254 #[.agg #[.bool k.neg,.int .u8 k.kind,dw k.a,dw k.b],.agg #[.bool l.neg,.int .u8 l.kind,dw l.a,dw l.b]] w λe a=>e=dF (.bool (kP k l))/\dB w a:=by
 have b:Hid (kP k l=decide (k.kind=l.kind/\k.a=l.a/\k.b=l.b)):=rfl;generalize kP k l=j at *;obtain⟨m,c,d,n⟩:=k;obtain⟨o,f,g,p⟩:=l;simp only at *;go_enter func254,ntmps254;go_wp2_with fail
 all_goals
  go_ret;refine⟨dS ?_,ai.alloc aW _⟩;rw[b.o]
  first|(have h:c=f:=by omega
         have i:d=g:=aR;rw[adu];simp[h,i];done)|(symm;rw[decide_eq_false_iff_not];intro q;omega)
theorem ER (a:List Lit)(v:Value)(l:Lit)(neg:Bool)(w:World)(H:fK w v a) :
 dH 256 #[v,.agg #[.bool l.neg,.int .u8 l.kind,dw l.a,dw l.b],.bool neg] w λr c=>r=dF (.bool (hasB a l neg))/\dB w c:=by
 obtain⟨W,X,rfl,Y,I,s⟩:=H;unfold maxLen at I;have J:Hid _:=s;clear s;go_enter func256,ntmps256;go_wp2_with fail
 go_loopw [7] (fun i wr=>∃k:Nat,i=dw k/\k<=a.length/\dB w wr/\w.heap.size<wr.heap.size/\fI wr w.heap.size 0 l/\(∀j (d:j<a.length),j<k->(kP a[j] l&&a[j].neg==neg)=false)) (fun i _=>a.length-(intOf i).toNat)
 case atStart=>
  exact⟨0,rfl,aR,ai,aW,⟨aW,aW,aW,aW⟩,by intro j _ Z;omega⟩
 case round=>
  obtain⟨k,rfl,hk,e,t,u,x⟩:=hrel;have y:Hid _:=x;clear x
  by_cases f:k<a.length
  ·obtain⟨K,rfl,h⟩:=J.o k f;have z:=aj (h f).neg;have L:=(h f).below e z;have M:Hid _:=u;obtain⟨A,N,O,P⟩:=L;obtain⟨Q,R,S,T⟩:=u;clear h;go_wp2_with fail
   go_region_with (go_at_call 254;refine(tX a[k] l _).mono ?_;rintro r c ⟨rfl,B⟩)
   all_goals
    have g:=Below.lN B;have m:=e.dW g;have f1:c.dQ K (k*4)=some (.bool a[k].neg):=g.dL A (Nat.lt_of_lt_of_le z e.size);have C:fI c w.heap.size 0 l:=M.o.below g t;have D:Hid _:=C;have E:w.heap.size<c.heap.size:=Nat.lt_of_lt_of_le t g.size;clear A N O P Q R S T B C
    have F:Hid (∀(G:(kP a[k] l&&a[k].neg==neg)=false) j (d:j<a.length),j<k+1->(kP a[j] l&&a[j].neg==neg)=false):=by
     intro G j d hjk
     by_cases U:j=k
     ·subst U;exact G
     ·exact y.o j d aR
    by_cases b:kP a[k] l=true
    ·by_cases n:(a[k].neg==neg)=true
     ·have o:Hid _:=adC f b n;rw[b];clear b;go_wp2;go_ret;exact⟨dS o.o.symm,m⟩
     ·have V:(a[k].neg==neg)=false:=by simpa using n
      have p:Hid _:=F.o (by rw[b,V];rfl);rw[b];clear b n;go_wp2;go_roundw
      ·exact⟨k+1,bL,aR,m,E,D.o,p.o⟩
      ·exact aph
    ·have q:kP a[k] l=false:=amJ;have p:Hid _:=F.o (by rw[q];rfl);rw[q];clear b q;go_wp2;go_roundw
     ·exact⟨k+1,bL,aR,m,E,D.o,p.o⟩
     ·exact aph
  ·have o:Hid (hasB a l neg=false):=aaD λj d=>y.o j d aR;go_wp2;go_ret;exact⟨dS o.o.symm,e⟩
theorem XG (a:List Lit)(v:Value)(w:World)(e:fK w v a) :
 dH 217 #[v] w λf g=>(∃m:Bool,f=dF (.bool m))/\dB w g:=by
 have n:Hid (fK w v a):=e;obtain⟨B,C,rfl,D,o,h⟩:=e;unfold maxLen at o;have p:Hid _:=h;clear h;go_enter func217,ntmps217;go_wp2_with fail
 go_loopw [3] (fun i wr=>∃k:Nat,i=dw k/\k<=a.length/\dB w wr) (fun i _=>a.length-(intOf i).toNat)
 ·exact⟨0,rfl,aR,af⟩
 case round=>
  obtain⟨k,rfl,E,b⟩:=hrel
  by_cases c:k<a.length
  ·obtain⟨F,rfl,d⟩:=p.o k c;have q:=aj (d c).neg;have r:=(d c).below b q;obtain⟨s,t,u,x⟩:=r;clear d;have y:=fK.below n.o b.drew;go_wp2_with fail
   go_region_with (go_at_call 256;refine(ER a _ a[k] (!a[k].neg) _ y).mono ?_;rintro f g ⟨rfl,j⟩)
   all_goals
    have z:=Below.lN j;have l:=b.dW z;generalize hasB a a[k] (!a[k].neg)=A at *;clear s t u x j;cases A
    ·go_wp2;go_roundw
     ·exact⟨k+1,bL,aR,l⟩
     ·exact aph
    ·go_wp2;go_ret;exact⟨⟨_,rfl⟩,l⟩
  ·go_wp2;go_ret;exact⟨⟨_,rfl⟩,b⟩
def oo (w:World)(v:Value)(cs:List (List Lit)):Prop:=gu v cs.length (λg i=>∀h:i<cs.length,∃cv,w.cell? (dA g i)=some cv/\fK w cv cs[i])
theorem oo.below {a:List (List Lit)}(h:oo w v a)(b:dB w W):oo W v a:=
 gu.imp h λ_ _ _ c hi=>by
  obtain⟨d,e,f⟩:=c hi;exact⟨d,(b.eT e),f.below b⟩
def Lit.zero:Lit:=⟨false,0,0,0⟩
def nR (w:World)(b:Nat):Prop:=∃l:Lit,fI w b 0 l/\∀o,w.frozen? (dA b o)=false
theorem nR.new (w:World)(t:TypeId):nR (w.alloc (.cells #[dP,.int .u8 0,dw 0,dw 0] t)) w.heap.size:=
 ⟨Lit.zero,⟨amU,amU,amU,amU⟩,al7⟩
theorem nR.below (h:nR w n){B:Nat}(a:Below B w W)(b:n<B):nR W n:=by
 obtain⟨l,c,d⟩:=h;exact⟨l,c.below a b,λo=>(a.gq (d o) b)⟩
theorem nR.lt (h:nR w n):n<w.heap.size:=by
 obtain⟨l,a,_⟩:=h;exact aj a.neg
theorem CP:(prog.info? 168).map (λi=>(i.zero,i.size,i.bytes))=some (some (.agg #[dP,.int .u8 0,dw 0,dw 0]),4,24):=bR
theorem Jt (w:World)(l:Lit)(t:TypeId):∀j u,l.cells[j]?=some u->(w.alloc (.cells #[.bool l.neg,.int .u8 l.kind,dw l.a,dw l.b] t)).cell? (((dA w.heap.size 0):Addr).add j)=some u:=by
 intro j u a;rw[Addr.add_lit]
 match j,a with
 | 0,a=>simp[Lit.cells]at a;subst a;simp
 | 1,a=>simp[Lit.cells]at a;subst a;simp
 | 2,a=>simp[Lit.cells]at a;subst a;simp
 | 3,a=>simp[Lit.cells]at a;subst a;simp
 | j+4,a=>simp[Lit.cells]at a
theorem pE (l:Lit):∀u∈l.cells,u.oneCell'=true:=by
 intro u a;simp[Lit.cells]at a;rcases a with rfl|rfl|rfl|rfl<;>rfl
theorem wJ (a:List Lit)(l:Lit):((a++[l]).map Lit.cells).flatten=(a.map Lit.cells).flatten++l.cells:=aW
def abk (cs:List (List Lit))(on:List Lit)(e:Ending):Prop:=
 ∃(u:Lit) (b:Bool),e=dF (dM #[.agg #[.bool u.neg,.int .u8 u.kind,dw u.a,dw u.b],.bool b])/\(b=true->u.kind=0\/∃c∈cs,u∈c/\hasB on u u.neg=false)
theorem Below.Jl (h:Below n w W){b:Nat}(a:n<=b)(c d e f:Value) :
 Below n w ((((W.setCell (dA b 0) c).setCell (dA b 1) d).setCell (dA b 2) e).setCell (dA b 3) f):=
 (((h.setCell (p:=dA b 0) a _).setCell (p:=dA b 1) a _).setCell (p:=dA b 2) a _).setCell (p:=dA b 3) a _
theorem YT (e:List (List Lit))(f:List Lit)(pb:Nat)(S T:Value)(w:World)(hrow:fK w S f)(hcs:oo w T e)(hp:w.dQ pb 2=some T)(hsm:∀c∈e,c.length<=1000000) :
 dH 218 #[dK pb 0,S] w λC D=>abk e f C/\dB w D:=by
 have mh:Hid (fK w S f):=hrow;have Jc:Hid (oo w T e):=hcs;obtain⟨aon,aiD,rfl,akA,agO,_⟩:=hrow;obtain⟨ac,alE,rfl,akB,agP,afg⟩:=hcs;unfold maxLen at agO agP;have PM:Hid _:=afg;clear afg;go_enter func218,ntmps218;go_wp2_with fail
 go_loopw [6] (fun s wr=>∃k:Nat,s=dw k/\k<=e.length/\dB w wr/\nR wr w.heap.size) (fun s _=>e.length-(intOf s).toNat)
 case atStart=>
  exact⟨0,rfl,aR,ai,nR.new _ _⟩
 case round=>
  obtain⟨k,rfl,hk,E,F⟩:=hrel;rename World=>h;have pM:Hid (nR h w.heap.size):=F;have U:=nR.lt F;have hp1:=E.eT hp
  by_cases hlt:k<e.length
  ·obtain⟨bA,rfl,hc⟩:=PM.o k hlt;obtain⟨cv,hcv,t⟩:=hc hlt;have aik:=E.eT hcv;have rY:Hid (fK w cv e[k]):=t;obtain⟨acl,Az,rfl,EP,xQ,DZ⟩:=t;unfold maxLen at xQ;have JW:Hid _:=DZ;clear hc hcv DZ;have V:e[k]∈e:=aW;generalize e[k]=c at *;have HCM:Hid (c∈e):=V;have alk:=hsm c V;clear V;clear F;go_wp2_with fail
   go_loopw [8,9,10] (fun lv sv iv wr2=>∃(b:List Lit) (g:Bool) (a:Nat),sv=.bool g/\iv=dw a/\a<=c.length/\wr2.ownsRow h.heap.size 168 4 lv b.length (b.map Lit.cells).flatten/\b.length<=a/\(∀x∈b,x∈c)/\(g=false->∀x∈c.take a,hasB f x x.neg=false)/\dB h wr2) (fun _ _ s _=>c.length-(intOf s).toNat)
   ·exact⟨[],false,0,rfl,rfl,aR,World.ownsRow_nil _ _ _ _,aW,aW,aW,af⟩
   case round=>
    obtain⟨b,g,a,rfl,rfl,hjn,W,ak3,aeU,aeP,u⟩:=hrel;have HOWN:=dn W;have v:=dn aeU;have af7:=dn aeP;have pK:=dn (fK.wH (Row.fq W aW am6));have i:=E.dW u;clear W aeU aeP
    by_cases G:a<c.length
    ·obtain⟨gc,rfl,X⟩:=JW.o a G;have H:=aj (X G).neg;have hc1:=(X G).below i H;have lH:=dn hc1;obtain⟨m,n,o,p⟩:=hc1;have j:=fK.below mh.o i.drew;clear X;go_upto_region 10 with fail
     go_cut [11] (fun y z=>y=.bool (hasB f c[a] c[a].neg)/\dB wr z)
     case first=>
      go_region_with (go_at_call 256;refine(ER f _ c[a] c[a].neg _ j).mono ?_;rintro C D ⟨rfl,A⟩)
      all_goals
       go_wp2;go_meet
       ·exact⟨rfl,Below.lN A⟩
     case rest=>
      obtain⟨rfl,I⟩:=hcut;clear j m n o p;have J:=i.dW I;have hc2:=lH.o.below I (Nat.lt_of_lt_of_le H i.size);have jl:=dn hc2;obtain⟨m,n,o,p⟩:=hc2;have j:=fK.below mh.o J.drew;go_upto_region 11 with fail
      go_cut [12] (fun y z=>(∃Y:Bool,y=.bool Y)/\dB wc z)
      case first=>
       go_region_with (go_at_call 256;refine(ER f _ c[a] (!c[a].neg) _ j).mono ?_;rintro C D ⟨rfl,A⟩)
       all_goals
        go_wp2;go_meet
        ·exact⟨⟨_,rfl⟩,Below.lN A⟩
      case rest=>
       rename World=>wd;obtain⟨⟨bno,rfl⟩,K⟩:=hcut;clear j m n o p;have Z:=J.dW K;have aaC:=I.dW K;have hc3:=jl.o.below K (Nat.lt_of_lt_of_le H J.size);have oQ:=dn hc3;obtain⟨m,n,o,p⟩:=hc3;have j:=fK.below pK.o aaC.drew;go_upto_region 12 with fail;go_cut [13] (fun y z=>(∃Y:Bool,y=.bool Y)/\dB wd z)
       case first=>
        go_region_with (go_at_call 256;refine(ER b _ c[a] c[a].neg _ j).mono ?_;rintro C D ⟨rfl,A⟩)
        all_goals
         go_wp2;go_meet
         ·exact⟨⟨_,rfl⟩,Below.lN A⟩
       case rest=>
        rename World=>we;obtain⟨⟨bold,rfl⟩,L⟩:=hcut;clear j m n o p;have aip:=Z.dW L;have afs:=aaC.dW L;have hc4:=oQ.o.below L (Nat.lt_of_lt_of_le H Z.size);obtain⟨m,n,o,p⟩:=hc4;have U6:=dn (ownsRow_below HOWN.o afs)
        have ag7:Hid ((g||hasB f c[a] c[a].neg)=false->∀x∈c.take (a+1),hasB f x x.neg=false):=by
         intro B x d;rw[Bool.or_eq_false_iff]at B;rw[List.take_succ_eq_append_getElem G]at d;rcases List.mem_append.1 d with d|d
         ·exact af7.o B.1 x d
         ·rw[List.mem_singleton.1 d];exact B.2
        have q:=u.dW afs;generalize hasB f c[a] c[a].neg=yes at *;clear I K L aaC i J Z u;obtain⟨i0,hi,hz0,hz1,hz2⟩:=info_parts CP
        have abF:Hid (∀(r:List Lit) (M:Value) (l:World),l.ownsRow h.heap.size 168 4 M r.length (r.map Lit.cells).flatten->r.length<=a+1->(∀x∈r,x∈c)->dB h l->∃(b:List Lit) (sat':Bool) (N:Nat),Value.bool (g||yes)=.bool sat'/\Value.int .i64 ((a:Int)+1)=dw N/\N<=c.length/\l.ownsRow h.heap.size 168 4 M b.length (b.map Lit.cells).flatten/\b.length<=N/\(∀x∈b,x∈c)/\(sat'=false->∀x∈c.take N,hasB f x x.neg=false)/\dB h l):=by
         intro r M l h1 h2 h3 h4;exact⟨r,g||yes,a+1,rfl,bL,aR,h1,h2,h3,ag7.o,h4⟩
        cases bno
        ·cases bold
         ·have Cq:=U6.o;have Gl:=aip.size;have alp:w.heap.size<we.heap.size:=Nat.lt_of_lt_of_le U q.size;cases g<;>cases yes
          all_goals
           go_wp2_with (at_builtin;refine wpList_append_own _ rfl _ _ 161 rfl h.heap.size 168 i0 (.agg #[dP,.int .u8 0,dw 0,dw 0]) 4 24 underlying161 hi hz0 hz1 hz2 rfl aY _ _ _ rfl (Cq.alloc _) (dA we.heap.size 0) 1 1 c[a].cells rfl rfl (Jt we c[a] _) (pE _) bz aR (by simp;have:=q.size;omega) ?_;intro M l hown' hgrow _);have D6:dB h l:=(q.fO).grown hgrow (by simp;have:=q.size;omega) (by intro bg hq;exact(Cq.lt bg hq).1);have abH:=dn hown';clear hown' hgrow Cq;go_wp2;go_roundw
           ·exact abF.o (b++[c[a]]) _ _ (by rw[wJ,List.length_append];exact abH.o) aX (by intro x d;rcases List.mem_append.1 d with d|d;exact v.o x d;rw[List.mem_singleton.1 d];simp) D6
           ·exact aph
         ·cases g<;>cases yes
          all_goals
           go_wp2;go_roundw
           ·exact abF.o b _ _ U6.o aR v.o q
           ·exact aph
        ·cases g<;>cases yes
         all_goals
          go_wp2;go_roundw
          ·exact abF.o b _ _ U6.o aR v.o q
          ·exact aph
    ·have HB2:=dn (nR.below pM.o u U);obtain⟨al,afN,WW,akC,agR,afi⟩:=pK.o;have ahn:=dn afi;clear afi;subst WW;unfold maxLen at agR
     have ag6:Hid (g=false->∀x∈c,hasB f x x.neg=false):=by
      intro B x d;exact af7.o B x (by rw[List.take_of_length_le aR];exact d)
     obtain⟨bn,hz,hf⟩:=nR.below pM.o u U;obtain⟨O,P,Q,R⟩:=hz;cases g
     ·by_cases h0:b.length=0
      ·have hls:b=[]:=List.length_eq_zero_iff.1 h0;subst hls;go_wp2;exact dR (dM #[.agg #[dP,.int .u8 0,dw 0,dw 0],fu]) ang rfl ⟨⟨Lit.zero,true,rfl,λ_=>.inl rfl⟩,Below.Jl i ae _ _ _ _⟩
      ·by_cases h1:b.length=1
       ·obtain⟨gl,rfl,t⟩:=ahn.o 0 aR;obtain⟨d1,d2,d3,d4⟩:=t aR;have ajr:Hid (∃c∈e,b[0]∈c/\hasB f b[0] b[0].neg=false):=⟨c,HCM.o,v.o _ aW,ag6.o rfl _ (v.o _ aW)⟩;generalize b[0]=u0 at *;simp only[Nat.zero_mul,Nat.zero_add]at d1 d2 d3 d4;clear t;go_wp2;exact dR (dM #[.agg #[.bool u0.neg,.int .u8 u0.kind,dw u0.a,dw u0.b],fu]) ang rfl ⟨⟨u0,true,rfl,λ_=>.inr ajr.o⟩,Below.Jl i ae _ _ _ _⟩
       ·have h0':((b.length:Int)==0)=false:=ak aR;have h1':((b.length:Int)==1)=false:=ak aR;clear h0 h1;go_wp2;go_roundw
        ·exact⟨k+1,bL,aR,i,HB2.o⟩
        ·exact aph
     ·go_wp2;go_roundw
      ·exact⟨k+1,bL,aR,i,HB2.o⟩
      ·exact aph
  ·obtain⟨bn,hz,hf⟩:=F;obtain⟨O,P,Q,R⟩:=hz;go_wp2;exact dR (dM #[.agg #[dP,.int .u8 0,dw 0,dw 0],dP]) ang rfl ⟨⟨Lit.zero,false,rfl,λbq=>by cases bq⟩,Below.Jl E ae _ _ _ _⟩
theorem xO (a:Nat)(w:World) :
 dH 249 #[dw a] w λe b=>e=dF (.agg #[dP,.int .u8 84,dw a,dw 0])/\dB w b:=by
 go_enter func249,ntmps249;go_wp2;exact dR (.agg #[dP,.int .u8 84,dw a,dw 0]) (by simp[results,results249,go_sem]) rfl ⟨rfl,ai⟩
theorem qU (a b:Nat)(w:World) :
 dH 205 #[dw a,dw b] w λe c=>e=dF (.agg #[dP,.int .u8 76,dw a,dw b])/\dB w c:=by
 go_enter func205,ntmps205;go_wp2;exact dR (.agg #[dP,.int .u8 76,dw a,dw b]) (by simp[results,results205,go_sem]) rfl ⟨rfl,ai⟩
theorem xP (a b:Nat)(w:World) :
 dH 204 #[dw a,dw b] w λe c=>e=dF (.agg #[dP,.int .u8 69,dw (min a b:Nat),dw (max a b:Nat)])/\dB w c:=by
 by_cases h:b<a
 ·rw[Nat.min_eq_right (Nat.le_of_lt h),Nat.max_eq_left (Nat.le_of_lt h)];go_enter func204,ntmps204;go_wp2;exact dR (.agg #[dP,.int .u8 69,dw b,dw a]) (by simp[results,results204,go_sem]) rfl ⟨rfl,ai⟩
 ·rw[Nat.min_eq_left aR,Nat.max_eq_right aR];go_enter func204,ntmps204;go_wp2;exact dR (.agg #[dP,.int .u8 69,dw a,dw b]) (by simp[results,results204,go_sem]) rfl ⟨rfl,ai⟩
def fV (w:World)(eb:Nat)(av:Nat->Prop)(ats:List Lit)(on:List Bool):Prop:=
 ∃va vo,w.cell? (dA eb 0)=some va/\w.cell? (dA eb 1)=some vo/\(∀o,w.frozen? (dA eb o)=false)/\
  w.ownsRow (eb+1) 168 4 va ats.length (ats.map Lit.cells).flatten/\w.ownsRow (eb+1) 4 1 vo on.length (on.map Value.bool)/\
  (∀b,va.ownBlock=some b->vo.ownBlock≠some b)/\ats.length=on.length/\¬av eb/\(∀b,va.ownBlock=some b->¬av b)/\(∀b,vo.ownBlock=some b->¬av b)
theorem fV.below {c:Nat->Prop}(h:fV w n c J P)(a:dB w W):fV W n c J P:=by
 obtain⟨e,f,d,g,i,j,k,l,m⟩:=h;have b:=aj d;exact⟨e,f,(a.dL d b),(a.dL g b),λo=>(a.gq (i o) b),ownsRow_below j a,ownsRow_below k a,l,m⟩
theorem fV.lt {a:Nat->Prop}(h:fV w n a J P):n<w.heap.size:=by
 obtain⟨c,d,b,_⟩:=h;exact aj b
def jm (w:World)(v:Value)(on:List Bool):Prop:=gu v on.length (λg i=>∀h:i<on.length,w.cell? (dA g i)=some (.bool on[i]))
theorem agX {a c:Type}(f:a->c)(l:List a):(l.map (λb=>[f b])).flatten=l.map f:=by
 induction l with
 | nil=>rfl
 | cons b l d=>rw[List.map_cons,List.flatten_cons,d];rfl
theorem jm.fq {base:Nat}{e:TypeId}(h:w.ownsRow base e 1 v P.length (P.map Value.bool)):jm w v P:=by
 have a:Row w 1 v (P.map (λb=>[Value.bool b])):=Row.fq (base:=base) (e:=e) (n:=P.length) (by rw[agX];exact h) aW (by
  intro x c;obtain⟨b,_,rfl⟩:=List.mem_map.1 c;rfl)
 refine gu.imp' a.sl aW λg i hi d f=>?_;have:=d hi 0 aR (.bool P[i]) aW;simpa using this
theorem jm.below (h:jm w v P)(a:dB w W):jm W v P:=
 gu.imp h λ_ _ _ b hi=>(a.eT (b hi))
theorem DR (h:Nat)(z:Nat->Prop)(a:List Lit)(j:List Bool)(l:Lit)(w:World)(m:fV w h z a j) :
 dH 251 #[dK h 0,.agg #[.bool l.neg,.int .u8 l.kind,dw l.a,dw l.b]] w λn o=>iY n/\dB w o:=by
 have p:=m.lt;obtain⟨va,vo,A,B,C,q,r,D,s,_⟩:=m;have E:=dn (fK.wH (Row.fq q aW am6));have F:=dn (jm.fq r);obtain⟨aa,aiE,rfl,acp,G,t⟩:=E.o;obtain⟨ab,Ox,rfl,hcapb,H,u⟩:=F.o;unfold maxLen at G H;have I:=dn t;have J:=dn u;have H7:=dn s;have h7':a.length<=j.length:=aR;clear C q r D s t u;go_enter func251,ntmps251;go_wp2_with fail
 go_loopw [5] (fun i wr=>∃k:Nat,i=dw k/\k<=a.length/\dB w wr/\w.heap.size<wr.heap.size/\fI wr w.heap.size 0 l) (fun i _=>a.length-(intOf i).toNat)
 case atStart=>
  exact⟨0,rfl,aR,ai,aW,⟨aW,aW,aW,aW⟩⟩
 case round=>
  obtain⟨k,rfl,hk,b,v,x⟩:=hrel;have K:=b.dL A p
  by_cases d:k<a.length
  ·obtain⟨bg,rfl,e⟩:=I.o k d;have L:=aj (e d).neg;have M:=(e d).below b L;have N:=dn x;obtain⟨O,P,Q,R⟩:=M;obtain⟨S,T,U,V⟩:=x;clear e;go_upto_region 4 with fail
   go_cut [6] (fun W X=>(∃f:Bool,W=.bool f)/\dB wr X)
   case first=>
    go_region_with (go_at_call 254;refine(tX a[k] l _).mono ?_;rintro n o ⟨rfl,Y⟩)
    all_goals
     go_wp2;go_meet
     ·exact⟨⟨_,rfl⟩,Below.lN Y⟩
   case rest=>
    obtain⟨⟨f,rfl⟩,g⟩:=hcut;have c:=b.dW g;have Z:=dn (N.o.below g v);have hs2:w.heap.size<wc.heap.size:=Nat.lt_of_lt_of_le v g.size;clear O P Q R S T U V K;cases f
    ·go_wp2;go_roundw
     ·exact⟨k+1,bL,aR,c,hs2,Z.o⟩
     ·exact aph
    ·obtain⟨gb,rfl,y⟩:=J.o k aR;have g2:=c.dL B p;have g3:=c.eT (y aR);clear y;go_wp2;go_ret;exact⟨⟨_,rfl⟩,c⟩
  ·go_wp2;go_ret;exact⟨⟨_,rfl⟩,b⟩
theorem zV (c:Nat)(d:Nat->Prop)(e:List Lit)(f:List Bool)(a b:Nat)(w:World)(j:fV w c d e f) :
 dH 252 #[dK c 0,dw a,dw b] w λh k=>iY h/\dB w k:=by
 by_cases i:a=b
 ·subst i;go_enter func252,ntmps252;go_wp2;go_ret;exact⟨⟨_,rfl⟩,af⟩
 ·have o:((a:Int)==(b:Int))=false:=ak aR;clear i;go_enter func252,ntmps252;go_wp2_with fail;refine(xP a b _).dX λl g=>?_;have m:fV (l.alloc (.cells #[dP,.int .u8 69,dw (min a b:Nat),dw (max a b:Nat)] 168)) c d e f:=(j.below g).below ai;generalize min a b=x at *;generalize max a b=y at *;go_wp2_with fail;refine(DR c d e f ⟨false,69,x,y⟩ _ m).mono ?_;rintro h p ⟨⟨q,rfl⟩,n⟩;go_wp2;go_ret;exact⟨⟨_,rfl⟩,(g.fO).trans (n.mono (by simp;have:=g.size;omega))⟩
theorem Kz (m:Nat)(D:Nat->Prop)(a:List Lit)(n:List Bool)(c:List Lit)(v:Value)(w:World)(o:fV w m D a n)(E:fK w v c) :
 dH 203 #[dK m 0,v] w λp q=>iY p/\dB w q:=by
 have r:=o.lt;obtain⟨va,vo,F,G,H,s,t,I,J,_⟩:=o;have K:=dn (fK.wH (Row.fq s aW am6));have L:=dn (jm.fq t);obtain⟨aa,aiE,rfl,acp,M,u⟩:=K.o;obtain⟨ab,Ox,rfl,hcapb,N,x⟩:=L.o;obtain⟨al,Az,rfl,EP,O,y⟩:=E;unfold maxLen at M N O;have P:=dn u;have Q:=dn x;have R:=dn y;have h7':a.length<=n.length:=aR;clear H s t I J u x y;go_enter func203,ntmps203;go_wp2_with fail
 go_loopw [5] (fun i wr=>∃k:Nat,i=dw k/\k<=c.length/\dB w wr) (fun i _=>c.length-(intOf i).toNat)
 ·exact⟨0,rfl,aR,af⟩
 case round=>
  obtain⟨k,rfl,hk,z⟩:=hrel;rename World=>wO
  by_cases e:k<c.length
  ·obtain⟨gl,rfl,f⟩:=R.o k e;have A:=aj (f e).neg;have B:=dn (f e);clear f;go_wp2_with fail
   go_loopw [6] (fun i wr=>∃j:Nat,i=dw j/\j<=a.length/\dB w wr) (fun i _=>a.length-(intOf i).toNat)
   ·exact⟨0,rfl,aR,z⟩
   case round=>
    obtain⟨j,rfl,hj,d⟩:=hrel;have S:=d.dL F r
    by_cases g:j<a.length
    ·obtain⟨bn,rfl,h⟩:=P.o j g;have T:=aj (h g).neg;have U:=(h g).below d T;have V:=B.o.below d A;obtain⟨W,X,Y,Z⟩:=U;obtain⟨b1,b2,b3,b4⟩:=V;clear h;go_upto_region 7 with fail
     go_cut [7] (fun bg wx=>(∃l:Bool,bg=.bool l)/\dB wr wx)
     case first=>
      go_region_with (go_at_call 254;refine(tX a[j] c[k] _).mono ?_;rintro p q ⟨rfl,hb⟩)
      all_goals
       go_wp2;go_meet
       ·exact⟨⟨_,rfl⟩,Below.lN hb⟩
     case rest=>
      obtain⟨⟨l,rfl⟩,hbw⟩:=hcut;have b:=d.dW hbw;clear W X Y Z b1 b2 b3 b4 S;cases l
      ·go_wp2_with fail;go_quiet (fail);go_wp2;go_roundw
       ·exact⟨j+1,bL,aR,below_drewN b _⟩
       ·exact aph
      ·obtain⟨gb,rfl,C⟩:=Q.o j aR;have g2:=b.dL G r;have g3:=b.eT (C aR);have g4:=(B.o.below b A).neg;clear C;go_wp2_with fail;go_quiet (fail);go_wp2_with fail
       all_goals first
        | (go_ret
           exact⟨⟨_,rfl⟩,below_drewN b _⟩)
        | (go_roundw
           ·exact⟨j+1,bL,aR,below_drewN b _⟩
           ·simp[intOf];omega)
    ·go_wp2;go_roundw
     ·exact⟨k+1,bL,aR,d⟩
     ·exact aph
  ·go_wp2;go_ret;exact⟨⟨_,rfl⟩,z⟩
def jr:List Bool->Nat
 | []=>0
 | b::l=>(if b then 1 else 0)+2*jr l
theorem Ru (l:List Bool):jr l<2 ^ l.length:=by
 induction l with
 | nil=>simp[jr]
 | cons b l a=>simp only[jr,List.length_cons,Nat.pow_succ];split<;>omega
theorem Uz (n:Nat)(l:List Bool):jr (List.replicate n false++l)=2 ^ n*jr l:=by
 induction n with
 | zero=>simp
 | succ n a=>rw[List.replicate_succ,List.cons_append,jr,a,Nat.pow_succ];simp[Nat.mul_assoc,Nat.mul_comm]
theorem XN (n:Nat)(l:List Bool):jr (List.replicate n true++l)=2 ^ n*jr l+(2 ^ n-1):=by
 induction n with
 | zero=>simp
 | succ n a=>
  rw[List.replicate_succ,List.cons_append,jr,a,Nat.pow_succ];have:=Nat.pow_pos (n:=n) (show 0<2 by omega);have e:2 ^ n*2*jr l=2*(2 ^ n*jr l):=by rw[Nat.mul_comm (2 ^ n) 2,Nat.mul_assoc]
  simp only[if_true];exact aR
theorem XO (f:n<P.length)(a:∀j (g:j<P.length),j<n->P[j]=true)(b:P[n]=false) :
 jr (List.replicate n false++true::P.drop (n+1))=jr P+1:=by
 have e:P=List.replicate n true++false::P.drop (n+1):=by
  apply List.ext_getElem
  ·exact aX
  ·intro i c h
   by_cases hi:i<n
   ·rw[List.getElem_append_left (by simp;exact hi)];simp;exact a i c hi
   ·rw[List.getElem_append_right aX];simp only[List.length_replicate]
    by_cases d:i=n
    ·subst d;simp[b]
    ·rw[List.getElem_cons];simp only[show ¬i-n=0 by omega,dif_neg,not_false_eq_true,List.getElem_drop]
     congr 1;omega
 rw[Uz,jr]
 conv=>rhs;rw[e]
 rw[XN,jr];have:=Nat.pow_pos (n:=n) (show 0<2 by omega);simp only[if_true,Bool.false_eq_true,if_false,Nat.mul_add,Nat.mul_one,Nat.zero_add];exact aR
theorem fV.set {a:Nat->Prop}(h:w.cell? (dA n 0)=some v)(j:w.cell? (dA n 1)=some (dJ m P.length i))
 (l:∀o,w.frozen? (dA n o)=false) (p:w.ownsRow (n+1) 168 4 v J.length (J.map Lit.cells).flatten) (d:w.ownsRow (n+1) 4 1 (dJ m P.length i) P.length (P.map Value.bool))
 (f:∀b,v.ownBlock=some b->(Value.slice (some (dA m 0)) P.length i).ownBlock≠some b) (q:J.length=P.length) (g:¬a n/\(∀b,v.ownBlock=some b->¬a b)/\(∀b,(Value.slice (some (dA m 0)) P.length i).ownBlock=some b->¬a b)) (k:Nat) (b:Bool) :
 fV (w.setCell (dA m k) (.bool b)) n a J (P.set k b)/\Below n w (w.setCell (dA m k) (.bool b))/\(∀c,a c->(w.setCell (dA m k) (.bool b)).heap[c]?=w.heap[c]?):=by
 have u:=(d.lt m rfl).1;obtain⟨r,s⟩:=d.stored k (.bool b);refine⟨⟨v,dJ m P.length i,?_,?_,?_,?_,?_,f,by simp[q],g⟩,?_,?_⟩
 ·exact(World.cell?_of_block (aD (by show n≠m;omega))).trans h
 ·exact(World.cell?_of_block (aD (by show n≠m;omega))).trans j
 ·intro o;exact(World.frozen?_of_block (aD (by show n≠m;omega))).trans (l o)
 ·refine p.kept s ?_;cases hv:v.ownBlock with
  | none=>exact .inl rfl
  | some c=>exact .inr λe=>f c hv (by show some m=some c;exact e.symm)
 ·rw[List.length_set,List.map_set];exact r
 ·exact af.setCell (by show n<=m;omega) _
 ·intro c t;exact aD (λe=>g.2.2 c (by show some m=some c;rw[e]) t)
theorem Ze (a:n<P.length)(b:Bool):(List.replicate n false++P.drop n).set n b=List.replicate n false++b::P.drop (n+1):=by
 rw[List.set_append,if_neg aW,List.length_replicate,Nat.sub_self,List.drop_eq_getElem_cons a];rfl
theorem aaI (a:n<P.length)(h:n<(List.replicate n false++P.drop n).length):(List.replicate n false++P.drop n)[n]=P[n]:=by
 rw[List.getElem_append_right aW];exact aW
theorem V8 (k:Nat)(l:List Bool):List.replicate k false++false::l=List.replicate (k+1) false++l:=by
 rw[List.replicate_succ',List.append_assoc];rfl
def OQ (w':World)(eb:Nat)(av:Nat->Prop)(ats:List Lit)(on:List Bool)(e:Ending):Prop:=
 ∃(b:Bool) (on':List Bool),e=dF (.bool b)/\fV w' eb av ats on'/\(b=true->jr on'=jr on+1)
theorem MW (d:Nat)(g:Nat->Prop)(m:List Lit)(a:List Bool)(w:World)(u:fV w d g m a) :
 dH 201 #[dK d 0] w λM n=>OQ n d g m a M/\Below d w n/\(∀c,g c->n.heap[c]?=w.heap[c]?):=by
 have W:=u.lt;go_enter func201,ntmps201;go_wp2_with fail
 go_loopw [3] (fun o wr=>∃(k:Nat) (b:List Bool),o=dw k/\k<=a.length/\fV wr d g m b/\b=List.replicate k false++a.drop k/\(∀j (v:j<a.length),j<k->a[j]=true)/\Below d w wr/\(∀c,g c->wr.heap[c]?=w.heap[c]?)) (fun o _=>a.length-(intOf o).toNat)
 ·exact⟨0,a,rfl,aR,u,aW,by intro j _ x;omega,af,λ_ _=>rfl⟩
 case round=>
  obtain⟨k,b,rfl,X,y,h,z,p,A⟩:=hrel;have q:=dn A;clear A;have N:=dn y;have Y:=dn h;have B:=dn z;obtain⟨Z,vo,O,C,D,E,i,F,P,G⟩:=y;have H:b.length=a.length:=by rw[h];simp;omega
  have Q:=dn (jm.fq i);obtain⟨ab,Ox,rfl,hcapb,R,I⟩:=Q.o;unfold maxLen at R
  by_cases r:k<a.length
  ·obtain⟨S,rfl,J⟩:=I k aR;have s:=J aR;have gf:=i.frozenAt k;have K:=λe=>fV.set (k:=k) (b:=e) O (by rw[H]at *;exact C) D E (by exact i) F P G;have f:=dn K;have t:b[k]' aR=a[k]:=by subst h;exact aaI r _
   have L:Hid (∀e,b.set k e=List.replicate k false++e::a.drop (k+1)):=by intro e;subst h;exact Ze r e
   rw[t]at s;rw[H]at C;have ald:=(i.lt S rfl).1;clear K J I D E i F G h z;cases hb:a[k]
   ·rw[hb]at s;have T:=dn (XO r B.o hb);clear hb t;go_wp2_with fail;go_region
    all_goals
     go_wp2;go_ret;exact⟨⟨true,b.set k true,rfl,(f.o true).1.below (af.drew),λ_=>by rw[L.o];exact T.o⟩,(p.trans (f.o true).2.1).drew,λc l=>((f.o true).2.2 c l).trans (q.o c l)⟩
   ·rw[hb]at s;have U:=dn hb;clear hb t;go_wp2_with fail;go_region
    all_goals
     go_wp2;go_roundw
     case rel=>
      refine⟨k+1,b.set k false,bL,aR,(f.o false).1.below (af.drew),by rw[L.o,V8],?_,(p.trans (f.o false).2.1).drew,λc l=>((f.o false).2.2 c l).trans (q.o c l)⟩;intro j v hjk
      by_cases V:j=k
      ·subst V;exact U.o
      ·exact B.o j v aR
     case measure=>exact aph
  ·go_wp2;go_ret;exact⟨⟨false,b,rfl,N.o,λx=>by cases x⟩,p,q.o⟩
def ql (cs:List (List Lit))(on:List Lit):Nat:=(cs.flatten.filter (λx=>!hasB on x x.neg)).length
theorem SA (u:Lit):kP u u=true:=by simp[kP]
theorem KE (a:List Lit)(u l:Lit)(neg:Bool):hasB (a++[u]) l neg=(hasB a l neg||(kP u l&&u.neg==neg)):=by
 unfold hasB;rw[List.any_append];exact aW
theorem Lx {b:Type}(p q:b->Bool)(l:List b)(x:b)(a:x∈l)(e:p x=true)(f:q x=false)(c:∀y,q y=true->p y=true):(l.filter q).length<(l.filter p).length:=by
 induction l with
 | nil=>cases a
 | cons y l d=>
  rcases List.mem_cons.1 a with rfl|a
  ·rw[List.filter_cons,List.filter_cons,e,f]
   have:(l.filter q).length<=(l.filter p).length:=by
    clear d a
    induction l with
    | nil=>simp
    | cons z l g=>
     rw[List.filter_cons,List.filter_cons];cases hqz:q z
     ·cases hpz:p z<;>simp<;>omega
     ·rw[c z hqz];exact aX
   exact aX
  ·have:=d a;rw[List.filter_cons,List.filter_cons];cases hqz:q y
   ·cases hpz:p y<;>simp<;>omega
   ·rw[c y hqz];exact aX
theorem Qv {a:List (List Lit)}{u:Lit}{c:List Lit}(d:c∈a)(e:u∈c)(f:hasB J u u.neg=false):ql a (J++[u])<ql a J:=by
 unfold ql;refine Lx _ _ _ u (List.mem_flatten.2 ⟨c,d,e⟩) (by simp[f]) ?_ ?_
 ·rw[KE,SA];exact aW
 ·intro y b;rw[KE]at b;simp at b ⊢;exact b.1
theorem Fp (a:List (List Lit))(b:List Lit):ql a b<=a.flatten.length:=List.length_filter_le _ _
def Lit.flip (l:Lit):Lit:=⟨!l.neg,l.kind,l.a,l.b⟩
theorem Lg {a b:Type}(f:a->b)(l:List a)(k:Nat)(h:k<l.length):(l.take (k+1)).map f=(l.take k).map f++[f l[k]]:=by
 rw[List.take_succ_eq_append_getElem h,List.map_append];rfl
theorem nW (w:World)(l:Lit)(t:TypeId)(n:Nat)(a:n=w.heap.size):∀j u,l.cells[j]?=some u->(w.alloc (.cells #[.bool l.neg,.int .u8 l.kind,dw l.a,dw l.b] t)).cell? (((dA n 0):Addr).add j)=some u:=by
 subst a;exact Jt w l t
theorem QJ (a:List (List Lit))(b:List Lit)(r:Nat)(v s:Value)(w:World)(G:fK w v b)(H:oo w s a)(Z:w.dQ r 2=some s)(I:∀j∈a,j.length<=1000000)(hls:b.length<=1000000)(hT:a.flatten.length<=1000000000) :
 dH 153 #[dK r 0,v] w λt w'=>(∃g:Bool,t=dF (.bool g))/\dB w w':=by
 have mh:=dn G;have Jc:=dn H;obtain⟨al,Az,rfl,EP,xQ,J⟩:=G;unfold maxLen at xQ;have PM:=dn J;have oO:=dn I;clear J I H;obtain⟨K,hi,M,N,O⟩:=info_parts CP;go_enter func153,ntmps153;go_wp2_with fail
 go_loopw [5,6] (fun v x wr=>∃k:Nat,x=dw k/\k<=b.length/\wr.ownsRow w.heap.size 168 4 v k (((b.take k).map Lit.flip).map Lit.cells).flatten/\dB w wr) (fun _ x _=>b.length-(intOf x).toNat)
 ·exact⟨0,rfl,aR,World.ownsRow_nil _ _ _ _,af⟩
 case round=>
  obtain⟨k,rfl,hk,d,l⟩:=hrel;have m:=dn d
  by_cases n:k<b.length
  ·obtain⟨bg,rfl,f⟩:=PM.o k n;have hgb:=aj (f n).neg;have o:=(f n).below l hgb;obtain⟨e1,e2,e3,e4⟩:=o;clear f d;have Yn:=dn (Lg Lit.flip b k n);generalize hx:b[k]=P at *;clear hx;have hs1:=l.size;have e:=m.o;go_wp2_with (at_builtin;refine wpList_append_own _ rfl _ _ 161 rfl w.heap.size 168 K (.agg #[dP,.int .u8 0,dw 0,dw 0]) 4 24 underlying161 hi M N O rfl aY _ _ _ rfl ((e.alloc _).alloc _) (dA (wr.heap.size+1) 0) 1 1 P.flip.cells rfl rfl (nW _ P.flip _ _ aW) (pE _) bz aR aX ?_;intro v' Q h i _);have y:dB w Q:=((l.alloc hs1 _).alloc aX _).grown i aX (by intro z A;exact(e.lt z A).1);have B:=dn h;clear h i e;go_wp2;go_roundw
   ·exact⟨k+1,bL,aR,by rw[Yn.o,wJ];exact B.o,y⟩
   ·exact aph
  ·have ajc:Hid (wr.ownsRow w.heap.size 168 4 u5 (b.map Lit.flip).length ((b.map Lit.flip).map Lit.cells).flatten):=by
    have:=m.o;rw[List.take_of_length_le aR]at this;have hke:k=(b.map Lit.flip).length:=aX;rw[<-hke];exact this
   generalize R:b.map Lit.flip=L at *;have Oh:L.length<=1000000:=by rw[<-R];simp;omega
   clear R d;have hop:=Fp a L;go_wp2_with fail
   go_loopg [5] (ql a L) (fun gk v wr=>∃c:List Lit,gk=ql a c/\wr.ownsRow w.heap.size 168 4 v c.length (c.map Lit.cells).flatten/\c.length+ql a c<=1000000+a.flatten.length/\dB w wr)
   ·exact⟨L,rfl,ajc.o,aR,l⟩
   case round=>
    obtain⟨c,S,d,hcnt,Hz⟩:=hrel;have xD:=dn S;have m:=dn d;have pK:=dn (fK.wH (Row.fq d aW am6));clear S d;have C:=pK.o;go_wp2_with fail;refine(XG c _ _ C).mono ?_;rintro t Q ⟨⟨g,rfl⟩,D⟩;have p:=Hz.dW D;cases g
    ·have T:=fK.below C D;have o:=oo.below Jc.o p;have U:=p.eT Z;clear C;go_wp2_with fail;refine(YT a c r _ s _ T o U oO.o).mono ?_;rintro t w2 ⟨⟨u,g,rfl,V⟩,W⟩;have q:=p.dW W;have ais:=D.dW W;have IY:=dn V;clear V T o U;cases g
     ·go_wp2;go_ret;exact⟨⟨_,rfl⟩,q.fO⟩
     ·by_cases E:u.kind=0
      ·have hk0':((u.kind:Int)==0)=true:=bM;clear E;go_wp2;go_ret;exact⟨⟨_,rfl⟩,q.fO⟩
      ·have hk0':((u.kind:Int)==0)=false:=ak aR
       obtain⟨j,f,X,Y⟩:∃j∈a,u∈j/\hasB c u u.neg=false:=by
        rcases IY.o rfl with F|F
        ·exact absurd F E
        ·exact F
       have hlt2:=Qv f X Y;have e:=ownsRow_below m.o ais;have hs2:=q.size;have Ob:=Fp a c;clear f X Y E;go_wp2_with (at_builtin;refine wpList_append_own _ rfl _ _ 161 rfl w.heap.size 168 K (.agg #[dP,.int .u8 0,dw 0,dw 0]) 4 24 underlying161 hi M N O rfl aY _ _ _ rfl ((e.alloc _).alloc _) (dA (w2.heap.size+1) 0) 1 1 u.cells rfl rfl (nW _ u _ _ aW) (pE _) bz aR aX ?_;intro v' w3 h i _);have y:dB w w3:=((q.alloc hs2 _).alloc aX _).grown i aX (by intro z A;exact(e.lt z A).1);have B:=dn h;clear h i e;go_wp2_with fail
       go_roundg (ql a (c++[u]))
       case measure=>rw[xD.o];exact hlt2
       case rel=>exact⟨c++[u],rfl,by rw[wJ,List.length_append];exact B.o,by simp only[List.length_append,List.length_cons,List.length_nil];omega,y⟩
    ·go_wp2;go_ret;exact⟨⟨_,rfl⟩,p⟩
