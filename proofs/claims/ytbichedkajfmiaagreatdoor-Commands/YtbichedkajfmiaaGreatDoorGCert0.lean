import Derived.BigQuiet
import Derived.Deep.DeepCutAuto
import Derived.Deep.QuietTactic
import Derived.Deep.RegionWith
import Derived.Test.YtbichedkajfmiaaGreatDoorGNumMath2
import Derived.Test.YtbichedkajfmiaaGreatDoorB
set_option maxRecDepth 100000
set_option maxHeartbeats 16000000
namespace Go.Proofs.YtbichedkajfmiaaGreatDoor
open Go.RowKit
variable {J:List Lit}{P:List Bool}{W w:World}{i m n:Nat}{v:Value}
def jC (k l:Lit):Bool:=decide (k.kind=l.kind/\k.a=l.a/\k.b=l.b)
theorem ZQ (a b:Nat):((a:Int)==(b:Int))=decide (a=b):=by
 rw[Bool.eq_iff_iff];exact aQ
def hasB (on:List Lit)(l:Lit)(neg:Bool):Bool:=on.any (fun x=>jC x l&&x.neg==neg)
theorem ZW {l:Lit}{neg:Bool}(h:n<J.length)(a:jC J[n] l=true)(b:(J[n].neg==neg)=true):hasB J l neg=true:=by
 unfold hasB;rw[List.any_eq_true];exact⟨J[n],aP,by rw[a,b];rfl⟩
theorem Wx {l:Lit}{neg:Bool}(h:∀j (a:j<J.length),(jC J[j] l&&J[j].neg==neg)=false):hasB J l neg=false:=by
 unfold hasB;rw[List.any_eq_false];intro x b;obtain⟨j,a,rfl⟩:=List.getElem_of_mem b;rw[h j a];exact aP
theorem Below.jW {wr:World}(a:Below wr.drew.heap.size wr.drew w):Below wr.heap.size wr w:=((Below.refl wr.heap.size wr).drew).trans a
theorem qD (k:Lit)(l:Lit)(w:World) :
 Calls Tryz.prog 241 #[.agg #[.bool k.neg,.int .u8 k.kind,.int .i64 k.a,.int .i64 k.b],.agg #[.bool l.neg,.int .u8 l.kind,.int .i64 l.a,.int .i64 l.b]] w fun e a=>e=.returned (.bool (jC k l))/\Below w.heap.size w a:=by
 have b:Hid (jC k l=decide (k.kind=l.kind/\k.a=l.a/\k.b=l.b)):=rfl;generalize jC k l=j at *;obtain⟨m,c,d,n⟩:=k;obtain⟨o,f,g,p⟩:=l;simp only at *;go_enter Tryz.func241,Tryz.ntmps241;go_wp2_with fail
 all_goals
  go_ret;refine⟨dK ?_,ag.alloc aP _⟩;rw[b.o]
  first|(have h:c=f:=by omega
         have i:d=g:=aO;rw[ZQ];simp[h,i];done)|(symm;rw[decide_eq_false_iff_not];intro q;omega)
theorem Cu (a:List Lit)(v:Value)(l:Lit)(neg:Bool)(w:World)(I:eP w v a) :
 Calls Tryz.prog 243 #[v,.agg #[.bool l.neg,.int .u8 l.kind,.int .i64 l.a,.int .i64 l.b],.bool neg] w fun r c=>r=.returned (.bool (hasB a l neg))/\Below w.heap.size w c:=by
 obtain⟨W,X,rfl,Y,J,s⟩:=I;unfold maxLen at J;have K:Hid _:=s;clear s;go_enter Tryz.func243,Tryz.ntmps243;go_wp2_with fail
 go_loopw [7] (fun i wr=>∃k:Nat,i=.int .i64 k/\k<=a.length/\Below w.heap.size w wr/\w.heap.size<wr.heap.size/\eG wr w.heap.size 0 l/\(∀j (d:j<a.length),j<k->(jC a[j] l&&a[j].neg==neg)=false)) (fun i _=>a.length-(intOf i).toNat)
 case atStart=>
  exact⟨0,rfl,aO,ag,aP,⟨aP,aP,aP,aP⟩,by intro j _ Z;omega⟩
 case round=>
  obtain⟨k,rfl,hk,e,t,u,x⟩:=hrel;have y:Hid _:=x;clear x
  by_cases f:k<a.length
  ·obtain⟨z,rfl,h⟩:=K.o k f;have A:=ai (h f).neg;have L:=(h f).below e A;have M:Hid _:=u;obtain⟨B,N,O,P⟩:=L;obtain⟨Q,R,S,T⟩:=u;clear h;go_wp2_with fail
   go_region_with (go_at_call 241;refine(qD a[k] l _).mono ?_;rintro r c ⟨rfl,C⟩)
   all_goals
    have g:=Below.jW C;have m:=e.trans (g.mono e.size);have f1:c.cell? ⟨z,k*4,none⟩=some (.bool a[k].neg):=(g.cell (p:=⟨z,k*4,none⟩) (Nat.lt_of_lt_of_le A e.size)).trans B;have D:eG c w.heap.size 0 l:=M.o.below g t;have E:Hid _:=D;have F:w.heap.size<c.heap.size:=Nat.lt_of_lt_of_le t g.size;clear B N O P Q R S T C D
    have G:Hid (∀(H:(jC a[k] l&&a[k].neg==neg)=false) j (d:j<a.length),j<k+1->(jC a[j] l&&a[j].neg==neg)=false):=by
     intro H j d hjk
     by_cases U:j=k
     ·subst U;exact H
     ·exact y.o j d aO
    by_cases b:jC a[k] l=true
    ·by_cases n:(a[k].neg==neg)=true
     ·have o:Hid _:=ZW f b n;rw[b];clear b;go_wp2_with fail;go_ret;exact⟨dK o.o.symm,m⟩
     ·have V:(a[k].neg==neg)=false:=by simpa using n
      have p:Hid _:=G.o (by rw[b,V];rfl);rw[b];clear b n;exact amA
    ·have q:jC a[k] l=false:=ajh;have p:Hid _:=G.o (by rw[q];rfl);rw[q];clear b q;exact amA
  ·have o:Hid (hasB a l neg=false):=Wx fun j d=>y.o j d aO;go_wp2_with fail;go_ret;exact⟨dK o.o.symm,e⟩
theorem Tv (a:List Lit)(v:Value)(w:World)(e:eP w v a) :
 Calls Tryz.prog 212 #[v] w fun f g=>(∃m:Bool,f=.returned (.bool m))/\Below w.heap.size w g:=by
 have n:Hid (eP w v a):=e;obtain⟨B,C,rfl,D,o,h⟩:=e;unfold maxLen at o;have p:Hid _:=h;clear h;go_enter Tryz.func212,Tryz.ntmps212;go_wp2_with fail
 go_loopw [3] (fun i wr=>∃k:Nat,i=.int .i64 k/\k<=a.length/\Below w.heap.size w wr) (fun i _=>a.length-(intOf i).toNat)
 case atStart=>exact⟨0,rfl,aO,af⟩
 case round=>
  obtain⟨k,rfl,E,b⟩:=hrel
  by_cases c:k<a.length
  ·obtain⟨F,rfl,d⟩:=p.o k c;have q:=ai (d c).neg;have r:=(d c).below b q;obtain⟨s,t,u,x⟩:=r;clear d;have y:=eP.below n.o b.drew;go_wp2_with fail
   go_region_with (go_at_call 243;refine(Cu a _ a[k] (!a[k].neg) _ y).mono ?_;rintro f g ⟨rfl,j⟩)
   all_goals
    have z:=Below.jW j;have l:=b.trans (z.mono b.size);generalize hasB a a[k] (!a[k].neg)=A at *;clear s t u x j;cases A
    ·go_wp2_with fail;go_roundw
     case rel=>exact⟨k+1,bJ,aO,l⟩
     case measure=>exact akL
    ·go_wp2_with fail;go_ret;exact⟨⟨_,rfl⟩,l⟩
  ·go_wp2_with fail;go_ret;exact⟨⟨_,rfl⟩,b⟩
def lU (w:World)(v:Value)(cs:List (List Lit)):Prop:=fA v cs.length (fun g i=>∀h:i<cs.length,∃cv,w.cell? ⟨g,i,none⟩=some cv/\eP w cv cs[i])
theorem lU.below {a:List (List Lit)}(h:lU w v a)(b:Below w.heap.size w W):lU W v a:=
 fA.imp h fun g i _ d hi=>by
  obtain⟨e,c,f⟩:=d hi;exact⟨e,(b.cell (p:=⟨g,i,none⟩) (ai c)).trans c,f.below b⟩
def Lit.zero:Lit:=⟨false,0,0,0⟩
def lN (w:World)(b:Nat):Prop:=∃l:Lit,eG w b 0 l/\∀o,w.frozen? ⟨b,o,none⟩=false
theorem lN.new (w:World)(t:TypeId):lN (w.alloc (.cells #[.bool false,.int .u8 0,.int .i64 0,.int .i64 0] t)) w.heap.size:=
 ⟨Lit.zero,⟨aiQ,aiQ,aiQ,aiQ⟩,ah6⟩
theorem lN.below (h:lN w n){B:Nat}(a:Below B w W)(b:n<B):lN W n:=by
 obtain⟨l,c,d⟩:=h;exact⟨l,c.below a b,fun o=>(a.frozen (p:=⟨n,o,none⟩) b).trans (d o)⟩
theorem lN.lt (h:lN w n):n<w.heap.size:=by
 obtain⟨l,a,_⟩:=h;exact ai a.neg
theorem Tryz.Cs:(Tryz.prog.info? 168).map (fun i=>(i.zero,i.size,i.bytes))=some (some (.agg #[.bool false,.int .u8 0,.int .i64 0,.int .i64 0]),4,24):=bL
theorem FO (w:World)(l:Lit)(t:TypeId):∀j u,l.cells[j]?=some u->(w.alloc (.cells #[.bool l.neg,.int .u8 l.kind,.int .i64 l.a,.int .i64 l.b] t)).cell? ((⟨w.heap.size,0,none⟩:Addr).add j)=some u:=by
 intro j u a;rw[Addr.add_lit]
 match j,a with
 | 0,a=>simp[Lit.cells]at a;subst a;simp
 | 1,a=>simp[Lit.cells]at a;subst a;simp
 | 2,a=>simp[Lit.cells]at a;subst a;simp
 | 3,a=>simp[Lit.cells]at a;subst a;simp
 | j+4,a=>simp[Lit.cells]at a
theorem mH (l:Lit):∀u∈l.cells,u.oneCell'=true:=by
 intro u a;simp[Lit.cells]at a;rcases a with rfl|rfl|rfl|rfl<;>rfl
theorem tH (a:List Lit)(l:Lit):((a++[l]).map Lit.cells).flatten=(a.map Lit.cells).flatten++l.cells:=aP
def Xh (cs:List (List Lit))(on:List Lit)(e:Ending):Prop:=
 ∃(u:Lit) (b:Bool),e=.returned (.tuple #[.agg #[.bool u.neg,.int .u8 u.kind,.int .i64 u.a,.int .i64 u.b],.bool b])/\(b=true->u.kind=0\/∃c∈cs,u∈c/\hasB on u u.neg=false)
theorem Below.FH (h:Below n w W){b:Nat}(a:n<=b)(c d e f:Value) :
 Below n w ((((W.setCell ⟨b,0,none⟩ c).setCell ⟨b,1,none⟩ d).setCell ⟨b,2,none⟩ e).setCell ⟨b,3,none⟩ f):=
 (((h.setCell (p:=⟨b,0,none⟩) a _).setCell (p:=⟨b,1,none⟩) a _).setCell (p:=⟨b,2,none⟩) a _).setCell (p:=⟨b,3,none⟩) a _
theorem UL (e:List (List Lit))(f:List Lit)(V:Nat)(W X:Value)(w:World)(hrow:eP w W f)(hcs:lU w X e)(hp:w.cell? ⟨V,2,none⟩=some X)(hsm:∀c∈e,c.length<=1000000) :
 Calls Tryz.prog 213 #[.pointer (some ⟨V,0,none⟩),W] w fun G H=>Xh e f G/\Below w.heap.size w H:=by
 have kH:Hid (eP w W f):=hrow;have Om:Hid (lU w X e):=hcs;obtain⟨aon,aeP,rfl,agJ,acX,_⟩:=hrow;obtain⟨ac,ahG,rfl,agK,acY,abu⟩:=hcs;unfold maxLen at acX acY;have Ma:Hid _:=abu;clear abu;go_enter Tryz.func213,Tryz.ntmps213;go_wp2_with fail
 go_loopw [6] (fun t wr=>∃k:Nat,t=.int .i64 k/\k<=e.length/\Below w.heap.size w wr/\lN wr w.heap.size) (fun t _=>e.length-(intOf t).toNat)
 case atStart=>
  exact⟨0,rfl,aO,ag,lN.new _ _⟩
 case round=>
  obtain⟨k,rfl,hk,u,I⟩:=hrel;rename World=>g;have wP:Hid (lN g w.heap.size):=I;have Y:=lN.lt I;have hp1:=(u.cell (p:=⟨V,2,none⟩) (ai hp)).trans hp
  by_cases hlt:k<e.length
  ·obtain⟨bn,rfl,hc⟩:=Ma.o k hlt;obtain⟨cv,Z,v⟩:=hc hlt;have aew:=(u.cell (p:=⟨bn,k,none⟩) (ai Z)).trans Z;have uL:Hid (eP w cv e[k]):=v;obtain⟨acl,yc,rfl,Ct,uV,Bo⟩:=v;unfold maxLen at uV;have Gj:Hid _:=Bo;clear hc Z Bo;have hcm:e[k]∈e:=aP;generalize e[k]=c at *;have HCM:Hid (c∈e):=hcm;have aht:=hsm c hcm;clear hcm;clear I;go_wp2_with fail
   go_loopw [8,9,10] (fun lv sv iv wr2=>∃(b:List Lit) (h:Bool) (a:Nat),sv=.bool h/\iv=.int .i64 a/\a<=c.length/\wr2.ownsRow g.heap.size 168 4 lv b.length (b.map Lit.cells).flatten/\b.length<=a/\(∀x∈b,x∈c)/\(h=false->∀x∈c.take a,hasB f x x.neg=false)/\Below g.heap.size g wr2) (fun _ _ t _=>c.length-(intOf t).toNat)
   case atStart=>exact⟨[],false,0,rfl,rfl,aO,World.ownsRow_nil _ _ _ _,aP,aP,aP,af⟩
   case round=>
    obtain⟨b,h,a,rfl,rfl,hjn,hown,ahc,aa3,aaZ,n⟩:=hrel;have HOWN:=di hown;have y:=di aa3;have acj:=di aaZ;have mQ:=di (eP.tF (Row.dW hown aP ai5));have i:=u.trans (n.mono u.size);clear hown aa3 aaZ
    by_cases J:a<c.length
    ·obtain⟨gc,rfl,hcc⟩:=Gj.o a J;have K:=ai (hcc J).neg;have hc1:=(hcc J).below i K;have kv:=di hc1;obtain⟨o,p,q,r⟩:=hc1;have j:=eP.below kH.o i.drew;clear hcc;go_upto_region 10 with fail
     go_cut [11] (fun z A=>z=.bool (hasB f c[a] c[a].neg)/\Below wr.heap.size wr A)
     case first=>
      go_region_with (go_at_call 243;refine(Cu f _ c[a] c[a].neg _ j).mono ?_;rintro G H ⟨rfl,B⟩)
      all_goals
       go_wp2_with fail;go_meet
       case rel=>exact⟨rfl,Below.jW B⟩
     case rest=>
      obtain⟨rfl,C⟩:=hcut;clear j o p q r;have D:=i.trans (C.mono i.size);have hc2:=kv.o.below C (Nat.lt_of_lt_of_le K i.size);have jB:=di hc2;obtain⟨o,p,q,r⟩:=hc2;have j:=eP.below kH.o D.drew;go_upto_region 11 with fail
      go_cut [12] (fun z A=>(∃bg:Bool,z=.bool bg)/\Below wc.heap.size wc A)
      case first=>
       go_region_with (go_at_call 243;refine(Cu f _ c[a] (!c[a].neg) _ j).mono ?_;rintro G H ⟨rfl,B⟩)
       all_goals
        go_wp2_with fail;go_meet
        case rel=>exact⟨⟨_,rfl⟩,Below.jW B⟩
      case rest=>
       rename World=>wd;obtain⟨⟨bno,rfl⟩,L⟩:=hcut;clear j o p q r;have M:=D.trans (L.mono D.size);have N:=C.trans (L.mono C.size);have hc3:=jB.o.below L (Nat.lt_of_lt_of_le K D.size);have mi:=di hc3;obtain⟨o,p,q,r⟩:=hc3;have j:=eP.below mQ.o N.drew;go_upto_region 12 with fail;go_cut [13] (fun z A=>(∃bg:Bool,z=.bool bg)/\Below wd.heap.size wd A)
       case first=>
        go_region_with (go_at_call 243;refine(Cu b _ c[a] c[a].neg _ j).mono ?_;rintro G H ⟨rfl,B⟩)
        all_goals
         go_wp2_with fail;go_meet
         case rel=>exact⟨⟨_,rfl⟩,Below.jW B⟩
       case rest=>
        rename World=>we;obtain⟨⟨bold,rfl⟩,O⟩:=hcut;clear j o p q r;have aeB:=M.trans (O.mono M.size);have abD:=N.trans (O.mono N.size);have hc4:=mi.o.below O (Nat.lt_of_lt_of_le K M.size);obtain⟨o,p,q,r⟩:=hc4;have QS:=di (ownsRow_below HOWN.o abD)
        have adl:Hid ((h||hasB f c[a] c[a].neg)=false->∀x∈c.take (a+1),hasB f x x.neg=false):=by
         intro E x d;rw[Bool.or_eq_false_iff]at E;rw[List.take_succ_eq_append_getElem J]at d;rcases List.mem_append.1 d with d|d
         ·exact acj.o E.1 x d
         ·rw[List.mem_singleton.1 d];exact E.2
        have l:=n.trans (abD.mono n.size);generalize hasB f c[a] c[a].neg=F at *;clear C L O N i D M n;obtain⟨i0,hi,hz0,hz1,hz2⟩:=info_parts Tryz.Cs
        have Xy:Hid (∀(s:List Lit) (P:Value) (m:World),m.ownsRow g.heap.size 168 4 P s.length (s.map Lit.cells).flatten->s.length<=a+1->(∀x∈s,x∈c)->Below g.heap.size g m->∃(b:List Lit) (sat':Bool) (Q:Nat),Value.bool (h||F)=.bool sat'/\Value.int .i64 ((a:Int)+1)=.int .i64 Q/\Q<=c.length/\m.ownsRow g.heap.size 168 4 P b.length (b.map Lit.cells).flatten/\b.length<=Q/\(∀x∈b,x∈c)/\(sat'=false->∀x∈c.take Q,hasB f x x.neg=false)/\Below g.heap.size g m):=by
         intro s P m h1 h2 h3 h4;exact⟨s,h||F,a+1,rfl,bJ,aO,h1,h2,h3,adl.o,h4⟩
        cases bno
        ·cases bold
         ·have zM:=QS.o;have DI:=aeB.size;have ahu:w.heap.size<we.heap.size:=Nat.lt_of_lt_of_le Y l.size;cases h<;>cases F
          all_goals
           go_wp2_with (at_builtin;refine wpList_append_own _ rfl _ _ 161 rfl g.heap.size 168 i0 (.agg #[.bool false,.int .u8 0,.int .i64 0,.int .i64 0]) 4 24 Tryz.underlying161 hi hz0 hz1 hz2 rfl aR _ _ _ rfl (zM.alloc _) ⟨we.heap.size,0,none⟩ 1 1 c[a].cells rfl rfl (FO we c[a] _) (mH _) aX aO (by simp;have:=l.size;omega) ?_;intro P m hown' hgrow _);have Au:Below g.heap.size g m:=(l.alloc l.size _).grown hgrow (by simp;have:=l.size;omega) (by intro bq hq;exact(zM.lt bq hq).1);have XA:=di hown';clear hown' hgrow zM;go_wp2_with fail;go_roundw
           case rel=>exact Xy.o (b++[c[a]]) _ _ (by rw[tH,List.length_append];exact XA.o) aQ (by intro x d;rcases List.mem_append.1 d with d|d;exact y.o x d;rw[List.mem_singleton.1 d];simp) Au
           case measure=>exact akL
         ·cases h<;>cases F
          all_goals
           exact amG
        ·cases h<;>cases F
         all_goals
          exact amG
    ·have HB2:=di (lN.below wP.o n Y);obtain⟨al,abY,Sz,agL,ac0,abw⟩:=mQ.o;have adB:=di abw;clear abw;subst Sz;unfold maxLen at ac0
     have adk:Hid (h=false->∀x∈c,hasB f x x.neg=false):=by
      intro E x d;exact acj.o E x (by rw[List.take_of_length_le aO];exact d)
     obtain⟨bA,hz,hf⟩:=lN.below wP.o n Y;obtain⟨R,S,T,U⟩:=hz;cases h
     ·by_cases h0:b.length=0
      ·have hls:b=[]:=List.length_eq_zero_iff.1 h0;subst hls;go_wp2_with fail;exact bodyPost_ret (v:=.tuple #[.agg #[.bool false,.int .u8 0,.int .i64 0,.int .i64 0],.bool true]) ai0 rfl ⟨⟨Lit.zero,true,rfl,fun _=>.inl rfl⟩,Below.FH i ae _ _ _ _⟩
      ·by_cases h1:b.length=1
       ·obtain⟨gl,rfl,v⟩:=adB.o 0 aO;obtain⟨d1,d2,d3,d4⟩:=v aO;have afz:Hid (∃c∈e,b[0]∈c/\hasB f b[0] b[0].neg=false):=⟨c,HCM.o,y.o _ aP,adk.o rfl _ (y.o _ aP)⟩;generalize b[0]=u0 at *;simp only[Nat.zero_mul,Nat.zero_add]at d1 d2 d3 d4;clear v;go_wp2_with fail;exact bodyPost_ret (v:=.tuple #[.agg #[.bool u0.neg,.int .u8 u0.kind,.int .i64 u0.a,.int .i64 u0.b],.bool true]) ai0 rfl ⟨⟨u0,true,rfl,fun _=>.inr afz.o⟩,Below.FH i ae _ _ _ _⟩
       ·have h0':((b.length:Int)==0)=false:=aj aO;have h1':((b.length:Int)==1)=false:=aj aO;clear h0 h1;exact amJ
     ·exact amJ
  ·obtain⟨bA,hz,hf⟩:=I;obtain⟨R,S,T,U⟩:=hz;go_wp2_with fail;exact bodyPost_ret (v:=.tuple #[.agg #[.bool false,.int .u8 0,.int .i64 0,.int .i64 0],.bool false]) ai0 rfl ⟨⟨Lit.zero,false,rfl,fun bB=>by cases bB⟩,Below.FH u ae _ _ _ _⟩
theorem uT (a:Nat)(w:World) :
 Calls Tryz.prog 236 #[.int .i64 a] w fun e b=>e=.returned (.agg #[.bool false,.int .u8 84,.int .i64 a,.int .i64 0])/\Below w.heap.size w b:=by
 go_enter Tryz.func236,Tryz.ntmps236;go_wp2_with fail;exact bodyPost_ret (v:=.agg #[.bool false,.int .u8 84,.int .i64 a,.int .i64 0]) (by simp[results,Tryz.results236,go_sem]) rfl ⟨rfl,ag⟩
theorem ou (a b:Nat)(w:World) :
 Calls Tryz.prog 200 #[.int .i64 a,.int .i64 b] w fun e c=>e=.returned (.agg #[.bool false,.int .u8 76,.int .i64 a,.int .i64 b])/\Below w.heap.size w c:=by
 go_enter Tryz.func200,Tryz.ntmps200;go_wp2_with fail;exact bodyPost_ret (v:=.agg #[.bool false,.int .u8 76,.int .i64 a,.int .i64 b]) (by simp[results,Tryz.results200,go_sem]) rfl ⟨rfl,ag⟩
theorem uU (a b:Nat)(w:World) :
 Calls Tryz.prog 199 #[.int .i64 a,.int .i64 b] w fun e c=>e=.returned (.agg #[.bool false,.int .u8 69,.int .i64 (min a b:Nat),.int .i64 (max a b:Nat)])/\Below w.heap.size w c:=by
 by_cases h:b<a
 ·rw[Nat.min_eq_right (Nat.le_of_lt h),Nat.max_eq_left (Nat.le_of_lt h)];go_enter Tryz.func199,Tryz.ntmps199;go_wp2_with fail;exact bodyPost_ret (v:=.agg #[.bool false,.int .u8 69,.int .i64 b,.int .i64 a]) (by simp[results,Tryz.results199,go_sem]) rfl ⟨rfl,ag⟩
 ·rw[Nat.min_eq_left aO,Nat.max_eq_right aO];go_enter Tryz.func199,Tryz.ntmps199;go_wp2_with fail;exact bodyPost_ret (v:=.agg #[.bool false,.int .u8 69,.int .i64 a,.int .i64 b]) (by simp[results,Tryz.results199,go_sem]) rfl ⟨rfl,ag⟩
def eH (w:World)(eb:Nat)(av:Nat->Prop)(ats:List Lit)(on:List Bool):Prop:=
 ∃va vo,w.cell? ⟨eb,0,none⟩=some va/\w.cell? ⟨eb,1,none⟩=some vo/\(∀o,w.frozen? ⟨eb,o,none⟩=false)/\
  w.ownsRow (eb+1) 168 4 va ats.length (ats.map Lit.cells).flatten/\w.ownsRow (eb+1) 4 1 vo on.length (on.map Value.bool)/\
  (∀b,va.ownBlock=some b->vo.ownBlock≠some b)/\ats.length=on.length/\¬av eb/\(∀b,va.ownBlock=some b->¬av b)/\(∀b,vo.ownBlock=some b->¬av b)
theorem eH.below {c:Nat->Prop}(h:eH w n c J P)(a:Below w.heap.size w W):eH W n c J P:=by
 obtain⟨e,f,d,g,i,j,k,l,m⟩:=h;have b:=ai d;exact⟨e,f,(a.cell (p:=⟨n,0,none⟩) b).trans d,(a.cell (p:=⟨n,1,none⟩) b).trans g,fun o=>(a.frozen (p:=⟨n,o,none⟩) b).trans (i o),ownsRow_below j a,ownsRow_below k a,l,m⟩
theorem eH.lt {a:Nat->Prop}(h:eH w n a J P):n<w.heap.size:=by
 obtain⟨c,d,b,_⟩:=h;exact ai b
def iC (w:World)(v:Value)(on:List Bool):Prop:=fA v on.length (fun g i=>∀h:i<on.length,w.cell? ⟨g,i,none⟩=some (.bool on[i]))
theorem ac6 {a c:Type}(f:a->c)(l:List a):(l.map (fun b=>[f b])).flatten=l.map f:=by
 induction l with
 | nil=>rfl
 | cons b l d=>rw[List.map_cons,List.flatten_cons,d];rfl
theorem iC.dW {base:Nat}{e:TypeId}(h:w.ownsRow base e 1 v P.length (P.map Value.bool)):iC w v P:=by
 have a:Row w 1 v (P.map (fun b=>[Value.bool b])):=Row.dW (base:=base) (e:=e) (n:=P.length) (by rw[ac6];exact h) aP (by
  intro x c;obtain⟨b,_,rfl⟩:=List.mem_map.1 c;rfl)
 refine fA.imp' a.sl aP fun g i hi d f=>?_;have:=d hi 0 aO (.bool P[i]) aP;simpa using this
theorem iC.below (h:iC w v P)(b:Below w.heap.size w W):iC W v P:=
 fA.imp h fun g i _ a hi=>(b.cell (p:=⟨g,i,none⟩) (ai (a hi))).trans (a hi)
theorem Be (c:Nat)(z:Nat->Prop)(a:List Lit)(m:List Bool)(l:Lit)(w:World)(n:eH w c z a m) :
 Calls Tryz.prog 238 #[.pointer (some ⟨c,0,none⟩),.agg #[.bool l.neg,.int .u8 l.kind,.int .i64 l.a,.int .i64 l.b]] w fun o p=>gL o/\Below w.heap.size w p:=by
 have q:=n.lt;obtain⟨va,vo,A,B,C,r,s,D,t,_⟩:=n;have E:=di (eP.tF (Row.dW r aP ai5));have F:=di (iC.dW s);obtain⟨aa,aeQ,rfl,Ym,G,u⟩:=E.o;obtain⟨ab,K5,rfl,hcapb,H,v⟩:=F.o;unfold maxLen at G H;have I:=di u;have J:=di v;have H7:=di t;have h7':a.length<=m.length:=aO;clear C r s D t u v;go_enter Tryz.func238,Tryz.ntmps238;go_wp2_with fail
 go_loopw [5] (fun i wr=>∃k:Nat,i=.int .i64 k/\k<=a.length/\Below w.heap.size w wr/\w.heap.size<wr.heap.size/\eG wr w.heap.size 0 l) (fun i _=>a.length-(intOf i).toNat)
 case atStart=>
  exact⟨0,rfl,aO,ag,aP,⟨aP,aP,aP,aP⟩⟩
 case round=>
  obtain⟨k,rfl,hk,b,x,y⟩:=hrel;have K:=(b.cell (p:=⟨c,0,none⟩) q).trans A
  by_cases e:k<a.length
  ·obtain⟨bg,rfl,f⟩:=I.o k e;have L:=ai (f e).neg;have M:=(f e).below b L;have N:=di y;obtain⟨O,P,Q,R⟩:=M;obtain⟨S,T,U,V⟩:=y;clear f;go_upto_region 4 with fail
   go_cut [6] (fun W X=>(∃g:Bool,W=.bool g)/\Below wr.heap.size wr X)
   case first=>
    go_region_with (go_at_call 241;refine(qD a[k] l _).mono ?_;rintro o p ⟨rfl,Y⟩)
    all_goals
     go_wp2_with fail;go_meet
     case rel=>exact⟨⟨_,rfl⟩,Below.jW Y⟩
   case rest=>
    obtain⟨⟨g,rfl⟩,h⟩:=hcut;have d:=b.trans (h.mono b.size);have Z:=di (N.o.below h x);have hs2:w.heap.size<wc.heap.size:=Nat.lt_of_lt_of_le x h.size;clear O P Q R S T U V K;cases g
    ·go_wp2_with fail;go_roundw
     case rel=>exact⟨k+1,bJ,aO,d,hs2,Z.o⟩
     case measure=>exact akL
    ·obtain⟨gb,rfl,j⟩:=J.o k aO;have g2:=(d.cell (p:=⟨c,1,none⟩) q).trans B;have g3:=(d.cell (p:=⟨gb,k,none⟩) (ai (j aO))).trans (j aO);clear j;go_wp2_with fail;go_ret;exact⟨⟨_,rfl⟩,d⟩
  ·go_wp2_with fail;go_ret;exact⟨⟨_,rfl⟩,b⟩
theorem xA (c:Nat)(e:Nat->Prop)(f:List Lit)(g:List Bool)(a b:Nat)(w:World)(j:eH w c e f g) :
 Calls Tryz.prog 239 #[.pointer (some ⟨c,0,none⟩),.int .i64 a,.int .i64 b] w fun h k=>gL h/\Below w.heap.size w k:=by
 by_cases i:a=b
 ·subst i;go_enter Tryz.func239,Tryz.ntmps239;go_wp2_with fail;go_ret;exact⟨⟨_,rfl⟩,af⟩
 ·have o:((a:Int)==(b:Int))=false:=aj aO;clear i;go_enter Tryz.func239,Tryz.ntmps239;go_wp2_with fail;refine(uU a b _).mono ?_;rintro h l ⟨rfl,d⟩;have m:eH (l.alloc (.cells #[.bool false,.int .u8 69,.int .i64 (min a b:Nat),.int .i64 (max a b:Nat)] 168)) c e f g:=(j.below d).below ag;generalize min a b=x at *;generalize max a b=y at *;go_wp2_with fail;refine(Be c e f g ⟨false,69,x,y⟩ _ m).mono ?_;rintro h p ⟨⟨q,rfl⟩,n⟩;go_wp2_with fail;go_ret;exact⟨⟨_,rfl⟩,(d.alloc d.size _).trans (n.mono akn)⟩
theorem G7 (e:Nat)(D:Nat->Prop)(a:List Lit)(o:List Bool)(d:List Lit)(v:Value)(w:World)(p:eH w e D a o)(E:eP w v d) :
 Calls Tryz.prog 198 #[.pointer (some ⟨e,0,none⟩),v] w fun q r=>gL q/\Below w.heap.size w r:=by
 have s:=p.lt;obtain⟨va,vo,F,G,H,t,u,I,J,_⟩:=p;have K:=di (eP.tF (Row.dW t aP ai5));have L:=di (iC.dW u);obtain⟨aa,aeQ,rfl,Ym,M,x⟩:=K.o;obtain⟨ab,K5,rfl,hcapb,N,y⟩:=L.o;obtain⟨al,yc,rfl,Ct,O,z⟩:=E;unfold maxLen at M N O;have P:=di x;have Q:=di y;have R:=di z;have h7':a.length<=o.length:=aO;clear H t u I J x y z;go_enter Tryz.func198,Tryz.ntmps198;go_wp2_with fail
 go_loopw [5] (fun i wr=>∃k:Nat,i=.int .i64 k/\k<=d.length/\Below w.heap.size w wr) (fun i _=>d.length-(intOf i).toNat)
 case atStart=>exact⟨0,rfl,aO,af⟩
 case round=>
  obtain⟨k,rfl,hk,A⟩:=hrel;rename World=>wO
  by_cases f:k<d.length
  ·obtain⟨gl,rfl,g⟩:=R.o k f;have B:=ai (g f).neg;have C:=di (g f);clear g;go_wp2_with fail
   go_loopw [6] (fun i wr=>∃j:Nat,i=.int .i64 j/\j<=a.length/\Below w.heap.size w wr) (fun i _=>a.length-(intOf i).toNat)
   case atStart=>exact⟨0,rfl,aO,A⟩
   case round=>
    obtain⟨j,rfl,hj,b⟩:=hrel;have S:=(b.cell (p:=⟨e,0,none⟩) s).trans F
    by_cases h:j<a.length
    ·obtain⟨bn,rfl,l⟩:=P.o j h;have T:=ai (l h).neg;have U:=(l h).below b T;have V:=C.o.below b B;obtain⟨W,X,Y,Z⟩:=U;obtain⟨b1,b2,b3,b4⟩:=V;clear l;go_upto_region 7 with fail
     go_cut [7] (fun bg wx=>(∃m:Bool,bg=.bool m)/\Below wr.heap.size wr wx)
     case first=>
      go_region_with (go_at_call 241;refine(qD a[j] d[k] _).mono ?_;rintro q r ⟨rfl,hb⟩)
      all_goals
       go_wp2_with fail;go_meet
       case rel=>exact⟨⟨_,rfl⟩,Below.jW hb⟩
     case rest=>
      obtain⟨⟨m,rfl⟩,hbw⟩:=hcut;have c:=b.trans (hbw.mono b.size);clear W X Y Z b1 b2 b3 b4 S;cases m
      ·go_wp2_with fail;go_quiet (fail);go_wp2_with fail;go_roundw
       case rel=>exact⟨j+1,bJ,aO,below_drewN c _⟩
       case measure=>exact akL
      ·obtain⟨gb,rfl,n⟩:=Q.o j aO;have g2:=(c.cell (p:=⟨e,1,none⟩) s).trans G;have g3:=(c.cell (p:=⟨gb,j,none⟩) (ai (n aO))).trans (n aO);have g4:=(C.o.below c B).neg;clear n;go_wp2_with fail;go_quiet (fail);go_wp2_with fail
       all_goals first
        | (go_ret
           exact⟨⟨_,rfl⟩,below_drewN c _⟩)
        | (go_roundw
           case rel=>exact⟨j+1,bJ,aO,below_drewN c _⟩
           case measure=>simp[intOf];omega)
    ·go_wp2_with fail;go_roundw
     case rel=>exact⟨k+1,bJ,aO,b⟩
     case measure=>exact akL
  ·go_wp2_with fail;go_ret;exact⟨⟨_,rfl⟩,A⟩
def iF:List Bool->Nat
 | []=>0
 | b::l=>(if b then 1 else 0)+2*iF l
theorem NN (l:List Bool):iF l<2 ^ l.length:=by
 induction l with
 | nil=>simp[iF]
 | cons b l a=>simp only[iF,List.length_cons,Nat.pow_succ];split<;>omega
theorem Qp (n:Nat)(l:List Bool):iF (List.replicate n false++l)=2 ^ n*iF l:=by
 induction n with
 | zero=>simp
 | succ n a=>rw[List.replicate_succ,List.cons_append,iF,a,Nat.pow_succ];simp[Nat.mul_assoc,Nat.mul_comm]
theorem TA (n:Nat)(l:List Bool):iF (List.replicate n true++l)=2 ^ n*iF l+(2 ^ n-1):=by
 induction n with
 | zero=>simp
 | succ n a=>
  rw[List.replicate_succ,List.cons_append,iF,a,Nat.pow_succ];have:=Nat.pow_pos (n:=n) (show 0<2 by omega);have e:2 ^ n*2*iF l=2*(2 ^ n*iF l):=by rw[Nat.mul_comm (2 ^ n) 2,Nat.mul_assoc]
  simp only[if_true];exact aO
theorem TB (f:n<P.length)(a:∀j (g:j<P.length),j<n->P[j]=true)(b:P[n]=false) :
 iF (List.replicate n false++true::P.drop (n+1))=iF P+1:=by
 have e:P=List.replicate n true++false::P.drop (n+1):=by
  apply List.ext_getElem
  ·exact aQ
  ·intro i c h
   by_cases hi:i<n
   ·rw[List.getElem_append_left (by simp;exact hi)];simp;exact a i c hi
   ·rw[List.getElem_append_right aQ];simp only[List.length_replicate]
    by_cases d:i=n
    ·subst d;simp[b]
    ·rw[List.getElem_cons];simp only[show ¬i-n=0 by omega,dif_neg,not_false_eq_true,List.getElem_drop]
     congr 1;omega
 rw[Qp,iF]
 conv=>rhs;rw[e]
 rw[TA,iF];have:=Nat.pow_pos (n:=n) (show 0<2 by omega);simp only[if_true,Bool.false_eq_true,if_false,Nat.mul_add,Nat.mul_one,Nat.zero_add];exact aO
theorem eH.set {a:Nat->Prop}(h:w.cell? ⟨n,0,none⟩=some v)(j:w.cell? ⟨n,1,none⟩=some (.slice (some ⟨m,0,none⟩) P.length i))
 (l:∀o,w.frozen? ⟨n,o,none⟩=false) (p:w.ownsRow (n+1) 168 4 v J.length (J.map Lit.cells).flatten) (d:w.ownsRow (n+1) 4 1 (.slice (some ⟨m,0,none⟩) P.length i) P.length (P.map Value.bool))
 (f:∀b,v.ownBlock=some b->(Value.slice (some ⟨m,0,none⟩) P.length i).ownBlock≠some b) (q:J.length=P.length) (g:¬a n/\(∀b,v.ownBlock=some b->¬a b)/\(∀b,(Value.slice (some ⟨m,0,none⟩) P.length i).ownBlock=some b->¬a b)) (k:Nat) (b:Bool) :
 eH (w.setCell ⟨m,k,none⟩ (.bool b)) n a J (P.set k b)/\Below n w (w.setCell ⟨m,k,none⟩ (.bool b))/\(∀c,a c->(w.setCell ⟨m,k,none⟩ (.bool b)).heap[c]?=w.heap[c]?):=by
 have u:=(d.lt m rfl).1;obtain⟨r,s⟩:=d.stored k (.bool b);refine⟨⟨v,.slice (some ⟨m,0,none⟩) P.length i,?_,?_,?_,?_,?_,f,by simp[q],g⟩,?_,?_⟩
 ·exact(World.cell?_of_block (aC (by show n≠m;omega))).trans h
 ·exact(World.cell?_of_block (aC (by show n≠m;omega))).trans j
 ·intro o;exact(World.frozen?_of_block (aC (by show n≠m;omega))).trans (l o)
 ·refine p.kept s ?_;cases hv:v.ownBlock with
  | none=>exact .inl rfl
  | some c=>exact .inr fun e=>f c hv (by show some m=some c;exact e.symm)
 ·rw[List.length_set,List.map_set];exact r
 ·exact af.setCell (by show n<=m;omega) _
 ·intro c t;exact aC (fun e=>g.2.2 c (by show some m=some c;rw[e]) t)
theorem eH.of {a:Nat->Prop}{b:List Bool}(h:eH w n a J P)(e:P=b):eH w n a J b:=by subst e;exact h
theorem U5 (a:n<P.length)(b:Bool):(List.replicate n false++P.drop n).set n b=List.replicate n false++b::P.drop (n+1):=by
 rw[List.set_append,if_neg aP,List.length_replicate,Nat.sub_self,List.drop_eq_getElem_cons a];rfl
theorem WC (a:n<P.length)(h:n<(List.replicate n false++P.drop n).length):(List.replicate n false++P.drop n)[n]=P[n]:=by
 rw[List.getElem_append_right aP];exact aP
theorem RP (k:Nat)(l:List Bool):List.replicate k false++false::l=List.replicate (k+1) false++l:=by
 rw[List.replicate_succ',List.append_assoc];rfl
def Lj (w':World)(eb:Nat)(av:Nat->Prop)(ats:List Lit)(on:List Bool)(e:Ending):Prop:=
 ∃(b:Bool) (on':List Bool),e=.returned (.bool b)/\eH w' eb av ats on'/\(b=true->iF on'=iF on+1)
theorem JQ (d:Nat)(g:Nat->Prop)(m:List Lit)(a:List Bool)(w:World)(u:eH w d g m a) :
 Calls Tryz.prog 196 #[.pointer (some ⟨d,0,none⟩)] w fun M n=>Lj n d g m a M/\Below d w n/\(∀c,g c->n.heap[c]?=w.heap[c]?):=by
 have W:=u.lt;go_enter Tryz.func196,Tryz.ntmps196;go_wp2_with fail
 go_loopw [3] (fun o wr=>∃(k:Nat) (b:List Bool),o=.int .i64 k/\k<=a.length/\eH wr d g m b/\b=List.replicate k false++a.drop k/\(∀j (v:j<a.length),j<k->a[j]=true)/\Below d w wr/\(∀c,g c->wr.heap[c]?=w.heap[c]?)) (fun o _=>a.length-(intOf o).toNat)
 case atStart=>exact⟨0,a,rfl,aO,u,aP,by intro j _ x;omega,af,fun _ _=>rfl⟩
 case round=>
  obtain⟨k,b,rfl,X,y,h,z,p,A⟩:=hrel;have q:=di A;clear A;have N:=di y;have Y:=di h;have B:=di z;obtain⟨Z,vo,O,C,D,E,i,F,P,G⟩:=y;have H:b.length=a.length:=by rw[h];simp;omega
  have Q:=di (iC.dW i);obtain⟨ab,K5,rfl,hcapb,R,I⟩:=Q.o;unfold maxLen at R
  by_cases r:k<a.length
  ·obtain⟨S,rfl,J⟩:=I k aO;have s:=J aO;have gf:=i.frozenAt k;have K:=fun e=>eH.set (k:=k) (b:=e) O (by rw[H]at *;exact C) D E (by exact i) F P G;have f:=di K;have t:b[k]' aO=a[k]:=by subst h;exact WC r _
   have L:Hid (∀e,b.set k e=List.replicate k false++e::a.drop (k+1)):=by intro e;subst h;exact U5 r e
   rw[t]at s;rw[H]at C;have ahm:=(i.lt S rfl).1;clear K J I D E i F G h z;cases hb:a[k]
   ·rw[hb]at s;have T:=di (TB r B.o hb);clear hb t;go_wp2_with fail;go_region
    all_goals
     go_wp2_with fail;go_ret;exact⟨⟨true,b.set k true,rfl,(f.o true).1.below (af.drew),fun _=>by rw[L.o];exact T.o⟩,(p.trans (f.o true).2.1).drew,fun c l=>((f.o true).2.2 c l).trans (q.o c l)⟩
   ·rw[hb]at s;have U:=di hb;clear hb t;go_wp2_with fail;go_region
    all_goals
     go_wp2_with fail;go_roundw
     case rel=>
      refine⟨k+1,b.set k false,bJ,aO,(f.o false).1.below (af.drew),by rw[L.o,RP],?_,(p.trans (f.o false).2.1).drew,fun c l=>((f.o false).2.2 c l).trans (q.o c l)⟩;intro j v hjk
      by_cases V:j=k
      ·subst V;exact U.o
      ·exact B.o j v aO
     case measure=>exact akL
  ·go_wp2_with fail;go_ret;exact⟨⟨false,b,rfl,N.o,fun x=>by cases x⟩,p,q.o⟩
def nH (cs:List (List Lit))(on:List Lit):Nat:=(cs.flatten.filter (fun x=>!hasB on x x.neg)).length
theorem OO (u:Lit):jC u u=true:=by simp[jC]
theorem Hd (a:List Lit)(u l:Lit)(neg:Bool):hasB (a++[u]) l neg=(hasB a l neg||(jC u l&&u.neg==neg)):=by
 unfold hasB;rw[List.any_append];exact aP
theorem II {b:Type}(p q:b->Bool)(l:List b)(x:b)(a:x∈l)(e:p x=true)(f:q x=false)(c:∀y,q y=true->p y=true):(l.filter q).length<(l.filter p).length:=by
 induction l with
 | nil=>cases a
 | cons y l d=>
  rcases List.mem_cons.1 a with rfl|a
  ·rw[List.filter_cons,List.filter_cons,e,f]
   have:(l.filter q).length<=(l.filter p).length:=by
    clear d a
    induction l with
    | nil=>simp
    | cons z l g=>
     rw[List.filter_cons,List.filter_cons];cases hqz:q z
     ·cases hpz:p z<;>simp<;>omega
     ·rw[c z hqz];exact aQ
   exact aQ
  ·have:=d a;rw[List.filter_cons,List.filter_cons];cases hqz:q y
   ·cases hpz:p y<;>simp<;>omega
   ·rw[c y hqz];exact aQ
theorem MO {a:List (List Lit)}{u:Lit}{c:List Lit}(d:c∈a)(e:u∈c)(f:hasB J u u.neg=false):nH a (J++[u])<nH a J:=by
 unfold nH;refine II _ _ _ u (List.mem_flatten.2 ⟨c,d,e⟩) (by simp[f]) ?_ ?_
 ·rw[Hd,OO];exact aP
 ·intro y b;rw[Hd]at b;simp at b ⊢;exact b.1
theorem CS (a:List (List Lit))(b:List Lit):nH a b<=a.flatten.length:=List.length_filter_le _ _
def Lit.flip (l:Lit):Lit:=⟨!l.neg,l.kind,l.a,l.b⟩
theorem Iu {a b:Type}(f:a->b)(l:List a)(k:Nat)(h:k<l.length):(l.take (k+1)).map f=(l.take k).map f++[f l[k]]:=by
 rw[List.take_succ_eq_append_getElem h,List.map_append];rfl
theorem lT (w:World)(l:Lit)(t:TypeId)(n:Nat)(a:n=w.heap.size):∀j u,l.cells[j]?=some u->(w.alloc (.cells #[.bool l.neg,.int .u8 l.kind,.int .i64 l.a,.int .i64 l.b] t)).cell? ((⟨n,0,none⟩:Addr).add j)=some u:=by
 subst a;exact FO w l t
theorem M4 (a:List (List Lit))(b:List Lit)(m:Nat)(v t:Value)(w:World)(G:eP w v b)(H:lU w t a)(I:w.cell? ⟨m,2,none⟩=some t)(J:∀n∈a,n.length<=1000000)(hls:b.length<=1000000)(hT:a.flatten.length<=1000000000) :
 Calls Tryz.prog 151 #[.pointer (some ⟨m,0,none⟩),v] w fun x w'=>(∃h:Bool,x=.returned (.bool h))/\Below w.heap.size w w':=by
 have kH:=di G;have Om:=di H;obtain⟨al,yc,rfl,Ct,uV,K⟩:=G;unfold maxLen at uV;have Ma:=di K;have oK:=di J;clear K J H;obtain⟨M,hi,N,O,P⟩:=info_parts Tryz.Cs;go_enter Tryz.func151,Tryz.ntmps151;go_wp2_with fail
 go_loopw [5,6] (fun v y wr=>∃k:Nat,y=.int .i64 k/\k<=b.length/\wr.ownsRow w.heap.size 168 4 v k (((b.take k).map Lit.flip).map Lit.cells).flatten/\Below w.heap.size w wr) (fun _ y _=>b.length-(intOf y).toNat)
 case atStart=>exact⟨0,rfl,aO,World.ownsRow_nil _ _ _ _,af⟩
 case round=>
  obtain⟨k,rfl,hk,d,o⟩:=hrel;have p:=di d
  by_cases q:k<b.length
  ·obtain⟨bg,rfl,f⟩:=Ma.o k q;have hgb:=ai (f q).neg;have r:=(f q).below o hgb;obtain⟨e1,e2,e3,e4⟩:=r;clear f d;have TZ:=di (Iu Lit.flip b k q);generalize hx:b[k]=Q at *;clear hx;have hs1:=o.size;have e:=p.o;go_wp2_with (at_builtin;refine wpList_append_own _ rfl _ _ 161 rfl w.heap.size 168 M (.agg #[.bool false,.int .u8 0,.int .i64 0,.int .i64 0]) 4 24 Tryz.underlying161 hi N O P rfl aR _ _ _ rfl ((e.alloc _).alloc _) ⟨wr.heap.size+1,0,none⟩ 1 1 Q.flip.cells rfl rfl (lT _ Q.flip _ _ aP) (mH _) aX aO aQ ?_;intro v' R i j _);have z:Below w.heap.size w R:=((o.alloc hs1 _).alloc aQ _).grown j aQ (by intro A B;exact(e.lt A B).1);have C:=di i;clear i j e;go_wp2_with fail;go_roundw
   case rel=>exact⟨k+1,bJ,aO,by rw[TZ.o,tH];exact C.o,z⟩
   case measure=>exact akL
  ·have afm:Hid (wr.ownsRow w.heap.size 168 4 u5 (b.map Lit.flip).length ((b.map Lit.flip).map Lit.cells).flatten):=by
    have:=p.o;rw[List.take_of_length_le aO]at this;have hke:k=(b.map Lit.flip).length:=aQ;rw[<-hke];exact this
   generalize S:b.map Lit.flip=L at *;have KS:L.length<=1000000:=by rw[<-S];simp;omega
   clear S d;have hop:=CS a L;go_wp2_with fail
   go_loopg [5] (nH a L) (fun gk v wr=>∃c:List Lit,gk=nH a c/\wr.ownsRow w.heap.size 168 4 v c.length (c.map Lit.cells).flatten/\c.length+nH a c<=1000000+a.flatten.length/\Below w.heap.size w wr)
   case atStart=>exact⟨L,rfl,afm.o,aO,o⟩
   case round=>
    obtain⟨c,T,d,hcnt,U⟩:=hrel;have uJ:=di T;have p:=di d;have mQ:=di (eP.tF (Row.dW d aP ai5));clear T d;have D:=mQ.o;go_wp2_with fail;refine(Tv c _ _ D).mono ?_;rintro x R ⟨⟨h,rfl⟩,s⟩;have l:=U.trans (s.mono U.size);cases h
    ·have V:=eP.below D s;have r:=lU.below Om.o l;have W:=(l.cell (p:=⟨m,2,none⟩) (ai I)).trans I;clear D;go_wp2_with fail;refine(UL a c m _ t _ V r W oK.o).mono ?_;rintro x w2 ⟨⟨u,h,rfl,X⟩,Y⟩;have g:=l.trans (Y.mono l.size);have aeE:=s.trans (Y.mono s.size);have Fj:=di X;clear X V r W;cases h
     ·go_wp2_with fail;go_ret;exact⟨⟨_,rfl⟩,g.alloc g.size _⟩
     ·by_cases E:u.kind=0
      ·have hk0':((u.kind:Int)==0)=true:=bz;clear E;go_wp2_with fail;go_ret;exact⟨⟨_,rfl⟩,g.alloc g.size _⟩
      ·have hk0':((u.kind:Int)==0)=false:=aj aO
       obtain⟨n,f,Z,hnb⟩:∃n∈a,u∈n/\hasB c u u.neg=false:=by
        rcases Fj.o rfl with F|F
        ·exact absurd F E
        ·exact F
       have hlt2:=MO f Z hnb;have e:=ownsRow_below p.o aeE;have hs2:=g.size;have SK:=CS a c;clear f Z hnb E;go_wp2_with (at_builtin;refine wpList_append_own _ rfl _ _ 161 rfl w.heap.size 168 M (.agg #[.bool false,.int .u8 0,.int .i64 0,.int .i64 0]) 4 24 Tryz.underlying161 hi N O P rfl aR _ _ _ rfl ((e.alloc _).alloc _) ⟨w2.heap.size+1,0,none⟩ 1 1 u.cells rfl rfl (lT _ u _ _ aP) (mH _) aX aO aQ ?_;intro v' w3 i j _);have z:Below w.heap.size w w3:=((g.alloc hs2 _).alloc aQ _).grown j aQ (by intro A B;exact(e.lt A B).1);have C:=di i;clear i j e;go_wp2_with fail
       go_roundg (nH a (c++[u]))
       case measure=>rw[uJ.o];exact hlt2
       case rel=>exact⟨c++[u],rfl,by rw[tH,List.length_append];exact C.o,by simp only[List.length_append,List.length_cons,List.length_nil];omega,z⟩
    ·go_wp2_with fail;go_ret;exact⟨⟨_,rfl⟩,l⟩
end Go.Proofs.YtbichedkajfmiaaGreatDoor
