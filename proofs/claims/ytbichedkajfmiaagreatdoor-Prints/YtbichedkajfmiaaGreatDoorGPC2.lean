import Derived.Test.YtbichedkajfmiaaGreatDoorGPS10
import Derived.Test.YtbichedkajfmiaaGreatDoorC
set_option maxRecDepth 100000
set_option maxHeartbeats 16000000
namespace Doc
variable {g:List Sym}{q:List Term}
theorem EH:∀f∈forms,dZ f.op=18->(f.op=15/\f.least=1/\f.most=1)\/(f.op=17/\f.least=2/\f.most=2):=aR
theorem WE:∀f∈forms,5<=dZ f.op:=aR
theorem GV {t:Term}(d:Made g q t):(dZ t.op=18/\t.args.length=1)↔t.op=15:=by
 rcases d with ⟨h,a,_,_⟩|⟨h,a,_,_,_⟩|⟨h,_,_,_⟩|⟨f,b,h,_,a,_,_⟩
 ·rw[a];simp;rcases h with h|h<;>omega
 ·rw[a];exact aQ
 ·rw[h];simp[dZ]
 ·have m:=jr a;rw[h];constructor
  ·rintro ⟨i,n⟩;rcases EH f b i with ⟨e,_⟩|⟨_,j,k⟩
   ·exact e
   ·exact aO
  ·intro l;have c:dZ f.op=18:=by rw[l];rfl
   rcases EH f b c with ⟨_,j,k⟩|⟨e,_⟩
   ·exact⟨c,aO⟩
   ·exact aO
theorem xc {t:Term}(b:Made g q t):dZ t.op=3↔t.op=14:=by
 have:=yH b;constructor
 ·intro h;rcases b with ⟨a,_⟩|⟨a,_⟩|⟨a,_⟩|⟨f,c,a,_⟩
  ·rcases a with a|a<;>rw[a]at h<;>cases h
  ·exact a
  ·rw[a]at h;cases h
  ·have:=WE f c;rw[a]at h;exact aO
 ·intro h;rw[h];rfl
end Doc
namespace Go.Proofs.YtbichedkajfmiaaGreatDoor
open Go.RowKit
variable {U W u w:World}{k m n:Nat}{l:List Nat}{v:Value}
def Ve (w:World)(B:Nat)(v0 v1 v2 v3 v4:Value):World:=((((w.setCell ⟨B,0,none⟩ v0).setCell ⟨B,1,none⟩ v1).setCell ⟨B,2,none⟩ v2).setCell ⟨B,3,none⟩ v3).setCell ⟨B,4,none⟩ v4
theorem RQ {v0 v1 v2 v3 v4:Value}(h:w.cell? ⟨n,0,none⟩=some v):(Ve w n v0 v1 v2 v3 v4).cell? ⟨n,0,none⟩=some v0:=by
 have a:∀(b:Nat),b≠0->(⟨n,b,none⟩:Addr)≠⟨n,0,none⟩:=fun b h e=>h akh;unfold Ve;rw[ak (a 4 aO),ak (a 3 aO),ak (a 2 aO),ak (a 1 aO)];exact World.cell?_setCell_same _ _ _ h
theorem OU {v0 v1 v2 v3 v4:Value}(h:Below n w W)(a:n<=m):Below n w (Ve W m v0 v1 v2 v3 v4):=((((h.setCell a _).setCell a _).setCell a _).setCell a _).setCell a _
theorem Az (a b:Nat)(A:Option Addr)(p:Nat)(w:World)(h:dY w (.slice A 2 p) [a,b]) :
 Calls Tryz.prog 249 #[.slice A 2 p] w fun f d=>(∃e,f=.returned (.slice (some ⟨w.heap.size,0,none⟩) 2 e)/\dY d (.slice (some ⟨w.heap.size,0,none⟩) 2 e) [b,a])/\Below w.heap.size w d:=by
 obtain⟨_,g,l⟩:=gG h;obtain⟨m,rfl,o⟩:=eY h 0 a rfl;obtain⟨q,c,r⟩:=eY h 1 b rfl;injection c with c
 injection c with c;subst c;simp only[List.length_cons,List.length_nil]at g
 have i:Hid (∀n,dY ((w.alloc (.cells #[.int .i64 (b:Int),.int .i64 (a:Int)] 3)).drewN n) (.slice (some ⟨w.heap.size,0,none⟩) 2 2) [b,a]):=fun n=>by
  refine⟨_,_,rfl,aP,aX,fun j hi=>⟨w.heap.size,rfl,fun h=>?_⟩⟩
  match j,h with
  | 0,_=>simp
  | 1,_=>simp
 have k:Hid (∀n,Below w.heap.size w ((w.alloc (.cells #[.int .i64 (b:Int),.int .i64 (a:Int)] 3)).drewN n)):=fun n=>below_drewN ag n;clear h;go_enter Tryz.func249,Tryz.ntmps249;go_wp2_with fail;go_region
 all_goals
  go_wp2_with fail;go_ret;exact⟨⟨_,rfl,i.o _⟩,k.o _⟩
theorem FR (y z:Nat)(A:List Doc.Sym)(a:List Doc.Term)(n:Nat)(w:World)(T:w.cell? ⟨y,0,none⟩=some (.pointer (some ⟨z,0,none⟩)))(B:qX w z A a)(C:Doc.gP A a)(D:n<a.length) :
 Calls Tryz.prog 259 #[.pointer (some ⟨y,0,none⟩),.int .i64 n] w fun t w'=>t=.returned (.bool (Doc.number a n))/\Below w.heap.size w w':=by
 have hol:=ai T;have g:=C.terms n D;obtain⟨U,i,l,I⟩:=qj z A a n w B D;have m:=di (I w af);obtain⟨_,E,k2⟩:=gG l;have J:Doc.mY a n=a[n].op:=by unfold Doc.mY;rw[aD D]
 have K:Doc.om a n=a[n].args:=by unfold Doc.om;rw[aD D]
 have V:Hid (Doc.number a n=if a[n].op=15 then Doc.mY a (a[n].args.getD 0 0)==14 else a[n].op==14):=by show _=_;unfold Doc.number;rw[J,K]
 generalize Doc.number a n=X at *
 by_cases o:a[n].op=15
 ·obtain⟨Y,M⟩:=(Doc.GV g.made).2 o
  obtain⟨b,p⟩:∃b,a[n].args=[b]:=by
   match hx:a[n].args,M with
   | [b],_=>exact⟨b,rfl⟩
  have N:b<a.length:=by have:=g.args b (by rw[p];simp);omega
  have O:=C.terms b N;obtain⟨aB,K7,abb,Z⟩:=qj z A a b w B N;have HT2:=di Z
  have F:Hid (X=(Doc.dZ a[b].op==3)):=by
   show _=_;rw[V.o,if_pos o,p];have e1:Doc.mY a ([b].getD 0 0)=a[b].op:=by show Doc.mY a b=_;unfold Doc.mY;rw[aD N]
   rw[e1]
   by_cases e:a[b].op=14
   ·rw[(Doc.xc O.made).2 e,e];rfl
   ·rw[beq_eq_false_iff_ne.2 e,beq_eq_false_iff_ne.2 (fun h=>e ((Doc.xc O.made).1 h))]
  rw[p,Y]at m;rw[p]at l;obtain⟨u,rfl,_⟩:=eY l 0 b rfl
  have HG:Hid (∀W,Below w.heap.size w W->W.cell? ⟨u,0,none⟩=some (.int .i64 (b:Int))):=fun W h=>by
   obtain⟨g',v,P⟩:=eY (l.below h) 0 b rfl;injection v with v
   injection v with v;subst v;exact P
  simp only[List.length_cons,List.length_nil]at m
  have hsw:((Doc.dZ a[b].op:Int)==3)=(Doc.dZ a[b].op==3):=by
   by_cases x:Doc.dZ a[b].op=3
   ·rw[x];rfl
   ·rw[beq_eq_false_iff_ne.2 x,beq_eq_false_iff_ne];exact aO
  generalize Doc.dZ a[b].op=q at *;have hca:1<=i:=by rw[p]at E;simpa using E
  clear l abb I Z B C g O o E J K Y M p;go_enter Tryz.func259,Tryz.ntmps259;go_wp2_with fail;refine m.o.mono ?_;rintro t c ⟨rfl,d⟩;have hs1:=d.size;have G:Below w.heap.size w (c.alloc (.cells #[.int .i64 18,.int .i64 a[n].sym,.int .i64 (Doc.fq a[n]:Nat),.slice (some ⟨u,0,none⟩) 1 i,.int .i64 a[n].sort] 238)):=d.alloc hs1 _;have f:=di G;have o1:=(G.cell (p:=⟨y,0,none⟩) hol).trans T;have P:=HG.o _ G;have ahd:y<c.heap.size:=aO;clear d G;go_upto_region 3 with fail;generalize H:c.alloc (.cells #[.int .i64 18,.int .i64 a[n].sym,.int .i64 (Doc.fq a[n]:Nat),.slice (some ⟨u,0,none⟩) 1 i,.int .i64 a[n].sort] 238)=Q at *;have r:∀j R,(c.alloc (.cells #[.int .i64 18,.int .i64 a[n].sym,.int .i64 (Doc.fq a[n]:Nat),.slice (some ⟨u,0,none⟩) 1 i,.int .i64 a[n].sort] 238)).cell? ⟨c.heap.size,j,none⟩=some R->Q.cell? ⟨c.heap.size,j,none⟩=some R:=fun j R h=>by rw[<-H];exact h
  have b0:=r 0 (.int .i64 18) aP;have b1:=r 1 (.int .i64 a[n].sym) aP;have b2:=r 2 (.int .i64 (Doc.fq a[n]:Nat)) aP;have b3:=r 3 (.slice (some ⟨u,0,none⟩) 1 i) aP;have b4:=r 4 (.int .i64 a[n].sort) aP;have bf:∀j,Q.frozen? ⟨c.heap.size,j,none⟩=false:=fun j=>by rw[<-H];simp
  have s:c.heap.size<Q.heap.size:=by rw[<-H];simp
  clear r H;go_cut [] (fun wx=>wx.cell? ⟨c.heap.size,0,none⟩=some (.int .i64 (q:Int))/\Below w.heap.size w wx)
  case first=>
   go_region_with (go_at_call 174;refine(HT2.o _ (by first|exact f.o|exact f.o.drew)).mono ?_;rintro t w2 ⟨rfl,k⟩;have q0:=(k.cell (p:=⟨c.heap.size,0,none⟩) s).trans b0;have q1:=(k.cell (p:=⟨c.heap.size,1,none⟩) s).trans b1;have q2:=(k.cell (p:=⟨c.heap.size,2,none⟩) s).trans b2;have q3:=(k.cell (p:=⟨c.heap.size,3,none⟩) s).trans b3;have q4:=(k.cell (p:=⟨c.heap.size,4,none⟩) s).trans b4;have qf:∀j,w2.frozen? ⟨c.heap.size,j,none⟩=false:=fun j=>(k.frozen (p:=⟨c.heap.size,j,none⟩) s).trans (bf j))
   all_goals
    have HZ0:=di (RQ (v0:=.int .i64 (q:Int)) (v1:=.int .i64 a[b].sym) (v2:=.int .i64 (Doc.fq a[b]:Nat)) (v3:=.slice aB a[b].args.length K7) (v4:=.int .i64 a[b].sort) q0);have HZ1:=di (fun v0 v1 v2 v3 v4=>OU (v0:=v0) (v1:=v1) (v2:=v2) (v3:=v3) (v4:=v4) (f.o.trans ((af.drew.trans k).mono f.o.size)) hs1);go_wp2_with fail;go_meet
    case rel=>exact⟨HZ0.o,HZ1.o _ _ _ _ _⟩
  case rest=>
   obtain⟨z0,z1⟩:=hcut;have HZ:=di z1;clear z1 b0 b1 b2 b3 b4 bf o1 P;go_wp2_with fail;go_ret;exact⟨dK (by rw[F.o]),HZ.o⟩
 ·have F:Hid (X=(Doc.dZ a[n].op==3)):=by
   show _=_;rw[V.o,if_neg o]
   by_cases e:a[n].op=14
   ·rw[(Doc.xc g.made).2 e,e];rfl
   ·rw[beq_eq_false_iff_ne.2 e,beq_eq_false_iff_ne.2 (fun h=>e ((Doc.xc g.made).1 h))]
  have hsw:((Doc.dZ a[n].op:Int)==3)=(Doc.dZ a[n].op==3):=by
   by_cases x:Doc.dZ a[n].op=3
   ·rw[x];rfl
   ·rw[beq_eq_false_iff_ne.2 x,beq_eq_false_iff_ne];exact aO
  have S:¬(Doc.dZ a[n].op=18/\a[n].args.length=1):=fun h=>o ((Doc.GV g.made).1 h);generalize Doc.dZ a[n].op=q at *;obtain⟨L,hL⟩:=aJ (a[n].args.length);rw[hL]at S m E;clear hL l I B C g o J K
  by_cases h18:q=18
  ·have M:((L:Int)==1)=false:=aj aO;subst h18;clear S;go_enter Tryz.func259,Tryz.ntmps259;go_wp2_with fail;refine m.o.mono ?_;rintro t c ⟨rfl,d⟩;have f:=di (d.alloc d.size (.cells #[.int .i64 (18:Nat),.int .i64 a[n].sym,.int .i64 (Doc.fq a[n]:Nat),.slice U L i,.int .i64 a[n].sort] 238));clear d;go_wp2_with fail;go_ret;exact⟨dK (by rw[F.o];rfl),f.o⟩
  ·have ahA:((q:Int)==18)=false:=aj aO;clear S h18;go_enter Tryz.func259,Tryz.ntmps259;go_wp2_with fail;refine m.o.mono ?_;rintro t c ⟨rfl,d⟩;have f:=di (d.alloc d.size (.cells #[.int .i64 (q:Nat),.int .i64 a[n].sym,.int .i64 (Doc.fq a[n]:Nat),.slice U L i,.int .i64 a[n].sort] 238));clear d;go_wp2_with fail;go_ret;exact⟨dK (by rw[F.o]),f.o⟩
theorem sG (w:World)(x:Value)(t:TypeId)(n:Nat)(a:n=w.heap.size):∀j u,[x][j]?=some u->(w.alloc (.cells #[x] t)).cell? ((⟨n,0,none⟩:Addr).add j)=some u:=by
 subst a;exact cell_one_new w x t
theorem Em (h:l[n]?=some m):gX (l.take (n+1))=gX (l.take n)++[.int .i64 (m:Int)]:=by
 rw[List.take_add_one,h];simp[gX]
theorem Mv (q k:Nat)(E:List Doc.Sym)(b:List Doc.Term)(c:List Nat)(F:Option Addr)(G:Nat)(w:World)(H:w.cell? ⟨q,0,none⟩=some (.pointer (some ⟨k,0,none⟩)))(I:qX w k E b)(d:dY w (.slice F c.length G) c)(J:∀a∈c,a<b.length)(hL:c.length<=1000000) :
 Calls Tryz.prog 246 #[.pointer (some ⟨q,0,none⟩),.slice F c.length G] w fun l n=>Cz n w.heap.size (c.map (Doc.dF b)) l/\Below w.heap.size w n:=by
 obtain⟨i0,hi0,hz0,hz1,hz2⟩:=info_parts Tryz.mI;have hol:=ai H;obtain⟨_,k1,k2⟩:=gG d;have Uu:=di (fun W (h:Below w.heap.size w W)=>eY (d.below h));have HO:=di (fun W (h:Below w.heap.size w W)=>(h.cell (p:=⟨q,0,none⟩) hol).trans H)
 have K:Hid (∀i a,c[i]?=some a->∃r s t e u f,(c.map (Doc.dF b))[i]?=some (Doc.dF b a)/\∀W,Below w.heap.size w W->Calls Tryz.prog 174 #[.pointer (some ⟨k,0,none⟩),.int .i64 (a:Nat)] W fun l n=>l=.returned (.agg #[.int .i64 (r:Nat),.int .i64 (s:Nat),.int .i64 (t:Nat),.slice e u f,.int .i64 (Doc.dF b a:Nat)])/\Below W.heap.size W n):=fun i a h=>by
  have M:=J a (List.mem_of_getElem? h);obtain⟨e,f,_,ht⟩:=qj k E b a w I M;refine⟨Doc.dZ b[a].op,b[a].sym,Doc.fq b[a],e,b[a].args.length,f,?_,fun W hW=>?_⟩
  ·rw[List.getElem?_map,h];rfl
  ·rw[rX M];exact ht W hW
 have o:(c.map (Doc.dF b)).length=c.length:=aP;obtain⟨L,v⟩:=aJ c.length;rw[v]at o k1 hL ⊢;have HL:=di v;obtain⟨g,N⟩:=aJ (c.map (Doc.dF b));rw[N]at K o ⊢;have O:=di o;clear I d J o N v;go_enter Tryz.func246,Tryz.ntmps246;go_wp2_with fail
 go_loopw [5,11] (fun bg i wr=>∃m:Nat,i=.int .i64 m/\m<=L/\wr.ownsRow w.heap.size 3 1 bg m (gX (g.take m))/\Below w.heap.size w wr) (fun _ i _=>L-(intOf i).toNat)
 case atStart=>exact⟨0,rfl,aO,World.ownsRow_nil _ _ _ _,af⟩
 case round=>
  obtain⟨m,rfl,hm,x,j⟩:=hrel;have P:=di x;have y:=di j;obtain⟨Q,R,rfl,hv1,hv2⟩:=fM x;have o1:=HO.o wr j;clear x
  by_cases hlt2:m<L
  ·have S:m<c.length:=by rw[HL.o];exact hlt2
   obtain⟨a,d⟩:∃a,c[m]?=some a:=⟨_,aD S⟩;obtain⟨bq,rfl,d1⟩:=Uu.o wr j m a d;obtain⟨r,s,t,e,u,f,T,U⟩:=K.o m a d;have V:=di (U wr j);have X:=di (Em T);obtain⟨p,Y⟩:=aJ (Doc.dF b a);rw[Y]at V X;clear U d T Y S j;go_wp2_with fail;refine V.o.mono ?_;rintro l w1 ⟨rfl,z⟩;have A:=z.alloc z.size (.cells #[.int .i64 (r:Nat),.int .i64 (s:Nat),.int .i64 (t:Nat),.slice e u f,.int .i64 (p:Nat)] 238);have B:=di (y.o.trans (A.mono y.o.size));have Z:=di (ownsRow_below P.o A);have hs2:=B.o.size;simp only[World.size_alloc]at hs2;clear z A;go_wp2_with (at_builtin;refine dD rfl (.tmp 21) (.tmp 24) 57 rfl w.heap.size 3 i0 (.int .i64 0) 1 8 Tryz.underlying57 hi0 hz0 hz1 hz2 rfl aR (.slice Q m R) m (gX (g.take m)) rfl (by exact Z.o.alloc _) ⟨w1.heap.size+1,0,none⟩ 1 [.int .i64 (p:Int)] rfl rfl (by exact sG _ _ _ _ aP) bX aX aO aQ ?_;intro ga eZ C hown' hgrow hg1 hg2;have HB3:Hid (Below w.heap.size w C):=(B.o.alloc B.o.size _).grown hgrow aQ (fun bn hx=>(Z.o.lt bn hx).1))
   have qw:Hid (C.ownsRow w.heap.size 3 1 (.slice (some ⟨ga,0,none⟩) (m+1) eZ) (m+1) (gX (g.take (m+1)))):=by
    show C.ownsRow _ _ _ _ _ _;rw[X.o];exact hown'
   clear hown' hgrow hg1 hg2;go_wp2_with fail;go_roundw
   case rel=>exact⟨m+1,bJ,aO,qw.o,HB3.o⟩
   case measure=>exact akL
  ·go_wp2_with fail;go_ret;have hmL:m=L:=aO;subst hmL;have h:=P.o;rw[List.take_of_length_le (by rw[O.o];exact ae)]at h;have D:=O.o;refine⟨⟨Q,R,?_,by rw[D];exact hv1,hv2,by rw[D];exact h⟩,y.o⟩;rw[D];rfl
theorem jm {u0 u1 u2 u3 u4:Value}(m:w.cell? ⟨n,0,none⟩=some u0)(p:w.cell? ⟨n,1,none⟩=some u1)(q:w.cell? ⟨n,2,none⟩=some u2)(r:w.cell? ⟨n,3,none⟩=some u3)(s:w.cell? ⟨n,4,none⟩=some u4)(f g i j k:Value) :
 ∃c,((((w.setCell ⟨n,0,none⟩ f).setCell ⟨n,1,none⟩ g).setCell ⟨n,2,none⟩ i).setCell ⟨n,3,none⟩ j).setCell ⟨n,4,none⟩ k=c/\c.cell? ⟨n,0,none⟩=some f/\c.cell? ⟨n,1,none⟩=some g/\c.cell? ⟨n,2,none⟩=some i/\c.cell? ⟨n,3,none⟩=some j/\c.cell? ⟨n,4,none⟩=some k/\Below n w c/\∀b,b≠n->c.heap[b]?=w.heap[b]?:=by
 have t:∀(a b:Nat),a≠b->(⟨n,a,none⟩:Addr)≠⟨n,b,none⟩:=fun a b h x=>h (by injection x);have o:∀(w:World) (a b:Nat) (v u:Value),a≠b->w.cell? ⟨n,b,none⟩=some u->(w.setCell ⟨n,a,none⟩ v).cell? ⟨n,b,none⟩=some u:=fun w a b v u h y=>(ak (t a b h)).trans y;have d:∀(l:World) (a:Nat) (v:Value),Below n w l->Below n w (l.setCell ⟨n,a,none⟩ v):=fun _ _ _ h=>h.setCell ae _;refine⟨_,rfl,?_,?_,?_,?_,?_,d _ _ _ (d _ _ _ (d _ _ _ (d _ _ _ (d _ _ _ af)))),?_⟩
 ·exact o _ 4 0 _ _ aO (o _ 3 0 _ _ aO (o _ 2 0 _ _ aO (o _ 1 0 _ _ aO (World.cell?_setCell_same _ _ _ m))))
 ·exact o _ 4 1 _ _ aO (o _ 3 1 _ _ aO (o _ 2 1 _ _ aO (World.cell?_setCell_same _ _ _ (o _ 0 1 _ _ aO p))))
 ·exact o _ 4 2 _ _ aO (o _ 3 2 _ _ aO (World.cell?_setCell_same _ _ _ (o _ 1 2 _ _ aO (o _ 0 2 _ _ aO q))))
 ·exact o _ 4 3 _ _ aO (World.cell?_setCell_same _ _ _ (o _ 2 3 _ _ aO (o _ 1 3 _ _ aO (o _ 0 3 _ _ aO r))))
 ·exact World.cell?_setCell_same _ _ _ (o _ 3 4 _ _ aO (o _ 2 4 _ _ aO (o _ 1 4 _ _ aO (o _ 0 4 _ _ aO s))))
 ·intro b e;rw[aC e,aC e,aC e,aC e,aC e]
theorem dY.of_block (h:dY w (.slice (some ⟨n,0,none⟩) m k) l)(b:W.heap[n]?=w.heap[n]?):dY W (.slice (some ⟨n,0,none⟩) m k) l:=by
 obtain⟨q,r,e,c,d,f⟩:=h;injection e with g j o
 subst g j o;refine⟨_,_,rfl,c,d,fun i hi=>?_⟩;obtain⟨s,a,p⟩:=f i hi;injection a with a;injection a with a;subst a;exact⟨_,rfl,fun h=>(World.cell?_of_block (w:=w) (a:=⟨_,i,none⟩) b).trans (p h)⟩
def jH:Value:=.agg #[.int .i64 0,.int .i64 0,.int .i64 0,.slice none 0 0,.int .i64 0]
def vK (w w':World)(Aa:Option Addr)(R:Except Nat Doc.Term)(e:Ending):Prop:=match R with
 | .ok t=>∃A p,e=.returned (.tuple #[.agg #[.int .i64 (Doc.dZ t.op:Nat),.int .i64 t.sym,.int .i64 (Doc.fq t:Nat),.slice A t.args.length p,.int .i64 t.sort],.int .i64 0])/\dY w' (.slice A t.args.length p) t.args/\(A=Aa\/∃g,A=some ⟨g,0,none⟩/\w.heap.size<=g)
 | .error er=>e=.returned (.tuple #[jH,.int .i64 (er:Nat)])
structure yh (w wx:World):Prop where
 c0:wx.cell? ⟨w.heap.size,0,none⟩=some (.int .i64 0)
 c1:wx.cell? ⟨w.heap.size,1,none⟩=some (.int .i64 0)
 c2:wx.cell? ⟨w.heap.size,2,none⟩=some (.int .i64 0)
 c3:wx.cell? ⟨w.heap.size,3,none⟩=some (.slice none 0 0)
 c4:wx.cell? ⟨w.heap.size,4,none⟩=some (.int .i64 0)
 fr:∀j,wx.frozen? ⟨w.heap.size,j,none⟩=false
 lt:w.heap.size<wx.heap.size
 dG:Below w.heap.size w wx
theorem yh.start (w:World):yh w (w.alloc (.cells #[.int .i64 0,.int .i64 0,.int .i64 0,.slice none 0 0,.int .i64 0] 238)):=
 ⟨aP,aP,aP,aP,aP,fun j=>aP,aP,ag⟩
theorem yh.below (h:yh w W)(a:Below W.heap.size W u):yh w u:=
 ⟨(a.cell (p:=⟨w.heap.size,0,none⟩) h.lt).trans h.c0,(a.cell (p:=⟨w.heap.size,1,none⟩) h.lt).trans h.c1,(a.cell (p:=⟨w.heap.size,2,none⟩) h.lt).trans h.c2,(a.cell (p:=⟨w.heap.size,3,none⟩) h.lt).trans h.c3,(a.cell (p:=⟨w.heap.size,4,none⟩) h.lt).trans h.c4,fun j=>(a.frozen (p:=⟨w.heap.size,j,none⟩) h.lt).trans (h.fr j),Nat.lt_of_lt_of_le h.lt a.size,h.dG.trans (a.mono (Nat.le_of_lt h.lt))⟩
def zw (ts:List Doc.Term)(a b:Nat):Except Nat Doc.Term:=
 if Doc.number ts a=true then .ok ⟨Doc.written ts [42] [a,b],18,2,0,[a,b]⟩
 else if Doc.number ts b=true then .ok ⟨Doc.written ts [42] [b,a],18,2,0,[b,a]⟩ else .error 8
theorem MG (q O:Nat)(P:List Doc.Sym)(d:List Doc.Term)(b c:Nat)(A:Option Addr)(p:Nat)(w:World)(X:w.cell? ⟨q,0,none⟩=some (.pointer (some ⟨O,0,none⟩)))(Y:qX w O P d)(Z:Doc.gP P d)(i:dY w (.slice A 2 p) [b,c])(hal:b<d.length)(hbl:c<d.length) :
 Calls Tryz.prog 248 #[.pointer (some ⟨q,0,none⟩),.slice A 2 p] w fun e j=>vK w j A (zw d b c) e/\Below w.heap.size w j:=by
 have hol:=ai X;obtain⟨_,k1,k2⟩:=gG i;simp only[List.length_cons,List.length_nil]at k1;have HIA:=di i
 have Q:Hid (∀r,r<d.length->∀W,Below w.heap.size w W->Calls Tryz.prog 259 #[.pointer (some ⟨q,0,none⟩),.int .i64 (r:Nat)] W fun e j=>e=.returned (.bool (Doc.number d r))/\Below W.heap.size W j):=
  fun r hn W k=>FR q O P d r W ((k.cell (p:=⟨q,0,none⟩) hol).trans X) (Y.below k) Z hn
 have Ii:Hid (∀W,Below w.heap.size w W->Calls Tryz.prog 249 #[.slice A 2 p] W fun e j=>(∃s,e=.returned (.slice (some ⟨W.heap.size,0,none⟩) 2 s)/\dY j (.slice (some ⟨W.heap.size,0,none⟩) 2 s) [c,b])/\Below W.heap.size W j):=fun W k=>Az b c A p W (i.below k);obtain⟨J,rfl,_⟩:=eY i 0 b rfl
 have R:Hid (∀W,Below w.heap.size w W->W.cell? ⟨J,0,none⟩=some (.int .i64 (b:Int))/\W.cell? ⟨J,1,none⟩=some (.int .i64 (c:Int))):=fun W k=>by
  obtain⟨g',f,K⟩:=eY (i.below k) 0 b rfl;injection f with f
  injection f with f;subst f;obtain⟨g',f,L⟩:=eY (i.below k) 1 c rfl;injection f with f;injection f with f;subst f;exact⟨K,L⟩
 have t:=di (yh.start w);obtain⟨K,L⟩:=R.o _ t.o.dG;have S:Hid (zw d b c=if Doc.number d b=true then .ok ⟨Doc.written d [42] [b,c],18,2,0,[b,c]⟩ else if Doc.number d c=true then .ok ⟨Doc.written d [42] [c,b],18,2,0,[c,b]⟩ else .error 8):=rfl;generalize zw d b c=T at *;have m:=di (Q.o b hal _ t.o.dG);have M:=di (Q.o c hbl);clear i Y Z Q;cases hna:Doc.number d b
 ·cases hnb:Doc.number d c
  ·have u:Hid (T=.error 8):=by show _=_;rw[S.o,hna,hnb];rfl
   rw[hna]at m;rw[hnb]at M;clear hna hnb;go_enter Tryz.func248,Tryz.ntmps248;go_wp2_with fail;refine m.o.mono ?_;rintro e w1 ⟨rfl,g⟩;have l:=t.o.below g;have v:=di l;obtain⟨K,L⟩:=R.o _ l.dG;clear g l;go_wp2_with fail;refine(M.o _ v.o.dG).mono ?_;rintro e U ⟨rfl,x⟩;have a:=v.o.below x;have N:=di a;have y:=a.c0;have z:=a.c1;have B:=a.c2;have C:=a.c3;have D:=a.c4;have cf:=a.fr;obtain⟨wz,hwz,E,F,G,H,I,h,n⟩:=jm y z B C D (.int .i64 0) (.int .i64 0) (.int .i64 0) (.slice none 0 0) (.int .i64 0);have o:=di (a.dG.trans h);clear x a h n;go_wp2_with fail;exact bodyPost_ret (v:=.tuple #[jH,.int .i64 8]) (by simp[results,Tryz.results248,go_sem,jH,E,F,G,H,I]) rfl ⟨by rw[u.o];rfl,o.o⟩
  ·have u:Hid (T=.ok ⟨Doc.written d [42] [c,b],18,2,0,[c,b]⟩):=by show _=_;rw[S.o,hna,hnb];rfl
   rw[hna]at m;rw[hnb]at M;clear hna hnb;go_enter Tryz.func248,Tryz.ntmps248;go_wp2_with fail;refine m.o.mono ?_;rintro e w1 ⟨rfl,g⟩;have l:=t.o.below g;have v:=di l;obtain⟨K,L⟩:=R.o _ l.dG;clear g l;go_wp2_with fail;refine(M.o _ v.o.dG).mono ?_;rintro e U ⟨rfl,x⟩;have a:=v.o.below x;have N:=di a;clear x a;go_wp2_with fail;refine(Ii.o _ N.o.dG).mono ?_;rintro e w3 ⟨⟨s,rfl,hints⟩,hb3⟩;have hlt2:=N.o.lt;have a:=N.o.below hb3;have y:=a.c0;have z:=a.c1;have B:=a.c2;have C:=a.c3;have D:=a.c4;have cf:=a.fr;obtain⟨wz,hwz,E,F,G,H,I,h,n⟩:=jm y z B C D (.int .i64 19) (.int .i64 0) (.int .i64 0) (.slice (some ⟨U.heap.size,0,none⟩) 2 s) (.int .i64 2);have o:=di (a.dG.trans h);have V:=di (hints.of_block (n _ aO));clear hb3 a h n hints;go_wp2_with fail;exact bodyPost_ret (v:=.tuple #[.agg #[.int .i64 19,.int .i64 0,.int .i64 0,.slice (some ⟨U.heap.size,0,none⟩) 2 s,.int .i64 2],.int .i64 0]) aks rfl ⟨by rw[u.o];exact⟨_,_,rfl,V.o,.inr ⟨_,rfl,aO⟩⟩,o.o⟩
 ·have u:Hid (T=.ok ⟨Doc.written d [42] [b,c],18,2,0,[b,c]⟩):=by show _=_;rw[S.o,hna];rfl
  rw[hna]at m;clear hna;go_enter Tryz.func248,Tryz.ntmps248;go_wp2_with fail;refine m.o.mono ?_;rintro e w1 ⟨rfl,g⟩;have a:=t.o.below g;have y:=a.c0;have z:=a.c1;have B:=a.c2;have C:=a.c3;have D:=a.c4;have cf:=a.fr;obtain⟨wz,hwz,E,F,G,H,I,h,n⟩:=jm y z B C D (.int .i64 19) (.int .i64 0) (.int .i64 0) (.slice (some ⟨J,0,none⟩) 2 p) (.int .i64 2);have o:=di (a.dG.trans h);have V:=di (HIA.o.below o.o);clear g a h n;go_wp2_with fail;exact bodyPost_ret (v:=.tuple #[.agg #[.int .i64 19,.int .i64 0,.int .i64 0,.slice (some ⟨J,0,none⟩) 2 p,.int .i64 2],.int .i64 0]) aks rfl ⟨by rw[u.o];exact⟨_,_,rfl,V.o,.inl rfl⟩,o.o⟩
theorem EJ (b c d e a:Value)(w:World):(Instr.field 238 (.agg #[b,c,d,e,a]) 4).run Tryz.prog w=.ok a w:=by
 first
 | (simp[Instr.field,run_underlying Tryz.underlying238,go_sem];done)
 | kernel_rfl
def lC (ss:List Doc.Sym)(ts:List Doc.Term)(s:Nat)(args:List Nat):Except Nat Doc.Term:=
 if args.length=0\/args.length≠(Doc.gK ss s).length then .error 7
 else if args.map (Doc.dF ts)≠Doc.gK ss s then .error 7
 else .ok ⟨Doc.written ts (Doc.jQ ss s) args,13,Doc.iN ss s,s,args⟩
theorem zq {a:List Doc.Sym}(h:n<a.length):Doc.gK a n=a[n].args:=by unfold Doc.gK;rw[aD h]
theorem Ee {a:List Doc.Sym}(h:n<a.length):Doc.iN a n=a[n].sort:=by unfold Doc.iN;rw[aD h]
structure Mj (w w1 wx:World)(tk:Value)(so:Nat):Prop where
 z:yh w wx
 t:wx.cell? ⟨w1.heap.size,1,none⟩=some tk
 s:wx.cell? ⟨w1.heap.size,2,none⟩=some (.int .i64 so)
 lt:w1.heap.size<wx.heap.size
theorem Mj.below (h:Mj w W u v n)(a:Below u.heap.size u U):Mj w W U v n:=
 ⟨h.z.below a,(a.cell (p:=⟨W.heap.size,1,none⟩) h.lt).trans h.t,(a.cell (p:=⟨W.heap.size,2,none⟩) h.lt).trans h.s,Nat.lt_of_lt_of_le h.lt a.size⟩
theorem CK (Y C:Nat)(e:List Doc.Sym)(c:List Doc.Term)(s:Nat)(b:List Nat)(D:Option Addr)(O:Nat)(w:World)(ho:w.cell? ⟨Y,0,none⟩=some (.pointer (some ⟨C,0,none⟩)))(Z:qX w C e c)(P:dY w (.slice D b.length O) b)(hs:s<e.length)(hlt:∀d∈b,d<c.length) :
 Calls Tryz.prog 245 #[.pointer (some ⟨Y,0,none⟩),.int .i64 s,.slice D b.length O] w fun E Q=>vK w Q D (lC e c s b) E/\Below w.heap.size w Q:=by
 have hol:=ai ho;obtain⟨_,k1,k2⟩:=gG P;obtain⟨R,r,htk,hsy⟩:=vk C e c s w Z hs;obtain⟨_,m1,m2⟩:=gG htk;have HA:=di P;have Uu:=di (fun W (h:Below w.heap.size w W)=>eY (P.below h));have ru:=di (fun W (h:Below w.heap.size w W)=>eY (htk.below h));have HO:=di (fun W (h:Below w.heap.size w W)=>(h.cell (p:=⟨Y,0,none⟩) hol).trans ho);have HZ0:=di (yh.start w);have S:=di (hsy _ HZ0.o.dG)
 have HT:Hid (∀m d,b[m]?=some d->∃po sy pn F lB G,(b.map (Doc.dF c))[m]?=some (Doc.dF c d)/\∀W,Below w.heap.size w W->Calls Tryz.prog 174 #[.pointer (some ⟨C,0,none⟩),.int .i64 (d:Nat)] W fun E Q=>E=.returned (.agg #[.int .i64 (po:Nat),.int .i64 (sy:Nat),.int .i64 (pn:Nat),.slice F lB G,.int .i64 (Doc.dF c d:Nat)])/\Below W.heap.size W Q):=fun m d h=>by
  have hal:=hlt d (List.mem_of_getElem? h);obtain⟨F,G,_,ht⟩:=qj C e c d w Z hal;refine⟨Doc.dZ c[d].op,c[d].sym,Doc.fq c[d],F,c[d].args.length,G,?_,fun W hW=>?_⟩
  ·rw[List.getElem?_map,h];rfl
  ·rw[rX hal];exact ht W hW
 have t:Hid (lC e c s b=if b.length=0\/b.length≠e[s].args.length then .error 7 else if b.map (Doc.dF c)≠e[s].args then .error 7 else .ok ⟨Doc.written c (Doc.jQ e s) b,13,e[s].sort,s,b⟩):=by show _=_;unfold lC;rw[zq hs,Ee hs]
 have o0:=HO.o _ HZ0.o.dG;generalize lC e c s b=U at *;obtain⟨n,aaS⟩:=aJ (e[s].args);obtain⟨f,hso⟩:=aJ (e[s].sort);rw[aaS]at S ru t m1;rw[hso]at S t;clear Z P htk hsy aaS hso hlt;have hrest:∀(wq:World) (L T:Nat),True:=fun _ _ _=>trivial;obtain⟨L,hL⟩:=aJ b.length;obtain⟨T,hT⟩:=aJ n.length;have HL:=di hL;have YI:=di hT;rw[hL]at k1 t HA ⊢;rw[hT]at m1 t S;clear hL hT hrest;go_enter Tryz.func245,Tryz.ntmps245;go_wp2_with fail;refine S.o.mono ?_;rintro E o ⟨rfl,hb1⟩;have hz1:=HZ0.o.below hb1;have aaW:Mj w o (o.alloc (.cells #[.string ⟨e[s].name.toArray⟩,.slice R T r,.int .i64 f] 196)) (.slice R T r) f:=⟨hz1.below ag,aP,aP,aP⟩;have Lx:=di aaW;have hw1:=hz1.lt;clear hb1 hz1 aaW;go_upto_region 2 with fail
 generalize o.alloc (.cells #[.string ⟨e[s].name.toArray⟩,.slice R T r,.int .i64 f] 196)=wa at *;have sa1:=Lx.o.t
 by_cases p:L=0\/L≠T
 ·have u:Hid (U=.error 7):=by show _=_;rw[t.o,if_pos p]
  have a:=Lx.o.z;have H:=a.c0;have I:=a.c1;have J:=a.c2;have K:=a.c3;have M:=a.c4;have cf:=a.fr;obtain⟨wz,hwz,v,x,y,z,A,i,N⟩:=jm H I J K M (.int .i64 0) (.int .i64 0) (.int .i64 0) (.slice none 0 0) (.int .i64 0);have q:=di (a.dG.trans i);clear a i N
  by_cases h00:L=0
  ·have t0:((L:Int)==0)=true:=by rw[h00];rfl
   clear h00 p;exact alD
  ·have t0:((L:Int)==0)=false:=aj aO;have t1:((L:Int) !=(T:Int))=true:=aQ;clear h00 p;exact alD
 ·have hL0:L≠0:=fun h=>p (.inl h);have hLT:L=T:=Decidable.byContradiction (fun h=>p (.inr h));have HP2:Hid (U=if b.map (Doc.dF c)≠n then .error 7 else .ok ⟨Doc.written c (Doc.jQ e s) b,13,f,s,b⟩):=by show _=_;rw[t.o,if_neg p]
  subst hLT;have t0:((L:Int)==0)=false:=aj aO;clear p hL0;go_wp2_with fail
  go_loopw [30] (fun m wr=>∃k:Nat,m=.int .i64 k/\k<=L/\(∀j,j<k->(b.map (Doc.dF c))[j]?=n[j]?)/\Mj w o wr (.slice R L r) f) (fun m _=>L-(intOf m).toNat)
  case atStart=>exact⟨0,rfl,aO,(fun j hj=>aO),Lx.o⟩
  case round=>
   obtain⟨k,rfl,hk,hsame,g⟩:=hrel;have HS:=di hsame;have HST:=di g;have o1:=HO.o wr g.z.dG;have st1:=g.t;have slt:=g.lt;clear hsame
   by_cases hlt2:k<L
   ·have hkl:k<b.length:=by rw[HL.o];exact hlt2
    have hkt:k<n.length:=by rw[YI.o];exact hlt2
    obtain⟨d,hka⟩:∃d,b[k]?=some d:=⟨_,aD hkl⟩;obtain⟨B,hkz⟩:∃B,n[k]?=some B:=⟨_,aD hkt⟩;obtain⟨bn,rfl,d1⟩:=Uu.o wr g.z.dG k d hka;obtain⟨g2,rfl,V⟩:=ru.o wr g.z.dG k B hkz;obtain⟨po,sy,pn,F,lB,G,hss,hcall⟩:=HT.o k d hka;have HC:=di (fun W (h:Below wr.heap.size wr W)=>hcall W (HST.o.z.dG.trans (h.mono HST.o.z.dG.size)));have hg2:=ai V;obtain⟨l,hsa⟩:=aJ (Doc.dF c d);rw[hsa]at HC hss;have AJ:=di hss;have HKZ:=di hkz;clear hcall hka hkz hss hsa hkl hkt g;have aho:=EJ (.int .i64 (po:Int)) (.int .i64 (sy:Int)) (.int .i64 (pn:Int)) (.slice F lB G) (.int .i64 (l:Int));go_upto_region 7 with fail
    go_cut [48] (fun bg wx=>bg=.bool ((l:Int) !=(B:Int))/\Mj w o wx (.slice (some ⟨g2,0,none⟩) L r) f)
    case first=>
     go_region_with (go_at_call 174;refine(HC.o _ ah0).mono ?_;rintro E w2 ⟨rfl,hb3⟩;have q1:=(hb3.cell (p:=⟨o.heap.size,1,none⟩) slt).trans st1;have q2:=(hb3.cell (p:=⟨g2,k,none⟩) hg2).trans V)
     all_goals
      have HE:Hid (Mj w o w2 (.slice (some ⟨g2,0,none⟩) L r) f):=HST.o.below (af.drew.trans hb3);exact amv
    case rest=>
     obtain⟨rfl,X⟩:=hcut;have jN:=di X
     by_cases hzs:l=B
     ·subst hzs;have tz:((l:Int) !=(l:Int))=false:=aP;clear X o1 st1 slt d1 V;go_wp2_with fail;go_roundw
      case rel=>exact⟨k+1,bJ,aO,(fun j hj=>by
       by_cases hjk:j=k
       ·rw[hjk,AJ.o,HKZ.o]
       ·exact HS.o j aO),jN.o⟩
      case measure=>exact akL
     ·have tz:((l:Int) !=(B:Int))=true:=aQ
      have u:Hid (U=.error 7):=by
       show _=_;rw[HP2.o,if_pos];intro h;have:=AJ.o;rw[h,HKZ.o]at this;injection this with this;exact hzs this.symm
      have a:=X.z;have H:=a.c0;have I:=a.c1;have J:=a.c2;have K:=a.c3;have M:=a.c4;have cf:=a.fr;obtain⟨wz,hwz,v,x,y,z,A,i,N⟩:=jm H I J K M (.int .i64 0) (.int .i64 0) (.int .i64 0) (.slice none 0 0) (.int .i64 0);have q:=di (a.dG.trans i);clear a i N X o1 st1 slt d1 V hzs;exact alD
   ·have u:Hid (U=.ok ⟨Doc.written c (Doc.jQ e s) b,13,f,s,b⟩):=by
     show _=_;rw[HP2.o,if_neg];intro h;apply h;refine List.ext_getElem? (fun j=>?_)
     by_cases hj:j<k
     ·exact HS.o j hj
     ·rw[List.getElem?_eq_none (by rw[List.length_map,HL.o];omega),List.getElem?_eq_none (by rw[YI.o];omega)]
    have a:=g.z;have H:=a.c0;have I:=a.c1;have J:=a.c2;have K:=a.c3;have M:=a.c4;have cf:=a.fr;have ss2:=g.s;obtain⟨wz,hwz,v,x,y,z,A,i,N⟩:=jm H I J K M (.int .i64 4) (.int .i64 (s:Int)) (.int .i64 0) (.slice D L O) (.int .i64 (f:Int));have q:=di (a.dG.trans i);have HI:=di (HA.o.below q.o);clear a i N g;go_wp2_with fail;exact bodyPost_ret (v:=.tuple #[.agg #[.int .i64 4,.int .i64 (s:Int),.int .i64 0,.slice D L O,.int .i64 (f:Int)],.int .i64 0]) (by simp[results,Tryz.results245,go_sem,v,x,y,z,A]) rfl ⟨by rw[u.o];have hl:=HL.o;have hi:=HI.o;rw[<-hl]at hi ⊢;exact⟨_,_,rfl,hi,.inl rfl⟩,q.o⟩
end Go.Proofs.YtbichedkajfmiaaGreatDoor
namespace Doc
variable {l:List Nat}{n:Nat}
theorem ZJ (a n:Nat)(c:5<=a)(d:a<=19):dZ (jh (gY a) n)=gY a/\jh (gY a) n≠14:=by
 have b:a=5\/a=6\/a=7\/a=8\/a=9\/a=10\/a=11\/a=12\/a=13\/a=14\/a=15\/a=16\/a=17\/a=18\/a=19:=aO;rcases b with rfl|rfl|rfl|rfl|rfl|rfl|rfl|rfl|rfl|rfl|rfl|rfl|rfl|rfl|rfl
 all_goals
  first
  | (simp[jh,gY,dZ];done)
  | (by_cases h:n=1<;>simp[jh,gY,dZ,h])
theorem Pe (h:fo n l≠0)(a:n=14\/n=15\/n=19):l.length=2:=by
 have:fH l 2 2 2=true:=by
  rcases a with rfl|rfl|rfl
  ·simp only[fo]at h;simpa[iA] using h
  ·simp only[fo]at h;simpa[iA] using h
  ·simp only[fo]at h;simpa[iA] using h
 simp[fH]at this;exact aO
theorem Pf (a:Nat):fo a []=0:=by
 unfold fo
 repeat' split
 all_goals simp[iA,fH]
end Doc
namespace Go.Proofs.YtbichedkajfmiaaGreatDoor
open Go.RowKit
variable {U W u w:World}{a d:Option Addr}{h:Ending}{i k m n:Nat}{l:List Nat}{o:Own}{v:Value}
theorem Ev (e:dY u (.slice d n m) l)(f:d=a\/∃g,d=some ⟨g,0,none⟩/\W.heap.size<=g)(i:∀g,a=some ⟨g,0,none⟩->g<w.heap.size)(p:w.heap.size<W.heap.size)(j:∀c,c≠w.heap.size->U.heap[c]?=u.heap[c]?)(k:0<l.length):dY U (.slice d n m) l:=by
 obtain⟨g,o,_⟩:=eY e 0 l[0] (aD k);subst o;refine e.of_block (j g ?_);rcases f with h|⟨q,b,h⟩
 ·have:=i g h.symm;exact aO
 ·injection b with b;injection b with b;exact aO
theorem Cz.at(c:Cz w n l h):∃a b,h=.returned (.slice a l.length b)/\dY w (.slice a l.length b) l:=by
 obtain⟨a,b,rfl,_,_,d⟩:=c;exact⟨a,b,rfl,(yD (own:=fun _=>0) d (fun _ _=>rfl)).ints⟩
def aeT (ss:List Doc.Sym)(ts:List Doc.Term)(op s:Nat)(args:List Nat):Except Nat Doc.Term:=if op=0 then lC ss ts s args else Doc.iO Except.ok ts op args
theorem aaf {ss:List Doc.Sym}{ts:List Doc.Term}{s:Nat}{args:List Nat}{t:Doc.Term}(h:lC ss ts s args=.ok t):0<t.args.length:=by
 unfold lC at h;split at h
 ·cases h
 ·split at h
  ·cases h
  ·injection h with h;subst h;show 0<args.length;exact aO
theorem Lb (l n:Nat)(c:List Doc.Sym)(d:List Doc.Term)(s:Nat)(G:Int)(a:List Nat)(A:Option Addr)(p:Nat)(w:World)(H:w.cell? ⟨l,0,none⟩=some (.pointer (some ⟨n,0,none⟩)))(I:qX w n c d)(o:dY w (.slice A a.length p) a)(U:s<c.length)(V:G=s)(J:∀W∈a,W<d.length) :
 Calls Tryz.prog 224 #[.pointer (some ⟨l,0,none⟩),.int .i64 0,.int .i64 G,.slice A a.length p] w fun q K=>vK w K A (lC c d s a) q/\Below w.heap.size w K:=by
 subst V;have X:=ai H;have f:=di (yh.start w);have Y:=di (CK l n c d s a A p _ ((f.o.dG.cell (p:=⟨l,0,none⟩) X).trans H) (I.below f.o.dG) (o.below f.o.dG) U J)
 have Z:Hid (0<a.length->∀g,A=some ⟨g,0,none⟩->g<w.heap.size):=fun h g hg=>by
  obtain⟨g',e,hc⟩:=eY o 0 a[0] (aD h);rw[hg]at e;injection e with e
  injection e with e;subst e;exact ai hc
 have r:Hid (∀t,lC c d s a=.ok t->0<a.length):=fun t h=>by
  unfold lC at h;split at h
  ·cases h
  ·exact aO
 have u:=di (fun t=>aaf (ss:=c) (ts:=d) (s:=s) (args:=a) (t:=t));generalize lC c d s a=bg at *;clear I o J;go_enter Tryz.func224,Tryz.ntmps224;go_wp2_with fail;refine Y.o.mono ?_;rintro q w1 ⟨i,L⟩;have b:=f.o.below L;have M:=b.c0;have N:=b.c1;have O:=b.c2;have P:=b.c3;have Q:=b.c4;have cf:=b.fr;have R:=di b;have hs1:=f.o.lt;clear L b;cases hR:bg with
 | error S=>
  rw[hR]at i;have hres':q=.returned (.tuple #[jH,.int .i64 (S:Nat)]):=i;subst hres';obtain⟨wz,hwz,v,x,y,z,B,j,m⟩:=jm M N O P Q (.int .i64 0) (.int .i64 0) (.int .i64 0) (.slice none 0 0) (.int .i64 0);have C:=di (R.o.dG.trans j);unfold jH;have D:=di hR;clear j m i hR u r;go_wp2_with fail;exact bodyPost_ret (v:=.tuple #[jH,.int .i64 (S:Nat)]) (by simp[results,Tryz.results224,go_sem,jH,v,x,y,z,B]) rfl ⟨by rw[D.o];rfl,C.o⟩
 | ok t=>
  rw[hR]at i;obtain⟨k,E,he,T,F⟩:=i;subst he;obtain⟨wz,hwz,v,x,y,z,B,j,m⟩:=jm M N O P Q (.int .i64 (Doc.dZ t.op:Nat)) (.int .i64 t.sym) (.int .i64 (Doc.fq t:Nat)) (.slice k t.args.length E) (.int .i64 t.sort);have C:=di (R.o.dG.trans j);have HI:=di (Ev T F (Z.o (r.o t hR)) hs1 m (u.o t hR))
  have HA:Hid (k=A\/∃g,k=some ⟨g,0,none⟩/\w.heap.size<=g):=by
   rcases F with h|⟨g,h1,h2⟩
   ·exact .inl h
   ·exact .inr ⟨g,h1,aO⟩
  have D:=di hR;clear j m hR u r T F;go_wp2_with fail;exact bodyPost_ret (v:=.tuple #[.agg #[.int .i64 (Doc.dZ t.op:Nat),.int .i64 t.sym,.int .i64 (Doc.fq t:Nat),.slice k t.args.length E,.int .i64 t.sort],.int .i64 0]) (by simp[results,Tryz.results224,go_sem,v,x,y,z,B]) rfl ⟨by rw[D.o];exact⟨k,E,rfl,HI.o,HA.o⟩,C.o⟩
theorem IU (S Y:Nat)(Z:List Doc.Sym)(d:List Doc.Term)(a:Nat)(sv:Int)(b:List Nat)(A:Option Addr)(D:Nat)(w:World)(ho:w.cell? ⟨S,0,none⟩=some (.pointer (some ⟨Y,0,none⟩)))(hb:qX w Y Z d)(hwf:Doc.gP Z d)(ha:dY w (.slice A b.length D) b)(h5:5<=a)(h19:a<=19)(hlt:∀e∈b,e<d.length)(hlen:b.length<=1000) :
 Calls Tryz.prog 224 #[.pointer (some ⟨S,0,none⟩),.int .i64 a,.int .i64 sv,.slice A b.length D] w fun I w'=>vK w w' A (Doc.iO Except.ok d a b) I/\Below w.heap.size w w':=by
 have hol:=ai ho;have T:=di (yh.start w);have hs0:=T.o.lt;have HA:=di ha;have HO:=di (fun bn (h:Below w.heap.size w bn)=>(h.cell (p:=⟨S,0,none⟩) hol).trans ho);have kv:=di (Mv S Y Z d b A D _ (HO.o _ T.o.dG) (hb.below T.o.dG) (ha.below T.o.dG) hlt aO);have Fy:=di (fun bn (h:Below w.heap.size w bn)=>hb.below h);have Ia:=di hwf;have rC:=di hlt
 have Y4:Hid (0<b.length->∀E,A=some ⟨E,0,none⟩->E<w.heap.size):=fun h E hg=>by
  obtain⟨g',L,hc⟩:=eY ha 0 b[0] (aD h);rw[hg]at L;injection L with L
  injection L with L;subst L;exact ai hc
 have M:Hid (Doc.iO Except.ok d a b=if Doc.fo a (b.map (Doc.dF d))=0 then .error 7 else if a=19 then(if Doc.number d (b.getD 0 0)=true then .ok ⟨Doc.written d [42] b,18,2,0,b⟩ else if Doc.number d (b.getD 1 0)=true then .ok ⟨Doc.written d [42] (Doc.swap b),18,2,0,Doc.swap b⟩ else .error 8) else .ok ⟨Doc.written d (Doc.gM (Doc.jh (Doc.gY a) b.length)) (Doc.jD a b),Doc.jh (Doc.gY a) b.length,Doc.fo a (b.map (Doc.dF d)),0,Doc.jD a b⟩):=rfl
 have LP:Hid (Doc.fo a (b.map (Doc.dF d))≠0->0<b.length):=fun h=>by
  rcases Nat.eq_zero_or_pos b.length with g|g
  ·rw[List.eq_nil_of_length_eq_zero g]at h;exact absurd (Doc.Pf a) h
  ·exact g
 have uB:Hid (Doc.fo a (b.map (Doc.dF d))≠0->a=14\/a=15\/a=19->∃e i,b=[e,i]):=fun h ho=>by
  have:=Doc.Pe h ho;rw[List.length_map]at this
  match b,this with
  | [e,i],_=>exact⟨e,i,rfl⟩
 have Ib:=di (Doc.ZJ a b.length h5 h19);generalize Doc.iO Except.ok d a b=bg at *;have agV:((a:Int)==0)=false:=aj aO;obtain⟨Gz,hsrt⟩:=aJ (b.map (Doc.dF d));rw[hsrt]at kv M LP uB;obtain⟨j,hso⟩:=aJ (Doc.fo a Gz);rw[hso]at M LP uB;have BR:=di hso;clear hb ha hlt hwf hso hsrt;go_enter Tryz.func224,Tryz.ntmps224;go_wp2_with fail;refine kv.o.mono ?_;rintro I w1 ⟨hnew,hb1⟩;obtain⟨aS,cS,rfl,hsI⟩:=hnew.at;have hz1:=T.o.below hb1;have HZ1:=di hz1;have jB:=di (Dz a Gz aS cS w1 hsI h5 h19);rw[BR.o]at jB;clear hnew hb1 hz1 hsI;go_wp2_with fail;refine jB.o.mono ?_;rintro I F ⟨rfl,hb2⟩;have z:=HZ1.o.below hb2;have l:=z.c0;have m:=z.c1;have n:=z.c2;have o:=z.c3;have p:=z.c4;have N:=z.fr;have B:=di z;have hs2:=z.lt;clear hb2 z
 by_cases g:j=0
 ·have C:Hid (bg=.error 7):=by show _=_;rw[M.o,if_pos g]
  have t0:((j:Int)==0)=true:=by rw[g];rfl
  obtain⟨U,V,r,s,u,v,x,f,k⟩:=jm l m n o p (.int .i64 0) (.int .i64 0) (.int .i64 0) (.slice none 0 0) (.int .i64 0);have q:=di (B.o.dG.trans f);clear f k g;go_wp2_with fail;exact bodyPost_ret (v:=.tuple #[jH,.int .i64 7]) akm rfl ⟨by rw[C.o];rfl,q.o⟩
 ·have t0:((j:Int)==0)=false:=aj aO;have hpos:=LP.o g;have afP:=di (Y4.o hpos)
  by_cases J:a=19
  ·obtain⟨e,i,hab⟩:=uB.o g (.inr (.inr J));subst hab;have C:Hid (bg=zw d e i):=by show _=_;rw[M.o,if_neg g,if_pos J];rfl
   have hla:=rC.o e aP;have hlb:=rC.o i aP;have mi:=di (MG S Y Z d e i A D F (HO.o _ B.o.dG) (Fy.o _ B.o.dG) Ia.o (HA.o.below B.o.dG) hla hlb)
   have O:Hid (∀t,zw d e i=.ok t->0<t.args.length):=fun t h=>by
    unfold zw at h;split at h
    ·injection h with h;subst h;show 0<2;exact aO
    ·split at h
     ·injection h with h;subst h;show 0<2;exact aO
     ·cases h
   subst J;clear g hpos Y4;go_wp2_with fail;refine mi.o.mono ?_;rintro I w3 ⟨W,G⟩;have c:=B.o.below G;clear l m n o p N;have l:=c.c0;have m:=c.c1;have n:=c.c2;have o:=c.c3;have p:=c.c4;have N:=c.fr;have HZ3:=di c;clear G c;cases KO:zw d e i with
   | error er=>
    rw[KO]at W;have hres':I=.returned (.tuple #[jH,.int .i64 (er:Nat)]):=W;subst hres';obtain⟨U,V,r,s,u,v,x,f,k⟩:=jm l m n o p (.int .i64 0) (.int .i64 0) (.int .i64 0) (.slice none 0 0) (.int .i64 0);have q:=di (HZ3.o.dG.trans f);unfold jH;have Oc:=di KO;clear f k W KO;go_wp2_with fail;exact bodyPost_ret (v:=.tuple #[jH,.int .i64 (er:Nat)]) akm rfl ⟨by rw[C.o,Oc.o];rfl,q.o⟩
   | ok t=>
    rw[KO]at W;obtain⟨X,y,he,H,hA⟩:=W;subst he;obtain⟨U,V,r,s,u,v,x,f,k⟩:=jm l m n o p (.int .i64 (Doc.dZ t.op:Nat)) (.int .i64 t.sym) (.int .i64 (Doc.fq t:Nat)) (.slice X t.args.length y) (.int .i64 t.sort);have q:=di (HZ3.o.dG.trans f);have K:=di (Ev H hA afP.o hs2 k (O.o t KO))
    have HAA:Hid (X=A\/∃E,X=some ⟨E,0,none⟩/\w.heap.size<=E):=by
     rcases hA with h|⟨E,h1,h2⟩
     ·exact .inl h
     ·exact .inr ⟨E,h1,aO⟩
    have Oc:=di KO;clear f k KO H hA;go_wp2_with fail;exact bodyPost_ret (v:=.tuple #[.agg #[.int .i64 (Doc.dZ t.op:Nat),.int .i64 t.sym,.int .i64 (Doc.fq t:Nat),.slice X t.args.length y,.int .i64 t.sort],.int .i64 0]) ain rfl ⟨by rw[C.o,Oc.o];exact⟨X,y,rfl,K.o,HAA.o⟩,q.o⟩
  ·have t19:((a:Int)==19)=false:=aj aO
   by_cases P:a=14\/a=15
   ·obtain⟨e,i,hab⟩:=uB.o g aO;subst hab
    have C:Hid (bg=.ok ⟨Doc.written d (Doc.gM (Doc.jh (Doc.gY a) 2)) [i,e],Doc.jh (Doc.gY a) 2,j,0,[i,e]⟩):=by
     show _=_;rw[M.o,if_neg g,if_neg J];simp only[Doc.jD,if_pos P,List.length_cons,List.length_nil];rfl
    have mi:=di (Az e i A D F (HA.o.below B.o.dG));obtain⟨Q,R⟩:=Ib.o;simp only[List.length_cons,List.length_nil]at Q R;have HT:Hid (Doc.fq (⟨Doc.written d (Doc.gM (Doc.jh (Doc.gY a) 2)) [i,e],Doc.jh (Doc.gY a) 2,j,0,[i,e]⟩:Doc.Term)=0):=by show _=_;simp[Doc.fq,R]
    have O:=di Q;simp only[List.length_cons,List.length_nil];clear g hpos Y4 J Q R;rcases P with rfl|rfl
    ·go_wp2_with fail;refine mi.o.mono ?_;rintro I w3 ⟨⟨y,rfl,H⟩,G⟩;have c:=B.o.below G;clear l m n o p N;have l:=c.c0;have m:=c.c1;have n:=c.c2;have o:=c.c3;have p:=c.c4;have N:=c.fr;obtain⟨U,V,r,s,u,v,x,f,k⟩:=jm l m n o p (.int .i64 12) (.int .i64 0) (.int .i64 0) (.slice (some ⟨F.heap.size,0,none⟩) 2 y) (.int .i64 (j:Int));have q:=di (c.dG.trans f);have K:=di (H.of_block (k _ aO));clear f k H G c;go_wp2_with fail;exact bodyPost_ret (v:=.tuple #[.agg #[.int .i64 12,.int .i64 0,.int .i64 0,.slice (some ⟨F.heap.size,0,none⟩) 2 y,.int .i64 (j:Int)],.int .i64 0]) ain rfl ⟨by rw[C.o];refine⟨some ⟨F.heap.size,0,none⟩,y,?_,K.o,.inr ⟨_,rfl,aO⟩⟩;rw[HT.o,O.o];rfl,q.o⟩
    ·go_wp2_with fail;refine mi.o.mono ?_;rintro I w3 ⟨⟨y,rfl,H⟩,G⟩;have c:=B.o.below G;clear l m n o p N;have l:=c.c0;have m:=c.c1;have n:=c.c2;have o:=c.c3;have p:=c.c4;have N:=c.fr;obtain⟨U,V,r,s,u,v,x,f,k⟩:=jm l m n o p (.int .i64 13) (.int .i64 0) (.int .i64 0) (.slice (some ⟨F.heap.size,0,none⟩) 2 y) (.int .i64 (j:Int));have q:=di (c.dG.trans f);have K:=di (H.of_block (k _ aO));clear f k H G c;go_wp2_with fail;exact bodyPost_ret (v:=.tuple #[.agg #[.int .i64 13,.int .i64 0,.int .i64 0,.slice (some ⟨F.heap.size,0,none⟩) 2 y,.int .i64 (j:Int)],.int .i64 0]) ain rfl ⟨by rw[C.o];refine⟨some ⟨F.heap.size,0,none⟩,y,?_,K.o,.inr ⟨_,rfl,aO⟩⟩;rw[HT.o,O.o];rfl,q.o⟩
   ·have YJ:Hid (Doc.gY a=a):=by show _=_;unfold Doc.gY;rw[if_neg (fun h=>P (.inl h)),if_neg (fun h=>P (.inr h))]
    have C:Hid (bg=.ok ⟨Doc.written d (Doc.gM (Doc.jh (Doc.gY a) b.length)) b,Doc.jh (Doc.gY a) b.length,j,0,b⟩):=by
     show _=_;rw[M.o,if_neg g,if_neg J];simp only[Doc.jD,if_neg P]
    obtain⟨Q,R⟩:=Ib.o;have HT:Hid (Doc.fq (⟨Doc.written d (Doc.gM (Doc.jh (Doc.gY a) b.length)) b,Doc.jh (Doc.gY a) b.length,j,0,b⟩:Doc.Term)=0):=by show _=_;simp[Doc.fq,R]
    have O:=di Q;have t14:((a:Int)==14)=false:=aj aO;have t15:((a:Int)==15)=false:=aj aO;obtain⟨U,V,r,s,u,v,x,f,k⟩:=jm l m n o p (.int .i64 (a:Int)) (.int .i64 0) (.int .i64 0) (.slice A b.length D) (.int .i64 (j:Int));have q:=di (B.o.dG.trans f);have K:=di (HA.o.below q.o);clear f k g hpos Y4 J Q R P;go_wp2_with fail;exact bodyPost_ret (v:=.tuple #[.agg #[.int .i64 (a:Int),.int .i64 0,.int .i64 0,.slice A b.length D,.int .i64 (j:Int)],.int .i64 0]) ain rfl ⟨by rw[C.o];refine⟨A,D,?_,K.o,.inl rfl⟩;rw[HT.o,O.o,YJ.o];rfl,q.o⟩
theorem Fr.boxed {own:Own}{B c:Nat}(e:dH own w)(a:Below w.heap.size w W)(f:w.heap.size<=B)(g:B<W.heap.size):Fr own (dw own B c) n w W:=
 ⟨a.os,a.tape,a.output,a.size,fun b d _=>a.block b d,fun b d=>by unfold dw;rw[if_neg aO],fun b d=>by unfold dw;rw[if_neg aO];exact e b (by have:=a.size;omega)⟩
theorem Fr.unbox {own:Own}{B:Nat}(h:Fr own o n w W)(c:w.heap.size<=B):Fr own (dw o B 0) n w W:=
 ⟨h.os,h.tape,h.output,h.size,h.block,fun b a=>by unfold dw;rw[if_neg aO];exact h.ext b a,fun b a=>by unfold dw;split;rfl;exact h.fresh b a⟩
theorem dA.boxed {own:Own}{B c:Nat}{S:Doc.dB}(h:dA w own n m S)(a:Below w.heap.size w W)(e:w.heap.size<=B):dA W (dw own B c) n m S:=
 h.step (fun b d _=>⟨a.block b d,by unfold dw;rw[if_neg aO]⟩)
theorem dA.unbox {own:Own}{B:Nat}{S:Doc.dB}(h:dA w own n m S)(b:own B≠0)(c:own B≠n):dA w (dw own B 0) n m S:=
 h.step (fun d _ a=>⟨rfl,by unfold dw;rw[if_neg (by intro e;rw[e]at a;rcases a with h|h;exact b h;exact c h)]⟩)
theorem dA.tq {own:Own}{S:Doc.dB}(h:dA w own n m S)(b:own k≠0)(c:own k≠n):dA (w.setCell ⟨k,i,none⟩ v) own n m S:=
 h.step (fun d _ a=>⟨aC (by show d≠k;intro e;rw[e]at a;rcases a with h|h;exact b h;exact c h),rfl⟩)
def iT (w w':World)(own:Own)(k sb:Nat)(S:Doc.dB)(R:Except (Nat × Nat) (List Doc.Term × Nat))(e:Ending):Prop:=
 ∃own',Fr own own' k w w'/\match R with
  | .ok r=>e=.returned (.tuple #[.int .i64 (r.2:Nat),.agg #[.int .i64 0,.int .i64 0]])/\dA w' own' k sb { S with terms:=r.1 }
  | .error x=>e=.returned (.tuple #[.int .i64 0,.agg #[.int .i64 (x.1:Nat),.int .i64 (x.2:Nat)]])/\x.1≠0/\∃ex,dA w' own' k sb { S with terms:=S.terms++ex }
theorem iT.lift {own:Own}{S:Doc.dB}{R:Except (Nat × Nat) (List Doc.Term × Nat)}(a:dH own w)(b:Below w.heap.size w W)(c:iT W u own n m S R h):iT w u own n m S R h:=by
 exact alI
theorem vW {ts:List Doc.Term}{t:Doc.Term}{e:Nat}(h:Doc.note ts t=.error e):e=9:=by
 unfold Doc.note at h;split at h
 ·cases h
 ·split at h
  ·injection h with h;exact h.symm
  ·cases h
structure eB (w wx:World)(B:Nat):Prop where
 c0:wx.cell? ⟨B,0,none⟩=some (.int .i64 0)
 c1:wx.cell? ⟨B,1,none⟩=some (.int .i64 0)
 fr:∀j,wx.frozen? ⟨B,j,none⟩=false
theorem eB.fr' {own:Own}(h:eB w W n)(a:Fr own o m W u)(b:own n≠m):eB w u n:=
 ⟨a.cell h.c0 b,a.cell h.c1 b,fun j=>(World.frozen?_of_block (w:=W) (a:=⟨n,j,none⟩) (a.block n (ai h.c0) b)).trans (h.fr j)⟩
theorem dL {u0 u1:Value}(b:w.cell? ⟨n,0,none⟩=some u0)(o:w.cell? ⟨n,1,none⟩=some u1)(h i:Value) :
 ∃a,(w.setCell ⟨n,0,none⟩ h).setCell ⟨n,1,none⟩ i=a/\a.cell? ⟨n,0,none⟩=some h/\a.cell? ⟨n,1,none⟩=some i/\
  (∀(own d:Own) (k:Nat) (c:World),Fr own d k c w->c.heap.size<=n->Fr own d k c a)/\(∀(own:Own) (k e:Nat) (S:Doc.dB),dA w own k e S->own n≠0->own n≠k->dA a own k e S):=by
 have j:∀(f g:Nat),f≠g->(⟨n,f,none⟩:Addr)≠⟨n,g,none⟩:=fun f g p q=>p (by injection q);refine⟨_,rfl,?_,?_,fun own d k c r l=>(r.setCell (p:=⟨n,0,none⟩) l _).setCell (p:=⟨n,1,none⟩) l _,fun own k e S s b m=>(s.tq b m).tq b m⟩
 ·rw[ak (j 1 0 aO)];exact World.cell?_setCell_same _ _ _ b
 ·exact World.cell?_setCell_same _ _ _ ((ak (j 0 1 aO)).trans o)
theorem Ki (z a k q:Nat)(own:Own)(S:Doc.dB)(t:Doc.Term)(A:Option Addr)(p:Nat)(w:World)(J:w.cell? ⟨z,0,none⟩=some (.pointer (some ⟨a,0,none⟩)))(K:dA w own k a S)(L:dH own w)(hk:k≠0)(M:Doc.gP S.syms S.terms)(N:Doc.pz S.syms S.terms S.terms.length t)(O:dY w (.slice A t.args.length p) t.args)(hlen:t.args.length<=1000) :
 Calls Tryz.prog 225 #[.pointer (some ⟨z,0,none⟩),.agg #[.int .i64 (Doc.dZ t.op:Nat),.int .i64 t.sym,.int .i64 (Doc.fq t:Nat),.slice A t.args.length p,.int .i64 t.sort],.int .i64 q] w fun f g=>iT w g own k a S (Doc.ig q (Doc.note S.terms t)) f:=by
 have hol:=ai J;obtain⟨b,l⟩:∃b,(w.alloc (.cells #[.int .i64 (Doc.dZ t.op:Nat),.int .i64 t.sym,.int .i64 (Doc.fq t:Nat),.slice A t.args.length p,.int .i64 t.sort] 238)).alloc (.cells #[.int .i64 0,.int .i64 0] 64)=b:=⟨_,rfl⟩;have h:Below w.heap.size w b:=by rw[<-l];exact ag.alloc aP _
 have hsz:b.heap.size=w.heap.size+1+1:=by rw[<-l];simp
 have y:∀m v B,((w.alloc (.cells #[.int .i64 (Doc.dZ t.op:Nat),.int .i64 t.sym,.int .i64 (Doc.fq t:Nat),.slice A t.args.length p,.int .i64 t.sort] 238)).alloc (.cells #[.int .i64 0,.int .i64 0] 64)).cell? ⟨m,v,none⟩=some B->b.cell? ⟨m,v,none⟩=some B:=fun m v B bg=>by rw[<-l];exact bg
 have b0:=y w.heap.size 0 (.int .i64 (Doc.dZ t.op:Nat)) aP;have b1:=y w.heap.size 1 (.int .i64 t.sym) aP;have b2:=y w.heap.size 2 (.int .i64 (Doc.fq t:Nat)) aP;have b3:=y w.heap.size 3 (.slice A t.args.length p) aP;have b4:=y w.heap.size 4 (.int .i64 t.sort) aP;have P:eB w b (w.heap.size+1):=⟨y (w.heap.size+1) 0 _ aP,y (w.heap.size+1) 1 _ aP,fun v=>by rw[<-l];simp⟩;have HB1:=di h;have Q:Hid (Fr own (dw own (w.heap.size+1) (k+1)) k w b):=Fr.boxed L h aO aO;have R:dA b (dw own (w.heap.size+1) (k+1)) k a S:=K.boxed h (B:=w.heap.size+1) (c:=k+1) aO
 have HJ:Hid (∀W,Below b.heap.size b W->Calls Tryz.prog 250 #[.pointer (some ⟨a,0,none⟩),.agg #[.int .i64 (Doc.dZ t.op:Nat),.int .i64 t.sym,.int .i64 (Doc.fq t:Nat),.slice A t.args.length p,.int .i64 t.sort]] W fun f g=>∃n:Int,f=.returned (.int .i64 n)/\eB w g (w.heap.size+1)/\BK b g (dw own (w.heap.size+1) (k+1)) k a S (Doc.note S.terms t) (.returned (.int .i64 n))):=fun W x=>by
  have T:=Q.o.dJ;refine(Xp a k (dw own (w.heap.size+1) (k+1)) S t A p W (R.below x) (fun m hb=>T m (Nat.le_trans x.size hb)) hk M N (O.below (h.trans (x.mono aO))) hlen).mono ?_;rintro f g ⟨i,h1,j⟩;have C:=(Fr.of_below k T x).trans h1;have d:eB w g (w.heap.size+1):=P.fr' C (by unfold dw;rw[if_pos rfl];omega);cases hR:Doc.note S.terms t with
  | ok r=>
   rw[hR]at j;exact⟨r.2,j.1,d,i,C,rfl,j.2⟩
  | error U=>
   rw[hR]at j;exact⟨-1,j.1,d,i,C,rfl,j.2⟩
 have kZ:=di (fun f=>vW (ts:=S.terms) (t:=t) (e:=f));generalize Doc.note S.terms t=V at *;have o1:=(h.cell (p:=⟨z,0,none⟩) hol).trans J;generalize Doc.dZ t.op=po at *;generalize Doc.fq t=pn at *;clear h K R L M N O y P;go_enter Tryz.func225,Tryz.ntmps225;go_upto_region 1 with fail
 clear l;go_cut [8] (fun bn X=>∃n:Int,bn=.int .i64 n/\eB w X (w.heap.size+1)/\BK b X (dw own (w.heap.size+1) (k+1)) k a S V (.returned (.int .i64 n)))
 case first=>
  go_region_with (go_at_call 250;refine(HJ.o _ ah0).mono ?_;rintro f w2 ⟨n,rfl,d,Y⟩)
  all_goals
   have HE1:=di d;have HE2:=di Y;clear d Y;go_wp2_with fail;go_meet
   case rel=>exact⟨n,rfl,HE1.o,HE2.o⟩
 case rest=>
  obtain⟨n,rfl,d,i,D,Z⟩:=hcut;have c0:=d.c0;have c1:=d.c1;have cf:=d.fr;have HF:=di (Q.o.trans D);have e:Hid (i (w.heap.size+1)=k+1):=by show _=_;rw[D.ext (w.heap.size+1) aO];unfold dw;rw[if_pos rfl]
  clear b0 b1 b2 b3 b4 o1 D d;cases V with
  | ok r=>
   obtain⟨c,o⟩:=Z;injection c with c
   injection c with _ c;subst c;obtain⟨E,hwz,F,G,s,u⟩:=dL c0 c1 (.int .i64 0) (.int .i64 0)
   have H:Hid (iT w E own k a S (.ok r) (.returned (.tuple #[.int .i64 (r.2:Nat),.agg #[.int .i64 0,.int .i64 0]]))):=by
    have I:=u i k a _ o aiE aiE;exact⟨_,(s _ _ _ _ HF.o aO).unbox (B:=w.heap.size+1) aO,rfl,I.unbox aiE aiE⟩
   clear o s u;go_wp2_with fail;exact bodyPost_ret (v:=.tuple #[.int .i64 (r.2:Nat),.agg #[.int .i64 0,.int .i64 0]]) akJ rfl H.o
  | error U=>
   obtain⟨c,o⟩:=Z;injection c with c
   injection c with _ c;subst c;have h9:=kZ.o U rfl;subst h9;obtain⟨E,hwz,F,G,s,u⟩:=dL c0 c1 (.int .i64 9) (.int .i64 (q:Int))
   have H:Hid (iT w E own k a S (.error (9,q)) (.returned (.tuple #[.int .i64 0,.agg #[.int .i64 9,.int .i64 (q:Int)]]))):=by
    have I:=u i k a _ o aiE aiE;exact⟨_,(s _ _ _ _ HF.o aO).unbox (B:=w.heap.size+1) aO,rfl,aP,[],by rw[List.append_nil];exact I.unbox aiE aiE⟩
   clear o s u;go_wp2_with fail;exact bodyPost_ret (v:=.tuple #[.int .i64 0,.agg #[.int .i64 9,.int .i64 (q:Int)]]) akJ rfl H.o
end Go.Proofs.YtbichedkajfmiaaGreatDoor
