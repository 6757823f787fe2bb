import Derived.Test.YtbichedkajfmiaaGreatDoorA
import Derived.Test.YtbichedkajfmiaaGreatDoorProg
import Derived.WalkKit
import Derived.WalkSpells
import Derived.WalkLawsBesides
namespace Go.RowKit
theorem Hid.o {p:Prop}(h:Hid p):p:=h
end Go.RowKit
namespace Go.Proofs.YtbichedkajfmiaaGreatDoor
open Go.RowKit
theorem af {B:Nat}{w:World}:Below B w w:=Below.refl B w
theorem ag {w:World}{o:Obj}:Below w.heap.size w (w.alloc o):=(Below.refl _ _).alloc (Nat.le_refl _) _
theorem ai {w:World}{a:Addr}{v:Value}(h:w.cell? a=some v):a.block<w.heap.size:=World.block_lt_of_cell? w a h
theorem ak {w:World}{a b:Addr}{v:Value}(h:a≠b):(w.setCell a v).cell? b=w.cell? b:=World.cell?_setCell_other _ _ _ _ h
theorem aC {w:World}{a:Addr}{v:Value}{b:Nat}(h:b≠a.block):(w.setCell a v).heap[b]?=w.heap[b]?:=Below.heap_setCell _ _ _ _ h
theorem aY {p:Prop}(h:p:=by simp[results,Tryz.results143,go_sem,k,l,m,n,o]):p:=h
theorem bJ {p:Prop}(h:p:=by go_num):p:=h
theorem bL {p:Prop}(h:p:=by kernel_rfl):p:=h
theorem bO {p:Prop}(h:p:=by simp[results,Tryz.results95,go_sem,i,j,k]):p:=h
theorem bU {p:Prop}(h:p:=by simp[results,Tryz.results32,go_sem,t,u]):p:=h
theorem bY {p:Prop}(h:p:=by simp[results,Tryz.results235,go_sem,u,y,A,B]):p:=h
theorem cZ {p:Prop}(h:p:=by simp[results,Tryz.results235,go_sem]):p:=h
theorem ahU {p:Prop}(h:p:=by simp[results,Tryz.results81,go_sem,B,C]):p:=h
theorem ah1 {p:Prop}(h:p:=by as_aux_lemma=>kernel_rfl):p:=h
theorem ah2 {p:Prop}(h:p:=by simp[results,Tryz.results222,go_sem,n,o]):p:=h
theorem ah3 {p:Prop}(h:p:=by simp[results,Tryz.results205,go_sem,E,F]):p:=h
theorem ah4 {p:Prop}(h:p:=by simp[results,Tryz.results173,go_sem,z,A]):p:=h
theorem aia {p:Prop}(h:p:=by simp[results,Tryz.results119,go_sem,D,E]):p:=h
theorem ain {p:Prop}(h:p:=by simp[results,Tryz.results224,go_sem,r,s,u,v,x]):p:=h
theorem ais {p:Prop}(h:p:=by simp[results,Tryz.results135,go_sem,o,p,q,r]):p:=h
theorem aiw {p:Prop}(h:p:=by simp[results,Tryz.results125,go_sem,v,x]):p:=h
theorem aiI {p:Prop}(h:p:=by simp[rep,results,Tryz.results18,go_sem,G,H,I,J,K,L]):p:=h
theorem aiP {p:Prop}(h:p:=by simp[results,Tryz.results245,go_sem,jH,v,x,y,z,A]):p:=h
theorem ai0 {p:Prop}(h:p:=by simp[results,Tryz.results213,go_sem,R,S,T,U]):p:=h
theorem ai3 {p:Prop}(h:p:=by simp[results,Tryz.results89,go_sem,f,g,h,k]):p:=h
theorem ai6 {p:Prop}(h:p:=by simp[results,Tryz.results127,go_sem,u,v]):p:=h
theorem ai7 {p:Prop}(h:p:=by simp[results,Tryz.results122,go_sem,A,B]):p:=h
theorem aja {p:Prop}(h:p:=by simp[results,Tryz.results84,go_sem,C,D]):p:=h
theorem ajb {p:Prop}(h:p:=by simp[results,Tryz.results83,go_sem,C,D]):p:=h
theorem ajc {p:Prop}(h:p:=by simp[results,Tryz.results82,go_sem,B,C]):p:=h
theorem ajd {p:Prop}(h:p:=by simp[results,Tryz.results77,go_sem,j,k]):p:=h
theorem aje {p:Prop}(h:p:=by simp[rep,results,Tryz.results18,go_sem]):p:=h
theorem ajr {p:Prop}(h:p:=by simp[results,Tryz.results94,go_sem]):p:=h
theorem ajs {p:Prop}(h:p:=by simp[results,Tryz.results93,go_sem]):p:=h
theorem akm {p:Prop}(h:p:=by simp[results,Tryz.results224,go_sem,jH,r,s,u,v,x]):p:=h
theorem aks {p:Prop}(h:p:=by simp[results,Tryz.results248,go_sem,E,F,G,H,I]):p:=h
theorem akz {p:Prop}(h:p:=by simp[results,Tryz.results135,go_sem,d,f,g,h]):p:=h
theorem akJ {p:Prop}(h:p:=by simp[results,Tryz.results225,go_sem,F,G]):p:=h
theorem akK {p:Prop}(h:p:=by simp[results,Tryz.results223,go_sem,U,V]):p:=h
theorem akM {p:Prop}(h:p:=by
 have tb:(y==[124])=false:=aj R;have mQ:=di (vE y wr aO);clear R;go_wp2_with fail;refine mQ.o.mono ?_;rintro G M ⟨⟨u,lb,rfl,hu⟩,S⟩;have HU:=di hu;have I:=di ((z.o.below S).below (af.alloc ae (.cells #[.bool u.neg,.int .u8 u.kind,.int .i64 u.a,.int .i64 u.b] 168)));have c:=I.o.bx;have J5:=c.c0;have J4:=c.c1;have J3:=c.c2;have yG:=c.c3;have J2:=c.c4;have yF:=c.cf;have JZ:=c.r0;have JY:=c.r1;have JX:=c.r2;have JW:=c.r3;have JV:=c.r4;have JU:=c.rf;have C:=di c;have hs3:=S.size;clear S hu c d1;clear yO uF vY uE yN yM xu xq xn xm yL yK;cases lb
 ·obtain⟨F,L,k,l,m,n,o,f,j⟩:=dR C.o.r0 C.o.r1 C.o.r2 C.o.r3 C.o.r4 (.int .u8 (a.toNat:Int)) (.int .i64 (0:Int)) (.int .i64 (0:Int)) (.slice e b d) (.slice none 0 0);have p:=di (f _ _ C.o.dG ae);clear f j;go_wp2_with fail;exact bodyPost_ret (v:=.tuple #[.agg #[.int .u8 (a.toNat:Int),.int .i64 (0:Int),.int .i64 (0:Int),.slice e b d,.slice none 0 0],.bool false]) aY rfl ⟨gV.no a.toNat 0 0 e b d none 0 0,p.o⟩
 ·have U:=I.o.own;rw[<-H.o]at U;have HOWN:=di U;have D:Hid (w.heap.size+1<M.heap.size+1):=bW;have ku:Hid (∀q,(Value.slice e b d).ownBlock=some q->w.heap.size+2<=q):=fun q K=>ahX;have nW:=di yG;have rD:=di yF;have lF:=di (mH u);have lQ:=di (fun(Y:World) (bn:Nat) (hn:bn=Y.heap.size)=>lT Y u 168 bn hn);have rE:Hid (x.heap.size<=M.heap.size):=Nat.le_trans z.o.sz hs3;have rP:=di z.o.lo;clear U;go_wp2_with (at_builtin;refine dD rfl (.tmp 97) (.tmp 99) 161 rfl x.heap.size 168 i0 (.agg #[.bool false,.int .u8 0,.int .i64 0,.int .i64 0]) 4 24 Tryz.underlying161 hi0 hz0 hz1 hz2 rfl aR (.slice e b d) b (v.map Lit.cells).flatten rfl aid ⟨M.heap.size+1,0,none⟩ 1 u.cells rfl rfl (by exact lQ.o _ _ aP) lF.o aX aO aiz ?_;intro ga eZ s hown' T hg1 hg2;have y1:s.cell? ⟨w.heap.size+1,3,none⟩=some (.slice e b d):=((dP T (a:=⟨w.heap.size+1,3,none⟩) bK (fun G=>bT)).trans (dC _ _ _ bK)).trans nW.o;have y2:s.frozen? ⟨w.heap.size+1,3,none⟩=false:=((dS T (a:=⟨w.heap.size+1,3,none⟩) bK (fun G=>bT)).trans (dI _ _ _ bK)).trans (rD.o 3);obtain⟨X,jR⟩:∃X,s.setCell ⟨w.heap.size+1,3,none⟩ (.slice (some ⟨ga,0,none⟩) (b+1) eZ)=X:=⟨_,rfl⟩;have hap:=fE (eb:=w.heap.size+1) (f:=3) aiZ (HOWN.o.alloc _) bK ((dC _ _ _ bK).trans nW.o) hown' T hg2;rw[jR]at hap;have mh:Hid (nU w x X (.int .u8 (a.toNat:Int)) (.int .i64 (0:Int)) (.int .i64 (0:Int)) (.slice (some ⟨ga,0,none⟩) (b+1) eZ) (v++[u])):=I.o.app _ aiH;have hcp:=l7 hown';clear hap hown' T hg1 hg2);go_roundw
  case rel=>exact⟨t+1,some ⟨ga,0,none⟩,b+1,eZ,v++[u],bJ,aO,aO,aif,mh.o,fun bg hl=>bS,aO,hcp.1,hcp.2⟩
  case measure=>exact akL):p:=h
theorem akN {p:Prop}(h:p:=by
 have O:=f.le;have hc2:=f.max;rw[k]at O;have P:=di k;have Q:=di s;have R:Hid (∀W,Below w.heap.size w W->kY W h j c):=fun W S=>f.same (fun T l=>S.block T l);have U:=di (oP.zero t);clear f k s t;go_enter Tryz.func14,Tryz.ntmps14;go_wp2_with fail
 go_loopw [6] (fun q wr=>∃i:Nat,q=.int .i64 i/\i<=a/\oP w wr i) (fun q _=>a-(intOf q).toNat)
 case atStart=>exact⟨0,rfl,aO,U.o⟩
 case round=>
  obtain⟨i,rfl,hi,b⟩:=hrel;have HST:=di b
  by_cases l:i<a
  ·obtain⟨o,m⟩:∃o,c[i]?=some o:=⟨_,aD (by rw[P.o];exact l)⟩;have n:=b.round (o:=o) aO (Q.o o (List.mem_of_getElem? m));have u:=di n.part;have v:=di n.step;obtain⟨x,bg,rfl,g⟩:=(R.o wr b.below).get i o m;have V:=di g;have X:Hid (x<wr.heap.size):=ai g.kind;obtain⟨y,z,A,B,C,D⟩:=id g;obtain⟨E,oa,ob,oc,os,ot⟩:=o;simp only at y z A B C D u v;have hii:(i:Int)<(a:Int):=aO;clear b n m g;go_wp2_with fail;refine u.o.mono ?_;rintro e Y ⟨⟨F,rfl,G,H⟩,p⟩;have hA1:=V.o.same (p.block x X.o);obtain⟨Z,d1,d2,d3,d4,d5⟩:=id hA1;simp only at Z d1 d2 d3 d4 d5;have kG:=di (v.o Y p);have Ui:=di G;have Uh:=di H;clear hA1 p G H y z A B C D;go_wp2_with fail;refine kG.o.mono ?_;rintro e w2 ⟨⟨rb,rfl,I⟩,J⟩;have K:=di (J.looks aO);have Fq:=di I;clear J I;cases rb with
   | true=>
    go_wp2_with fail;refine K.o.mono ?_;rintro e w3 ⟨rfl,d⟩;have r:=di d;clear d;go_wp2_with fail;go_roundw
    case rel=>exact⟨i+1,bJ,aO,r.o⟩
    case measure=>exact akL
   | false=>
    have HV:Hid (F=16\/F=32):=by
     by_cases L:E=3
     ·exact .inl (Ui.o L)
     ·by_cases M:E=4
      ·exact .inr (Uh.o M)
      ·have:=Fq.o L M;cases this
    rcases HV.o with rfl|rfl
    all_goals
     go_wp2_with fail;refine K.o.mono ?_;rintro e w3 ⟨rfl,d⟩;have r:=di d;clear d;go_wp2_with fail;go_roundw
     case rel=>exact⟨i+1,bJ,aO,r.o⟩
     case measure=>exact akL
  ·have HF:=di b.below;clear b;go_wp2_with fail;go_ret;exact⟨rfl,HF.o⟩):p:=h
theorem akO {p:Prop}(h:p:=by
 have tb:(y==[124])=false:=aj R;have mQ:=di (vE y wr aO);clear R;go_wp2_with fail;refine mQ.o.mono ?_;rintro G M ⟨⟨u,lb,rfl,hu⟩,S⟩;have HU:=di hu;have I:=di ((z.o.below S).below (af.alloc ae (.cells #[.bool u.neg,.int .u8 u.kind,.int .i64 u.a,.int .i64 u.b] 168)));have c:=I.o.bx;have J5:=c.c0;have J4:=c.c1;have J3:=c.c2;have yG:=c.c3;have J2:=c.c4;have yF:=c.cf;have JZ:=c.r0;have JY:=c.r1;have JX:=c.r2;have JW:=c.r3;have JV:=c.r4;have JU:=c.rf;have C:=di c;have hs3:=S.size;clear S hu c d1;clear yO uF vY uE yN yM xu xq xn xm yL yK;cases lb
 ·obtain⟨F,L,k,l,m,n,o,f,j⟩:=dR C.o.r0 C.o.r1 C.o.r2 C.o.r3 C.o.r4 (.int .u8 (a.toNat:Int)) (.int .i64 (r:Nat)) (.int .i64 (0:Int)) (.slice e b d) (.slice none 0 0);have p:=di (f _ _ C.o.dG ae);clear f j;go_wp2_with fail;exact bodyPost_ret (v:=.tuple #[.agg #[.int .u8 (a.toNat:Int),.int .i64 (r:Nat),.int .i64 (0:Int),.slice e b d,.slice none 0 0],.bool false]) aY rfl ⟨gV.no a.toNat r 0 e b d none 0 0,p.o⟩
 ·have U:=I.o.own;rw[<-H.o]at U;have HOWN:=di U;have D:Hid (w.heap.size+1<M.heap.size+1):=bW;have ku:Hid (∀q,(Value.slice e b d).ownBlock=some q->w.heap.size+2<=q):=fun q K=>ahX;have nW:=di yG;have rD:=di yF;have lF:=di (mH u);have lQ:=di (fun(Y:World) (bn:Nat) (hn:bn=Y.heap.size)=>lT Y u 168 bn hn);have rE:Hid (x.heap.size<=M.heap.size):=Nat.le_trans z.o.sz hs3;have rP:=di z.o.lo;clear U;go_wp2_with (at_builtin;refine dD rfl (.tmp 97) (.tmp 99) 161 rfl x.heap.size 168 i0 (.agg #[.bool false,.int .u8 0,.int .i64 0,.int .i64 0]) 4 24 Tryz.underlying161 hi0 hz0 hz1 hz2 rfl aR (.slice e b d) b (v.map Lit.cells).flatten rfl aid ⟨M.heap.size+1,0,none⟩ 1 u.cells rfl rfl (by exact lQ.o _ _ aP) lF.o aX aO aiz ?_;intro ga eZ s hown' T hg1 hg2;have y1:s.cell? ⟨w.heap.size+1,3,none⟩=some (.slice e b d):=((dP T (a:=⟨w.heap.size+1,3,none⟩) bK (fun G=>bT)).trans (dC _ _ _ bK)).trans nW.o;have y2:s.frozen? ⟨w.heap.size+1,3,none⟩=false:=((dS T (a:=⟨w.heap.size+1,3,none⟩) bK (fun G=>bT)).trans (dI _ _ _ bK)).trans (rD.o 3);obtain⟨X,jR⟩:∃X,s.setCell ⟨w.heap.size+1,3,none⟩ (.slice (some ⟨ga,0,none⟩) (b+1) eZ)=X:=⟨_,rfl⟩;have hap:=fE (eb:=w.heap.size+1) (f:=3) aiZ (HOWN.o.alloc _) bK ((dC _ _ _ bK).trans nW.o) hown' T hg2;rw[jR]at hap;have mh:Hid (nU w x X (.int .u8 (a.toNat:Int)) (.int .i64 (r:Nat)) (.int .i64 (0:Int)) (.slice (some ⟨ga,0,none⟩) (b+1) eZ) (v++[u])):=I.o.app _ aiH;have hcp:=l7 hown';clear hap hown' T hg1 hg2);go_roundw
  case rel=>exact⟨t+1,some ⟨ga,0,none⟩,b+1,eZ,v++[u],bJ,aO,aO,aif,mh.o,fun bg hl=>bS,aO,hcp.1,hcp.2⟩
  case measure=>exact akL):p:=h
theorem akQ {p:Prop}(h:p:=by obtain⟨F,L,k,l,m,n,o,f,j⟩:=dR A.o.r0 A.o.r1 A.o.r2 A.o.r3 A.o.r4 (.int .u8 (a.toNat:Int)) (.int .i64 (0:Int)) (.int .i64 (0:Int)) (.slice none 0 0) (.slice none 0 0);have p:=di (f _ _ A.o.dG ae);clear f j;go_wp2_with fail;exact bodyPost_ret (v:=.tuple #[.agg #[.int .u8 (a.toNat:Int),.int .i64 (0:Int),.int .i64 (0:Int),.slice none 0 0,.slice none 0 0],.bool false]) aY rfl ⟨gV.no a.toNat 0 0 none 0 0 none 0 0,p.o⟩):p:=h
theorem akR {p:Prop}(h:p:=by
 go_wp2_with fail;refine HT.o.mono ?_;rintro G M ⟨⟨aT,nT,cT,Jh,rfl,hds⟩,S⟩;have HTD:=di hds;have I:=di (z.o.below S);have c:=I.o.bx;have J5:=c.c0;have J4:=c.c1;have J3:=c.c2;have yG:=c.c3;have J2:=c.c4;have yF:=c.cf;have JZ:=c.r0;have JY:=c.r1;have JX:=c.r2;have JW:=c.r3;have JV:=c.r4;have JU:=c.rf;obtain⟨s,hw4⟩:∃s,M.setCell ⟨w.heap.size+1,4,none⟩ (.slice aT nT cT)=s:=⟨_,rfl⟩;have h:=c.set 4 (.slice aT nT cT);rw[hw4]at h;simp only[if_pos,Nat.reduceEqDiff,ite_false]at h;have P:=di h;have BX:Hid (∀q,q≠w.heap.size+1->s.heap[q]?=M.heap[q]?):=fun q K=>by rw[<-hw4];exact aC K
 have nc0:=h.c0;have nc1:=h.c1;have nc2:=h.c2;have nc3:=h.c3;have nc4:=h.c4;have ncf:=h.cf;have nr0:=h.r0;have nr1:=h.r1;have nr2:=h.r2;have nr3:=h.r3;have nr4:=h.r4;have nrf:=h.rf;clear c h hds S d1;clear yO uF vY uE yN yM xu xq xn xm yL yK;obtain⟨F,L,k,l,m,n,o,f,j⟩:=dR P.o.r0 P.o.r1 P.o.r2 P.o.r3 P.o.r4 (.int .u8 (a.toNat:Int)) (.int .i64 (0:Int)) (.int .i64 (0:Int)) (.slice e b d) (.slice aT nT cT);have p:=di (f _ _ P.o.dG ae)
 have sK:Hid (gV F bA.length (.returned (.tuple #[.agg #[.int .u8 (a.toNat:Int),.int .i64 (0:Int),.int .i64 (0:Int),.slice e b d,.slice aT nT cT],.bool Jh]))):=⟨a.toNat,0,0,e,b,d,aT,nT,cT,Jh,rfl,fun E=>⟨a.toNat_lt,bV,bV,⟨v,H.o.symm,nK I.o.own (fun q K=>(j q aic).trans (BX.o q aic)),oK.o,ail⟩,fun _=>by
  obtain⟨ds,B,W,h3,h4,h5⟩:=HTD.o E;have hlo:=z.o.bx.lt;refine⟨ds,B,?_,h3,?_,?_⟩
  ·have h6:yV s wr.heap.size (.slice aT nT cT) ds:=by rw[<-hw4];exact W.set cK _
   have h7:yV F wr.heap.size (.slice aT nT cT) ds:=by rw[<-L];exact((((h6.set aW _).set aW _).set aW _).set aW _).set aW _
   exact h7.nodes
  ·have:=Fg.o;have:=HWC.o;omega
  ·have:=HND.o;have:=rA.o;omega⟩⟩
 clear f j;go_wp2_with fail;exact bodyPost_ret (v:=.tuple #[.agg #[.int .u8 (a.toNat:Int),.int .i64 (0:Int),.int .i64 (0:Int),.slice e b d,.slice aT nT cT],.bool Jh]) aY rfl ⟨sK.o,p.o⟩):p:=h
theorem akS {p:Prop}(h:p:=by obtain⟨E,F⟩:=bA;obtain⟨rfl,o⟩:=T;have D:=di o;have n:Hid (ib S R=(E,F,false,S)):=air;clear B o;have a:=v.o.of_block U.o;have e:=a.c0;have f:=a.c1;have g:=a.c2;have G:=a.fr;obtain⟨H,h,i,j,k,_,_⟩:=iI e f g (.int .i64 (E:Int)) (.int .i64 (F:Int)) (.bool false);have l:=di (iZ s.o ae aO C.o D.o h);clear a;go_wp2_with fail;refine bodyPost_ret (v:=.agg #[.int .i64 (E:Int),.int .i64 (F:Int),.bool false]) bO rfl ?_;obtain⟨m,c,d⟩:=l.o;rw[n.o];exact⟨m,c,rfl,d⟩):p:=h
theorem akT {p:Prop}(h:p:=by obtain⟨rfl,o⟩:=T;have D:=di o;have n:Hid (ib S R=(0,0,false,S6)):=air;clear B o;have a:=v.o.of_block U.o;have e:=a.c0;have f:=a.c1;have g:=a.c2;have G:=a.fr;obtain⟨H,h,i,j,k,_,_⟩:=iI e f g (.int .i64 (0:Int)) (.int .i64 (0:Int)) (.bool false);have l:=di (iZ s.o ae aO C.o D.o h);clear a;go_wp2_with fail;refine bodyPost_ret (v:=.agg #[.int .i64 (0:Int),.int .i64 (0:Int),.bool false]) bO rfl ?_;obtain⟨m,c,d⟩:=l.o;rw[n.o];exact⟨m,c,rfl,d⟩):p:=h
theorem akU {p:Prop}(h:p:=by obtain⟨F,L,k,l,m,n,o,f,j⟩:=dR i.o.r0 i.o.r1 i.o.r2 i.o.r3 i.o.r4 (.int .u8 (a.toNat:Int)) (.int .i64 (r:Nat)) (.int .i64 (0:Int)) (.slice e b d) (.slice none 0 0);have p:=di (f _ _ i.o.dG ae);clear f j;go_wp2_with fail;exact bodyPost_ret (v:=.tuple #[.agg #[.int .u8 (a.toNat:Int),.int .i64 (r:Nat),.int .i64 (0:Int),.slice e b d,.slice none 0 0],.bool false]) aY rfl ⟨gV.no a.toNat r 0 e b d none 0 0,p.o⟩):p:=h
theorem akV {p:Prop}(h:p:=by clear f j;go_wp2_with fail;exact bodyPost_ret (v:=.tuple #[.agg #[.int .u8 (a.toNat:Int),.int .i64 (0:Int),.int .i64 (0:Int),.slice e b d,.slice none 0 0],.bool false]) aY rfl ⟨gV.no a.toNat 0 0 e b d none 0 0,p.o⟩):p:=h
theorem akW {p:Prop}(h:p:=by go_enter Tryz.func230,Tryz.ntmps230;go_wp2_with fail;refine(q.o _).mono ?_;rintro e f ⟨rfl,rfl⟩;go_wp2_with fail;refine(p.o _ (a.o 1 1 0)).mono ?_;rintro e f ⟨rfl,rfl⟩;go_wp2_with fail;refine m.o.mono ?_;rintro e H c;obtain⟨I,J,rfl⟩:=c.two;have n:=di c;clear c;go_wp2_with fail;go_ret2;rw[l.o];exact n.o):p:=h
theorem akX {p:Prop}(h:p:=by
 simp only[hT]at v;obtain⟨⟨pp,rfl⟩,o⟩:=v;have y:=Ah.o r hT;have I:=di (F.o.after hk u o y.wf y.ext);have rC:=di y.lt;have jO:Hid (Doc.gI (Doc.term S.syms d) (a.drop (j+1)) r.1 (b++[r.2])=z):=by have i:=G.o;rw[rO.o,hT]at i;exact i
 have kH:=di I.o.row;have hal:b.length<=1000:=aO;have DI:w.heap.size<q.heap.size:=I.o.size;clear hT u o y;go_wp2_with (at_builtin;refine dD rfl (.tmp 94) (.tmp 96) 57 rfl (w.heap.size+1) 3 i0 (.int .i64 0) 1 8 Tryz.underlying57 hi hz0 hz1 hz2 rfl aR (.slice av b.length xZ) b.length (b.map (fun L:Nat=>Value.int .i64 (L:Int))) rfl ajP ⟨q.heap.size,0,none⟩ 1 [.int .i64 (r.2:Int)] rfl rfl bM bX aX aO aQ ?_;intro ga eZ w3 hown' hgrow hg1 f);have nV:=di (I.o.snoc rC.o ((Below.refl q.heap.size q).alloc ae _) hown' hgrow hg1 f);clear hown' hgrow hg1 f;go_wp2_with fail;go_roundw
 case rel=>exact⟨j+1,b++[r.2],r.1,_,bJ,aO,aO,aQ,nV.o,jO.o⟩
 case measure=>exact akL):p:=h
theorem akY {p:Prop}(h:p:=by have Bj:t=N:=aO;have tN:((t:Int)==(N:Int))=true:=bz;have htn:¬((t:Int)<(N:Int)):=aO;clear Bj;obtain⟨F,L,k,l,m,n,o,f,j⟩:=dR i.o.r0 i.o.r1 i.o.r2 i.o.r3 i.o.r4 (.int .u8 (a.toNat:Int)) (.int .i64 (0:Int)) (.int .i64 (0:Int)) (.slice e b d) (.slice none 0 0);have p:=di (f _ _ i.o.dG ae);have sK:Hid (gV F bA.length (.returned (.tuple #[.agg #[.int .u8 (a.toNat:Int),.int .i64 (0:Int),.int .i64 (0:Int),.slice e b d,.slice none 0 0],.bool true]))):=⟨a.toNat,0,0,e,b,d,none,0,0,true,rfl,fun _=>⟨a.toNat_lt,bV,bV,⟨v,H.o.symm,nK z.o.own (fun q K=>j q aic),oK.o,ail⟩,fun E=>absurd E Af.o⟩⟩;clear f j;go_wp2_with fail;exact bodyPost_ret (v:=.tuple #[.agg #[.int .u8 (a.toNat:Int),.int .i64 (0:Int),.int .i64 (0:Int),.slice e b d,.slice none 0 0],.bool true]) aY rfl ⟨sK.o,p.o⟩):p:=h
theorem akZ {p:Prop}(h:p:=by go_wp2_with fail;refine(T.o _ af).mono ?_;rintro e w2 b;obtain⟨D,i,d,rfl⟩:=b.three;have c:=b.fb J.o uN.o;have E:=c.c0;have F:=c.c1;have cf:=c.fr;obtain⟨U,V,n,o,f,g⟩:=dL E F (.int .i64 (i:Int)) (.int .i64 (d:Int));have p:=di (b.dU v.o aO aO f g);clear b c f g;go_wp2_with fail;exact bodyPost_ret (v:=.tuple #[.int .i64 (D:Int),.agg #[.int .i64 (i:Int),.int .i64 (d:Int)]]) ah2 rfl p.o):p:=h
theorem ak0 {p:Prop}(h:p:=by have F:=di (B.o D l.o);have G:Hid (a.length<=65536/\jq a<=65536):=ai2;go_wp2_with fail;refine F.o.mono ?_;rintro e x ⟨rfl,y⟩;have r:Hid (Below w.heap.size w x):=l.o.trans (y.mono l.o.size);clear y;go_wp2_with fail;refine(C.o x r.o G.o).mono ?_;rintro e H ⟨rfl,z⟩;have I:Hid (Below w.heap.size w H):=r.o.trans (z.mono r.o.size);clear z;go_wp2_with fail;go_ret;exact⟨rfl,I.o⟩):p:=h
theorem ak1 {p:Prop}(h:p:=by have a:=v.o.of_block D7.o;have e:=a.c0;have f:=a.c1;have g:=a.c2;have G:=a.fr;obtain⟨H,h,i,j,k,_,_⟩:=iI e f g (.int .i64 (4:Int)) (.int .i64 (p:Int)) (.bool false);have l:=di (iZ s.o ae aO y.o u.o h);clear a;go_wp2_with fail;refine bodyPost_ret (v:=.agg #[.int .i64 (4:Int),.int .i64 (p:Int),.bool false]) bO rfl ?_;obtain⟨m,c,d⟩:=l.o;rw[n.o];exact⟨m,c,rfl,d⟩):p:=h
theorem ak2 {p:Prop}(h:p:=by obtain⟨F,L,k,l,m,n,o,f,j⟩:=dR i.o.r0 i.o.r1 i.o.r2 i.o.r3 i.o.r4 (.int .u8 (a.toNat:Int)) (.int .i64 (r:Nat)) (.int .i64 (0:Int)) (.slice e b d) (.slice none 0 0);have p:=di (f _ _ i.o.dG ae);have sK:Hid (gV F bA.length (.returned (.tuple #[.agg #[.int .u8 (a.toNat:Int),.int .i64 (r:Nat),.int .i64 (0:Int),.slice e b d,.slice none 0 0],.bool true]))):=⟨a.toNat,r,0,e,b,d,none,0,0,true,rfl,fun _=>⟨a.toNat_lt,HA.o,bV,⟨v,H.o.symm,nK z.o.own (fun q K=>j q aic),oK.o,ail⟩,fun E=>absurd E Af.o⟩⟩;clear f j;go_wp2_with fail;exact bodyPost_ret (v:=.tuple #[.agg #[.int .u8 (a.toNat:Int),.int .i64 (r:Nat),.int .i64 (0:Int),.slice e b d,.slice none 0 0],.bool true]) aY rfl ⟨sK.o,p.o⟩):p:=h
theorem ak5 {p:Prop}(h:p:=by have AO:=di hcc;clear hcc;rintro f w6 ⟨⟨R,v6,rfl,m,M,hb6,hc6⟩,oM⟩;obtain⟨a6,cap6,hv6,_,_,_⟩:=dQ m;subst hv6;have b:=(H7.o.after oM);have D:=di (b.store (c':=k) m (by exact H7.o.hi));have f0:=b.c0;have f1:=b.c1;have ff:=b.fr;have g0:=b.r0;have g1:=b.r1;have gf:=b.rf;have LU:=di M;clear b M m;go_wp2_with fail;obtain⟨E,F,G,H⟩:=D.o.done (.string ⟨(dn.dec k).toArray⟩);exact bodyPost_ret (v:=.agg #[.slice a6 R.length cap6,.string ⟨(dn.dec k).toArray⟩]) ah3 rfl ⟨⟨R,k,⟨_,rfl,G⟩,LU.o,fun z r=>Nat.le_trans (hb6 z r) akb,Nat.le_trans hc6 akb,fun N=>absurd N Ic.o⟩,H⟩):p:=h
theorem ak6 {p:Prop}(h:p:=by have N:=di M.o;have O:=di UD.o;have P:=di (Oa.o f a _ _ K.o rC.o hna UD.o b.o);have Q:=s.o.print;have T:=s.o.op;have U:=b.o;clear U;go_wp2_with fail;refine P.o.mono ?_;rintro e V ⟨rfl,c⟩;have o:=(b.o).trans (c.mono (b.o).size);have X:=(s.o.below c).op;have Y:=di (wL.o ⟨Doc.written S.terms f.print a,f.op,y,0,a⟩ _ V (O.o.below c) o);generalize Doc.written S.terms f.print a=bg at *;clear c o Q T;unfold dO;simp only[Nat.zero_add]at X;go_wp2_with fail;refine Y.o.mono ?_;rintro e w4 d;obtain⟨pa,pb,rfl⟩:=d.two;have Z:=di d;clear d;go_wp2_with fail;go_ret2;rw[N.o];exact Z.o):p:=h
theorem ak7 {p:Prop}(h:p:=by go_enter Tryz.func20,Tryz.ntmps20;go_wp2_with fail;go_ret;exact⟨d.o,c.o⟩):p:=h
theorem ak9 {p:Prop}(h:p:=by go_enter Tryz.func39,Tryz.ntmps39;go_wp2_with fail;refine C.o.mono ?_;rintro e c ⟨rfl,f⟩;have m:=di (J.o _ f);clear f;go_wp2_with fail;go_ret;exact⟨rfl,m.o⟩):p:=h
theorem ala {p:Prop}(h:p:=by go_enter Tryz.func235,Tryz.ntmps235;go_wp2_with fail;exact bodyPost_ret (v:=.tuple #[.agg #[.int .u8 0,.slice none 0 0,.int .i64 0,.string ⟨#[]⟩],.int .i64 (i:Nat),.bool false]) cZ rfl ⟨ko.no 0 [] i none 0,HB0.o.dG⟩):p:=h
theorem alb {p:Prop}(h:p:=by obtain⟨F,L,k,l,m,n,o,f,j⟩:=dR P.o.r0 P.o.r1 P.o.r2 P.o.r3 P.o.r4 (.int .u8 (a.toNat:Int)) (.int .i64 (r:Nat)) (.int .i64 (0:Int)) (.slice none 0 0) (.slice none 0 0);have p:=di (f _ _ P.o.dG ae);clear f j;go_wp2_with fail;exact bodyPost_ret (v:=.tuple #[.agg #[.int .u8 (a.toNat:Int),.int .i64 (r:Nat),.int .i64 (0:Int),.slice none 0 0,.slice none 0 0],.bool false]) aY rfl ⟨gV.no a.toNat r 0 none 0 0 none 0 0,p.o⟩):p:=h
theorem alc {p:Prop}(h:p:=by
 have o:Hid (c.ownsRow w.heap.size 9 1 (.slice (some ⟨j,0,none⟩) (a.length+1) m) (a++[List.drop q (List.take k l)]).length ((a++[List.drop q (List.take k l)]).map dO)):=ahW;have p:Hid (Below w.heap.size w c):=(f.alloc D _).grown e aQ (fun x r=>(b.o.lt x r).1);clear d e n;go_wp2_with fail;go_roundw
 case rel=>exact⟨k+1,k+1,a++[List.drop q (List.take k l)],bJ,bJ,aO,aO,o.o,aQ,fun y s=>ai9,p.o⟩
 case measure=>exact akL):p:=h
theorem alf {p:Prop}(h:p:=by
 go_wp2_with fail;refine(mV _ _ _ i aO).mono ?_;rintro e v ⟨rfl,rfl⟩
 have l:(if m=true then -(dn.val t:Int) else(dn.val t:Int))=x+y:=by
  have c:=p.o;have d:=q.o;have f:=k.o;cases m
  ·simp at c d;simp[f];omega
  ·simp at c d;simp[f];omega
 rw[l];go_wp2_with fail;go_ret;exact⟨rfl,(a.trans (g.mono a.size)).trans (j.mono (Nat.le_trans a.size g.size))⟩):p:=h
theorem alg {p:Prop}(h:p:=by have o:Hid (c.ownsRow w.heap.size 9 1 (.slice (some ⟨j,0,none⟩) (a.length+1) m) (a++[List.drop q l]).length ((a++[List.drop q l]).map dO)):=ahW;have p:Hid (Below w.heap.size w c):=(f.alloc D _).grown e aQ (fun x r=>(b.o.lt x r).1);clear d e n;go_wp2_with fail;go_ret;exact⟨⟨_,a++[List.drop q l],rfl,o.o,aP,fun y s=>ajl,aQ⟩,p.o⟩):p:=h
theorem ali {p:Prop}(h:p:=by go_wp2_with fail;exact bodyPost_ret (v:=.tuple #[.agg #[.int .u8 102,.slice g c h,.int .i64 0,.string ⟨#[]⟩],.int .i64 (t:Nat),.bool false]) bY rfl ⟨M.o,ZB.o⟩):p:=h
theorem alj {p:Prop}(h:p:=by go_wp2_with fail;exact bodyPost_ret (v:=.tuple #[.agg #[.int .u8 99,.slice g c h,.int .i64 0,.string ⟨#[]⟩],.int .i64 (t:Nat),.bool false]) bY rfl ⟨M.o,ZB.o⟩):p:=h
theorem alk {p:Prop}(h:p:=by go_enter Tryz.func152,Tryz.ntmps152;go_wp2_with fail;refine(a.o _).mono ?_;rintro e b ⟨rfl,rfl⟩;go_wp2_with fail;go_ret;exact⟨⟨_,rfl,fun _=>c.o⟩,rfl⟩):p:=h
theorem alo {p:Prop}(h:p:=by
 go_wp2_with fail;go_roundw
 case rel=>exact⟨m+1,rfl,aO,aO,qw.o,HB3.o⟩
 case measure=>exact akL):p:=h
theorem alp {p:Prop}(h:p:=by go_enter Tryz.func186,Tryz.ntmps186;go_wp2_with fail;go_ret;exact⟨fB (by rw[d.o];rfl),e.o⟩):p:=h
theorem alq {p:Prop}(h:p:=by go_wp2_with fail;obtain⟨a,v⟩:=iQ.o;have o:=a.x;have p:=a.b;have q:=a.k;have r:=a.p;simp only[jk]at o p q r;exact bodyPost_ret (v:=.tuple #[.agg #[.string ⟨#[]⟩,.bool true,.slice d m e,.int .i64 i],.int .i64 k,.int .i64 2]) ais rfl ⟨ajK,v⟩):p:=h
theorem als {p:Prop}(h:p:=by go_wp2_with fail;exact bodyPost_ret (v:=.tuple #[.agg #[.string ⟨#[]⟩,.bool false,.slice none 0 0,.int .i64 0],.int .i64 2,.int .i64 i]) (by simp[results,Tryz.results89,go_sem]) rfl ⟨by rw[a];exact⟨⟨[],false,none,0,0,0⟩,rfl⟩,r.o⟩):p:=h
theorem alu {p:Prop}(h:p:=by go_enter Tryz.func263,Tryz.ntmps263;go_wp2_with fail;go_ret;exact⟨dK g.o.symm,s.o⟩):p:=h
theorem alv {p:Prop}(h:p:=by go_wp2_with fail;refine m.o.mono ?_;rintro j p ⟨rfl,k⟩;have n:=di k;clear k;go_wp2_with fail;go_ret;exact⟨rfl,n.o⟩):p:=h
theorem alx {p:Prop}(h:p:=by clear f j;go_wp2_with fail;exact bodyPost_ret (v:=.tuple #[.agg #[.int .u8 (a.toNat:Int),.int .i64 (r:Nat),.int .i64 (bq:Nat),.slice e b d,.slice none 0 0],.bool false]) aY rfl ⟨gV.no a.toNat r bq e b d none 0 0,p.o⟩):p:=h
theorem aly {p:Prop}(h:p:=by go_enter Tryz.func193,Tryz.ntmps193;go_wp2_with fail;exact bodyPost_ret (v:=.tuple #[.agg #[.bool false,.int .u8 0,.int .i64 0,.int .i64 0],.bool false]) (by simp[results,Tryz.results193,go_sem]) rfl ⟨J.o,I.o.dG⟩):p:=h
theorem alC {p:Prop}(h:p:=by go_wp2_with fail;exact bodyPost_ret (v:=.tuple #[.agg #[.int .u8 115,.slice none 0 0,.int .i64 (v:Nat),.string ⟨k.toArray⟩],.int .i64 ((i:Int)+3),.bool false]) cZ rfl ⟨M.o v _,oL.o v⟩):p:=h
theorem alD {p:Prop}(h:p:=by go_wp2_with fail;exact bodyPost_ret (v:=.tuple #[jH,.int .i64 7]) aiP rfl ⟨by rw[u.o];rfl,q.o⟩):p:=h
theorem alE {p:Prop}(h:p:=by go_enter Tryz.func253,Tryz.ntmps253;go_wp2_with fail;refine f.o.mono ?_;rintro e i ⟨rfl,rfl⟩;go_wp2_with fail;go_ret2;rw[g];exact⟨own,Fr.of_below k x.o c.o,rfl,b.o.below c.o⟩):p:=h
theorem alK {p:Prop}(h:p:=by go_wp2_with fail;go_ret2;rw[y.o];obtain⟨L,M⟩:=Z.o;refine⟨s,v.o.trans L,rfl,?_⟩;have O:dE _ s k b { S with terms:=r.1.take S.terms.length }:=M;rw[ru.o]at O;exact O):p:=h
theorem alL {p:Prop}(h:p:=by go_enter Tryz.func255,Tryz.ntmps255;go_wp2_with fail;go_ret2;exact⟨by rw[W.o];rfl,af⟩):p:=h
theorem alM {p:Prop}(h:p:=by go_wp2_with fail;refine G.o.mono ?_;rintro e Q ⟨⟨rb,rfl⟩,t⟩;have B:=di (a.o.trans (t.mono a.o.size));clear t;go_wp2_with fail;go_ret;exact⟨⟨_,rfl⟩,B.o⟩):p:=h
theorem alO {p:Prop}(h:p:=by clear p q v s y m;go_enter Tryz.func18,Tryz.ntmps18;go_wp2_with fail;exact bodyPost_ret (v:=rep 11 0 0 0) aje rfl ⟨own,Fr.of_below k W.o ag,by rw[c.o],ako⟩):p:=h
theorem alP {p:Prop}(h:p:=by go_enter Tryz.func177,Tryz.ntmps177;go_wp2_with fail;go_ret2;exact⟨rfl,rfl⟩):p:=h
theorem alQ {p:Prop}(h:p:=by go_enter Tryz.func123,Tryz.ntmps123;go_wp2_with fail;go_ret;exact⟨rfl,rfl⟩):p:=h
theorem alR {p:Prop}(h:p:=by go_enter Tryz.func107,Tryz.ntmps107;go_wp2_with fail;go_ret;exact⟨ai8,rfl⟩):p:=h
theorem alT {p:Prop}(h:p:=by clear l;go_wp2_with fail;go_ret;exact⟨qV.tt _,y.o⟩):p:=h
theorem alU {p:Prop}(h:p:=by
 rintro e w2 ⟨⟨c,d,rfl,i⟩,m⟩;have O:=di i;have P:=di m;clear i m;go_wp2_with fail
 all_goals
  go_ret2;exact⟨iQ.o _ _ _ _ _ _ O.o,P.o⟩):p:=h
theorem alY {p:Prop}(h:p:=by
 go_wp2_with fail;go_roundw
 case rel=>exact⟨q+1,d,e,_,bJ,by congr 1;omega,by congr 1;omega,aO,rfl,Dk.o,D.o⟩
 case measure=>exact akL):p:=h
theorem alZ {p:Prop}(h:p:=by go_wp2_with fail;go_ret;exact⟨t.o _ aO aO,c.o.trans ((by first|exact Below.jW l.o|exact l.o:Below b.heap.size b _).mono c.o.size)⟩):p:=h
theorem al0 {p:Prop}(h:p:=by go_wp2_with fail;go_ret;exact⟨t.o _ aO aO,X.o.trans ((by first|exact Below.jW l.o|exact l.o:Below P.heap.size P _).mono X.o.size)⟩):p:=h
theorem ama {p:Prop}(h:p:=by
 go_wp2_with fail;go_roundw
 case rel=>exact⟨p+1,h++[S2.mk (.slice c a.length d) a b],bJ,aO,C.o,aQ⟩
 case measure=>exact akL):p:=h
theorem amc {p:Prop}(h:p:=by have uO:=di (a.o.trans ((af.drew.trans v).mono a.o.size));clear v;go_wp2_with fail;go_ret;exact⟨⟨_,rfl⟩,uO.o⟩):p:=h
theorem amd {p:Prop}(h:p:=by generalize Doc.digits x=g at *;subst a;go_enter Tryz.func233,Tryz.ntmps233;go_wp2_with fail;go_ret;exact⟨rfl,rfl⟩):p:=h
theorem ame {p:Prop}(h:p:=by rw[h]at a ⊢;clear k c e j f;go_enter Tryz.func182,Tryz.ntmps182;go_wp2_with fail;go_ret;exact⟨iB d.o.symm,a.o⟩):p:=h
theorem amg {p:Prop}(h:p:=by go_enter Tryz.func93,Tryz.ntmps93;go_wp2_with fail;exact bodyPost_ret (v:=.tuple #[]) ajs rfl ⟨rfl,HQ.o _ H.o⟩):p:=h
theorem amh {p:Prop}(h:p:=by
 clear E;go_wp2_with fail;go_roundw
 case rel=>exact⟨k+1,q,a,bJ,rfl,aO,aO,b.o,aO,g.o,f⟩
 case measure=>exact akL):p:=h
theorem ami {p:Prop}(h:p:=by go_wp2_with fail;go_ret2;exact⟨⟨0,false,aO,rfl⟩,rfl⟩):p:=h
theorem amk {p:Prop}(h:p:=by have s:=di (f.o.trans ((af.drew.trans I).mono f.o.size));clear I;go_wp2_with fail;go_ret;exact⟨e.o,s.o⟩):p:=h
theorem aml {p:Prop}(h:p:=by rintro h w2 ⟨⟨y,rfl⟩,hb2⟩;go_wp2_with fail;go_ret;exact⟨⟨_,rfl⟩,l.trans (hb2.mono l.size)⟩):p:=h
theorem amn {p:Prop}(h:p:=by
 go_roundw
 case rel=>exact⟨t+1,_,a++[z],bJ,aO,aO,Z.o,HLEN.o,by rw[X.o];omega⟩
 case measure=>exact akL):p:=h
theorem amo {p:Prop}(h:p:=by rintro h w1 ⟨⟨yb,rfl⟩,d⟩;go_wp2_with fail;go_ret;exact⟨⟨_,rfl⟩,c.trans (d.mono c.size)⟩):p:=h
theorem amq {p:Prop}(h:p:=by go_enter Tryz.func231,Tryz.ntmps231;go_wp2_with fail;go_ret2;rw[c];exact⟨own,Fr.refl E.o k,rfl,D.o⟩):p:=h
theorem amt {p:Prop}(h:p:=by go_wp2_with fail;go_ret2;rw[b];exact⟨own,Fr.of_below k K.o (a.o 1 1 0),rfl,B.o.below (a.o 1 1 0)⟩):p:=h
theorem amu {p:Prop}(h:p:=by clear A;go_enter Tryz.func129,Tryz.ntmps129;go_wp2_with fail;go_ret;exact⟨rfl,kJ.same N.o m.o af⟩):p:=h
theorem amw {p:Prop}(h:p:=by go_enter Tryz.func234,Tryz.ntmps234;go_wp2_with fail;go_ret;exact⟨dK (by rw[l.o,<-X6];rfl),rfl⟩):p:=h
theorem amx {p:Prop}(h:p:=by have c:Doc.digit x[k]=false:=aki;go_wp2_with fail;go_ret;exact⟨dK (by rw[e.o,j.o,c];rfl),rfl⟩):p:=h
theorem amz {p:Prop}(h:p:=by clear c;go_wp2_with fail;go_ret;rw[D.o];exact⟨own,Fr.of_below k z.o e.o,rfl,J.o.below e.o⟩):p:=h
theorem amA {p:Prop}(h:p:=by
 go_wp2_with fail;go_roundw
 case rel=>exact⟨k+1,bJ,aO,m,F,E.o,p.o⟩
 case measure=>exact akL):p:=h
theorem amB {p:Prop}(h:p:=by go_wp2_with fail;go_ret;exact⟨qV.tt _,I.o _ bQ⟩):p:=h
theorem amC {p:Prop}(h:p:=by clear i k E F;have m:=di l;clear l;go_wp2_with fail;go_ret;exact⟨⟨_,rfl,m.o.1⟩,m.o.2⟩):p:=h
theorem amD {p:Prop}(h:p:=by
 go_wp2_with fail;go_roundw
 case rel=>exact o.o _ _ b a L _ M.o aO aO
 case measure=>exact akL):p:=h
theorem amF {p:Prop}(h:p:=by
 go_wp2_with fail;go_roundw
 case rel=>exact⟨E,c+1,rfl,bJ,aO,F.o⟩
 case measure=>exact akL):p:=h
theorem amG {p:Prop}(h:p:=by
 go_wp2_with fail;go_roundw
 case rel=>exact Xy.o b _ _ QS.o aO y.o l
 case measure=>exact akL):p:=h
theorem amH {p:Prop}(h:p:=by
 go_wp2_with fail;go_roundw
 case rel=>exact⟨p+1,h,bJ,aO,m.o,aO⟩
 case measure=>exact akL):p:=h
theorem amI {p:Prop}(h:p:=by go_wp2_with fail;go_ret;exact⟨⟨_,rfl⟩,b.o.trans ((af.drew.trans h).mono b.o.size)⟩):p:=h
theorem amJ {p:Prop}(h:p:=by
 go_wp2_with fail;go_roundw
 case rel=>exact⟨k+1,bJ,aO,i,HB2.o⟩
 case measure=>exact akL):p:=h
theorem amK {p:Prop}(h:p:=by go_enter Tryz.func257,Tryz.ntmps257;go_wp2_with fail;go_ret;exact⟨dK d.o.symm,rfl⟩):p:=h
theorem amL {p:Prop}(h:p:=by go_enter Tryz.func210,Tryz.ntmps210;go_wp2_with fail;go_ret;exact⟨fB a.o.symm,rfl⟩):p:=h
theorem amN {p:Prop}(h:p:=by
 go_wp2_with fail;go_roundw
 case rel=>exact⟨k+1,bJ,aO,r.o⟩
 case measure=>exact akL):p:=h
theorem amO {p:Prop}(h:p:=by
 go_wp2_with fail;go_roundw
 case rel=>exact⟨k+1,bJ,aO,e.o⟩
 case measure=>exact akL):p:=h
theorem amQ {p:Prop}(h:p:=by rintro m P ⟨rfl,q⟩;have q2:=q.box.op;go_wp2_with fail;go_end0;exact q.fin aO):p:=h
theorem amR {p:Prop}(h:p:=by go_enter Tryz.func117,Tryz.ntmps117;go_wp2_with fail;go_ret2;exact T.o _ C.o rfl):p:=h
theorem amU {p:Prop}(h:p:=by go_wp2_with fail;go_ret;exact⟨⟨_,rfl,fun _ k=>absurd rfl k⟩,I.o _ X.o⟩):p:=h
theorem amV {p:Prop}(h:p:=by go_enter Tryz.func168,Tryz.ntmps168;go_wp2_with fail;go_ret;exact⟨rfl,a.o⟩):p:=h
theorem amW {p:Prop}(h:p:=by go_enter Tryz.func159,Tryz.ntmps159;go_wp2_with fail;go_ret;exact⟨rfl,rfl⟩):p:=h
theorem amX {p:Prop}(h:p:=by
 have Af:Hid (a.toNat≠65):=akc;have Ri:((a.toNat:Int) !=65)=true:=aZ;clear Z;have HS:=di HS2.o;go_wp2_with fail
 go_loopw [6] (fun q wr=>∃(t:Nat) (e:Option Addr) (b d:Nat) (v:List Lit),q=.int .i64 t/\1<=t/\t<=N/\b=v.length/\nU w x wr (.int .u8 (a.toNat:Int)) (.int .i64 (0:Int)) (.int .i64 (0:Int)) (.slice e b d) v/\(∀bg∈v,bg.small)/\b<=t/\b<=d/\d<=2 ^ 63-1) (fun q _=>N-(intOf q).toNat)
 case atStart=>exact⟨1,none,0,0,[],rfl,aO,aO,rfl,HS.o,aP,aO,aO,aO⟩
 case round=>
  obtain⟨t,e,b,d,v,rfl,hit,G6,tK,Q,hsm,hlt,DR,DN⟩:=hrel;have z:=di Q;have oK:=di hsm;have H:=di tK;have g:=Q.bx;have yO:=g.c0;have uF:=g.c1;have vY:=g.c2;have uE:=g.c3;have yN:=g.c4;have yM:=g.cf;have xu:=g.r0;have xq:=g.r1;have xn:=g.r2;have xm:=g.r3;have yL:=g.r4;have yK:=g.rf;have AL:Hid (wr.heap[J]?=x.heap[J]?):=Q.keep J xG.o.2 aio;have i:=di g;clear Q hsm tK g
  by_cases htl:t<N
  ·obtain⟨y,O⟩:∃y,V[t]?=some y:=⟨_,aD aiO⟩;have d1:=oH.o wr AL.o t y O;have hyl:=rJ.o y (List.mem_of_getElem? O);clear O
   by_cases R:y=[124]
   ·have tb:(y==[124])=true:=akv;clear R;have tN:((t:Int)==(N:Int))=false:=aj aO;obtain⟨F,L,k,l,m,n,o,f,j⟩:=dR i.o.r0 i.o.r1 i.o.r2 i.o.r3 i.o.r4 (.int .u8 (a.toNat:Int)) (.int .i64 (0:Int)) (.int .i64 (0:Int)) (.slice e b d) (.slice none 0 0);have p:=di (f _ _ i.o.dG ae);exact akV
   ·exact akM
  ·exact akY):p:=h
theorem amZ {p:Prop}(h:p:=by go_enter Tryz.func136,Tryz.ntmps136;exact ale):p:=h
end Go.Proofs.YtbichedkajfmiaaGreatDoor
