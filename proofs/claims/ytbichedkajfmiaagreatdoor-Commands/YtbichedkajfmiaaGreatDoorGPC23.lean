import Derived.Test.YtbichedkajfmiaaGreatDoorGPC17
import Derived.Test.YtbichedkajfmiaaGreatDoorC
set_option maxRecDepth 100000
set_option maxHeartbeats 16000000
namespace Go.Proofs.YtbichedkajfmiaaGreatDoor
open Go.RowKit
variable {A:List Doc.Tr}{Y:Doc.Tr}{n:Nat}{w:World}{x:List UInt8}
theorem Jz {u0 u1:Value}(g:w.cell? ⟨n,0,none⟩=some u0)(h:w.cell? ⟨n,1,none⟩=some u1)(c d:Value) :
 ∃a,(w.setCell ⟨n,0,none⟩ c).setCell ⟨n,1,none⟩ d=a/\a.cell? ⟨n,0,none⟩=some c/\a.cell? ⟨n,1,none⟩=some d/\Below n w a/\∀b,b≠n->a.heap[b]?=w.heap[b]?:=by
 obtain⟨a,e,i,j,k⟩:=iY g h c d;refine⟨a,e,i,j,k,fun b f=>?_⟩;rw[<-e];exact(aC f).trans (aC f)
def yT (S:Doc.dB)(p:Nat)(x1:List UInt8)(R:Except Nat (List Nat))(so p3:Nat):Except (Nat × Nat) Doc.dB:=match R with
 | .error x=>.error (7,x)
 | .ok l=>if so=0 then .error (7,p3) else if S.syms.length=8 then .error (9,p) else .ok { S with syms:=S.syms++[⟨x1,l,so⟩] }
def zX (S:Doc.dB)(p p1:Nat)(x1:List UInt8)(R:Except Nat (List Nat))(so p3:Nat):Except (Nat × Nat) Doc.dB:=
 if Doc.forbidden x1=true then .error (5,p1) else if (Doc.eX S.syms x1).isSome=true then .error (6,p1) else yT S p x1 R so p3
theorem WL {S:Doc.dB}{a d:Doc.Tr}(h:(oD Y a d).1≠0):Doc.lq S n Y a d=.error (oD Y a d):=by
 unfold oD at h ⊢;unfold Doc.lq
 by_cases b:Y.isList=true
 ·rw[if_pos b,if_pos b]
 ·rw[if_neg b]at h;rw[if_neg b,if_neg b]
  by_cases c:a.isList=false
  ·rw[if_pos c,if_pos c]
  ·rw[if_neg c]at h;rw[if_neg c,if_neg c];cases h3:Doc.fP a.kids with
   | some x=>rfl
   | none=>
    rw[h3]at h;simp only at h ⊢
    by_cases e:d.isList=true
    ·rw[if_pos e,if_pos e]
    ·rw[if_neg e]at h;exact absurd rfl h
theorem Tm {S:Doc.dB}{p:Nat}{a b:Doc.Tr}(h:(oD Y a b).1=0):oD Y a b=(0,0)/\Y.isList=false/\∃r c,a=.list r c/\Doc.lq S p Y a b=zX S p Y.pos Y.text (La r c) (Doc.fw b.text) b.pos:=by
 unfold oD at h ⊢;unfold Doc.lq
 by_cases d:Y.isList=true
 ·rw[if_pos d]at h;exact ajo
 ·rw[if_neg d]at h;rw[if_neg d,if_neg d]
  by_cases e:a.isList=false
  ·rw[if_pos e]at h;exact ajo
  ·rw[if_neg e]at h;rw[if_neg e,if_neg e];cases h3:Doc.fP a.kids with
   | some x=>rw[h3]at h;simp at h
   | none=>
    rw[h3]at h;simp only at h ⊢
    by_cases g:b.isList=true
    ·rw[if_pos g]at h;exact ajo
    ·rw[if_neg g,if_neg g];refine⟨rfl,ajw,?_⟩;cases a with
     | word r x=>exact absurd rfl e
     | list r c=>
      refine⟨r,c,rfl,?_⟩;unfold zX yT La;show(if _ then _ else if _ then _ else if 2<c.length then Except.error (7,r) else _)=_
      by_cases f:2<c.length
      ·rw[if_pos f,if_pos f]
      ·rw[if_neg f,if_neg f];rfl
theorem qO (l m p k:Nat)(own:Own)(U:List Doc.Item)(n:List Doc.Tr)(c V t:Doc.Tr)(S:Doc.dB)(w:World)(bq:gQ w own l m U p n)(hS:dA w own k m S)(hfr:dH own w)(hk:k≠0)(hw:Doc.fQ S)(hl:n.length=4)(hk1:n[1]?=some c)(hk2:n[2]?=some V)(hk3:n[3]?=some t)(hok:Doc.oks n)(hwd:Doc.eu n<=800) :
 Calls Tryz.prog 81 #[.pointer (some ⟨l,0,none⟩)] w fun u X=>gF w X own k m S (Doc.lq S p c V t) u:=by
 obtain⟨f,hW1⟩:∃f,w.alloc (.cells #[.int .i64 0,.int .i64 0] 64)=f:=⟨_,rfl⟩;obtain⟨vZ,r⟩:=eB.start w;rw[hW1]at vZ r;have hsz:f.heap.size=w.heap.size+1:=ahZ;have Y:=di vZ;have M:Hid (Fr own (dw own w.heap.size (k+1)) k w f):=Fr.boxed hfr r ae aO;have hS1:dA f (dw own w.heap.size (k+1)) k m S:=hS.boxed r ae;have Z:=di hS1;have H:gQ f (dw own w.heap.size (k+1)) l m U p n:=bq.boxed r ae;have kv:=di H;have uN:Hid (dw own w.heap.size (k+1) w.heap.size≠k):=bR;have Zb:=di (EO l m p _ U n c V t f H M.o.dJ hl hk1 hk2 hk3 hok);obtain⟨l1,g1⟩:=List.getElem?_eq_some_iff.1 hk1;obtain⟨l2,g2⟩:=List.getElem?_eq_some_iff.1 hk2;obtain⟨l3,g3⟩:=List.getElem?_eq_some_iff.1 hk3;obtain⟨s,hown1⟩:=aJ (dw own w.heap.size (k+1));have N:Hid (dH s f):=by show dH s f;rw[<-hown1];exact M.o.dJ
 rw[hown1]at hS1 Z H kv;have Ae:=di hown1;clear hown1
 by_cases hF:(oD c V t).1=0
 ·obtain⟨hF0,aba,bC,js,e2,hdr⟩:=Tm (S:=S) (p:=p) hF;rw[hdr];rw[hF0]at Zb
  have hx1:0<c.text.length:=by
   have:=Doc.kQ hok c (List.mem_of_getElem? hk1);cases c with
   | word bn bg=>simp only[Doc.Tr.ok]at this;exact List.length_pos_iff.2 this.1
   | list bn kk=>simp[Doc.Tr.isList]at aba
  have V3:c.text.length<=1000000:=by
   have:=Doc.jl (ks:=n) c (List.mem_of_getElem? hk1);have h3:c.text.length<=c.width:=by cases c<;>simp[Doc.Tr.text,Doc.Tr.width]
   exact aO
  have Ag:=di (fun W (F:Below f.heap.size f W)=>nM l m p 1 s U n W (H.below F) l1);have XH:=di (fun W (F:Below f.heap.size f W)=>nM l m p 3 s U n W (H.below F) l3);rw[g1]at Ag;rw[g3]at XH;obtain⟨O,hf1⟩:=aJ (Doc.start n 1 1+(Doc.flat c (Doc.start n 1 1)).length);obtain⟨zU,hf3⟩:=aJ (Doc.start n 1 3+(Doc.flat t (Doc.start n 1 3)).length);rw[hf1]at Ag;rw[hf3]at XH;have Fu:=di (fun W (F:Below f.heap.size f W)=>MS c.text W (H.below F).ord.iE hx1 V3);have wN:=di (fun W (F:Below f.heap.size f W)=>D9 m S.syms S.terms c.text W (hS1.below F).book);have LA:=di (fun W=>DY t.text W);have HAS:=di (fun bA W (F:Below f.heap.size f W) (hB:f.heap.size<=bA) (hB2:bA<W.heap.size)=>CJ l m p bC (dw s bA 1) U n js W (H.boxed F hB) (fun bB hc=>by unfold dw;rw[if_neg aO];exact N.o bB (Nat.le_trans F.size hc)) l2 (g2.trans e2));have HO0:=di (fun W (F:Below f.heap.size f W)=>(H.below F).ord.st);have LK:=di H.ord.lt;have hn8:=hw.book.few;have HDR:Hid (∀I j,zX S p c.pos c.text I j t.pos=if Doc.forbidden c.text=true then .error (5,c.pos) else if (Doc.eX S.syms c.text).isSome=true then .error (6,c.pos) else yT S p c.text I j t.pos):=fun I j=>rfl;obtain⟨I,KP⟩:=aJ (La bC js);obtain⟨j,hso⟩:=aJ (Doc.fw t.text);rw[hso,KP];rw[hso]at LA;rw[KP]at HAS;have HD2:=di (HDR.o I j);generalize zX S p c.pos c.text I j t.pos=R at *;obtain⟨fb,abo⟩:=aJ (Doc.forbidden c.text);obtain⟨fd,hfd⟩:=aJ (Doc.eX S.syms c.text);rw[abo]at Fu HD2;rw[hfd]at wN HD2;clear bq hS hfr vZ r hw hS1 H hk1 hk2 hk3 g1 g2 g3 hok hwd hF hF0 e2 hdr hf1 hf3 HDR KP hso abo hfd aba hx1 V3 hl l1 l2 l3;generalize c.pos=q at *;generalize c.text=g at *;generalize t.pos=x at *;generalize t.text=x3 at *;go_enter Tryz.func81,Tryz.ntmps81;go_wp2_with fail;refine Zb.o.mono ?_;rintro u d ⟨rfl,r⟩;have hs1:=r.size;have UA:Hid (Below f.heap.size f (d.alloc (.cells #[.int .i64 0,.int .i64 0] 64))):=r.alloc r.size _;clear r;go_wp2_with fail;refine(Ag.o _ (by exact UA.o)).mono ?_;rintro u e ⟨rfl,hb2⟩;have hs2:=hb2.size;simp only[World.size_alloc]at hs2;have K:=hb2.alloc hb2.size (.cells #[.int .i64 (q:Int),.string ⟨g.toArray⟩,.int .i64 (O:Int)] 129);have rR:=di (UA.o.trans (K.mono UA.o.size));have f0:(e.alloc (.cells #[.int .i64 (q:Int),.string ⟨g.toArray⟩,.int .i64 (O:Int)] 129)).cell? ⟨d.heap.size,0,none⟩=some (.int .i64 0):=(K.cell (p:=⟨d.heap.size,0,none⟩) aP).trans aP;have f1:(e.alloc (.cells #[.int .i64 (q:Int),.string ⟨g.toArray⟩,.int .i64 (O:Int)] 129)).cell? ⟨d.heap.size,1,none⟩=some (.int .i64 0):=(K.cell (p:=⟨d.heap.size,1,none⟩) aP).trans aP;have ff:∀y,(e.alloc (.cells #[.int .i64 (q:Int),.string ⟨g.toArray⟩,.int .i64 (O:Int)] 129)).frozen? ⟨d.heap.size,y,none⟩=false:=fun y=>(K.frozen (p:=⟨d.heap.size,y,none⟩) aP).trans aP;have n0:(e.alloc (.cells #[.int .i64 (q:Int),.string ⟨g.toArray⟩,.int .i64 (O:Int)] 129)).cell? ⟨e.heap.size,0,none⟩=some (.int .i64 (q:Int)):=aP;have n1:(e.alloc (.cells #[.int .i64 (q:Int),.string ⟨g.toArray⟩,.int .i64 (O:Int)] 129)).cell? ⟨e.heap.size,1,none⟩=some (.string ⟨g.toArray⟩):=aP;have hsB:(e.alloc (.cells #[.int .i64 (q:Int),.string ⟨g.toArray⟩,.int .i64 (O:Int)] 129)).heap.size=e.heap.size+1:=aP;clear hb2 K;go_upto_region 5 with fail
  generalize e.alloc (.cells #[.int .i64 (q:Int),.string ⟨g.toArray⟩,.int .i64 (O:Int)] 129)=L at *;go_wp2_with fail;refine(Fu.o _ (by exact rR.o)).mono ?_;rintro u wX ⟨rfl,Sy⟩;rw[Sy];clear Sy wX;cases fb
  case true=>
   have G:Hid (R=.error (5,q)):=by show _=_;rw[HD2.o,if_pos rfl]
   have a:=gF.fault (a:=5) (b:=q) N.o Z.o rR.o aO;rw[<-Ae.o]at a;have b:=a.fb Y.o uN.o;have z:=b.c0;have A:=b.c1;have cf:=b.fr;obtain⟨wz,hwz,B,C,h,i⟩:=dL z A (.int .i64 (5:Int)) (.int .i64 (q:Int));have D:=di (a.dU M.o ae aO h i);clear a b h i;go_wp2_with fail;exact bodyPost_ret (v:=.agg #[.int .i64 (5:Int),.int .i64 (q:Int)]) ahU rfl aiT
  case false=>
   have HD3:Hid (R=if fd.isSome=true then .error (6,q) else yT S p g I j x):=by show _=_;rw[HD2.o,if_neg aR]
   have o0:=HO0.o L rR.o;have hol:=LK.o;have hsW:=rR.o.size;clear HD2;go_wp2_with fail;go_region_held3 (fun X=>X.cell? ⟨l,0,none⟩=some (.pointer (some ⟨m,0,none⟩))/\X.cell? ⟨e.heap.size,1,none⟩=some (.string ⟨g.toArray⟩)) (go_keep) (first|(go_at_call 121;refine(wN.o _ rR.o.drew).mono ?_;rintro u P ⟨rfl,hb3⟩;have s0:P.cell? ⟨l,0,none⟩=some (.pointer (some ⟨m,0,none⟩)):=(hb3.cell (p:=⟨l,0,none⟩) (by show l<L.heap.size;omega)).trans o0;have s1:P.cell? ⟨e.heap.size,1,none⟩=some (.string ⟨g.toArray⟩):=(hb3.cell (p:=⟨e.heap.size,1,none⟩) ajx).trans n1));have Q:Below L.heap.size L P:=af.drew.trans hb3;have AO:=di (rR.o.trans (Q.mono rR.o.size));have g0:=(Q.cell (p:=⟨d.heap.size,0,none⟩) ajz).trans f0;have g1:=(Q.cell (p:=⟨d.heap.size,1,none⟩) ajz).trans f1;have gf:∀y,P.frozen? ⟨d.heap.size,y,none⟩=false:=fun y=>(Q.frozen (p:=⟨d.heap.size,y,none⟩) ajz).trans (ff y);have m0:=(Q.cell (p:=⟨e.heap.size,0,none⟩) ajx).trans n0;have m1:=(Q.cell (p:=⟨e.heap.size,1,none⟩) ajx).trans n1;have hs3:=Q.size;clear hb3 Q f0 f1 ff n0 n1 o0
   try clear s0
   try clear s1
   cases fd with
   | some bG=>
    have G:Hid (R=.error (6,q)):=HD3.o.trans rfl;have tz:(0:Int)<=(bG:Int):=aO;simp only[placeOf];have a:=gF.fault (a:=6) (b:=q) N.o Z.o AO.o aO;rw[<-Ae.o]at a;have b:=a.fb Y.o uN.o;have z:=b.c0;have A:=b.c1;have cf:=b.fr;obtain⟨wz,hwz,B,C,h,i⟩:=dL z A (.int .i64 (6:Int)) (.int .i64 (q:Int));have D:=di (a.dU M.o ae aO h i);clear a b h i;go_wp2_with fail;exact bodyPost_ret (v:=.agg #[.int .i64 (6:Int),.int .i64 (q:Int)]) ahU rfl aiT
   | none=>
    have HD4:Hid (R=yT S p g I j x):=HD3.o.trans rfl;simp only[placeOf];clear HD3;go_wp2_with fail;refine(HAS.o d.heap.size _ (by exact AO.o) hs1 aO).mono ?_;rintro u w4 ⟨hAs,hb4⟩;have HCD:=di (AO.o.trans (hb4.mono AO.o.size));have j0:=(hb4.cell (p:=⟨d.heap.size,0,none⟩) ajy).trans g0;have j1:=(hb4.cell (p:=⟨d.heap.size,1,none⟩) ajy).trans g1;have jf:∀y,w4.frozen? ⟨d.heap.size,y,none⟩=false:=fun y=>(hb4.frozen (p:=⟨d.heap.size,y,none⟩) ajy).trans (gf y);have q1:=(hb4.cell (p:=⟨e.heap.size,1,none⟩) (by show e.heap.size<P.heap.size;omega)).trans m1;have hs4:=hb4.size;clear hb4 g0 g1 gf m0 m1;cases I with
    | error bg=>
     have aeK:u=.returned (.tuple #[.slice none 0 0,.agg #[.int .i64 7,.int .i64 (bg:Nat)]]):=hAs;subst aeK;have G:Hid (R=.error (7,bg)):=HD4.o;obtain⟨wy,yP,y0,y1,yb,yo⟩:=Jz j0 j1 (.int .i64 7) (.int .i64 (bg:Nat));have uf:=di (HCD.o.trans (yb.mono hs1));clear hAs yb yo HD4;go_upto_region 10 with fail
     have a:=gF.fault (a:=7) (b:=bg) N.o Z.o uf.o aO;rw[<-Ae.o]at a;have b:=a.fb Y.o uN.o;have z:=b.c0;have A:=b.c1;have cf:=b.fr;obtain⟨wz,hwz,B,C,h,i⟩:=dL z A (.int .i64 (7:Int)) (.int .i64 (bg:Int));have D:=di (a.dU M.o ae aO h i);clear a b h i;go_wp2_with fail;exact bodyPost_ret (v:=.agg #[.int .i64 (7:Int),.int .i64 (bg:Int)]) ahU rfl aiT
    | ok T=>
     obtain⟨bD,bn,hAs,hro,hl2⟩:=hAs;subst hAs;have HD5:Hid (R=if j=0 then .error (7,x) else if S.syms.length=8 then .error (9,p) else .ok { S with syms:=S.syms++[⟨g,T,j⟩] }):=HD4.o;obtain⟨wy,yP,y0,y1,yb,yo⟩:=Jz j0 j1 (.int .i64 0) (.int .i64 0);have uf:=di (HCD.o.trans (yb.mono hs1))
     have Ud:Hid (eD wy s (.slice bD T.length bn) T):=hro.step (fun bF hb J=>by
      have hne:bF≠d.heap.size:=by
       intro u;unfold dw at J;rw[if_pos u]at J;exact aO
      refine⟨yo bF hne,by unfold dw at J;rw[if_neg hne]at J;exact J⟩)
     have v1:wy.cell? ⟨e.heap.size,1,none⟩=some (.string ⟨g.toArray⟩):=(World.cell?_of_block (w:=w4) (a:=⟨e.heap.size,1,none⟩) (yo _ (by show e.heap.size≠d.heap.size;omega))).trans q1;have hs5:=yb.size;clear yb yo hro q1 HD4;go_upto_region 10 with fail
     clear yP;go_wp2_with fail;refine(XH.o _ (by exact uf.o)).mono ?_;rintro u w5 ⟨rfl,hb5⟩;have K:=hb5.alloc hb5.size (.cells #[.int .i64 (x:Int),.string ⟨x3.toArray⟩,.int .i64 (zU:Int)] 129);have mq:=di K;have Oq:=di (uf.o.trans (K.mono uf.o.size));have hs6:=hb5.size;have t0:(w5.alloc (.cells #[.int .i64 (x:Int),.string ⟨x3.toArray⟩,.int .i64 (zU:Int)] 129)).cell? ⟨w5.heap.size,0,none⟩=some (.int .i64 (x:Int)):=aP;have t1:(w5.alloc (.cells #[.int .i64 (x:Int),.string ⟨x3.toArray⟩,.int .i64 (zU:Int)] 129)).cell? ⟨w5.heap.size,1,none⟩=some (.string ⟨x3.toArray⟩):=aP;have v2:=(K.cell (p:=⟨e.heap.size,1,none⟩) (by show e.heap.size<wy.heap.size;omega)).trans v1;have hsF:(w5.alloc (.cells #[.int .i64 (x:Int),.string ⟨x3.toArray⟩,.int .i64 (zU:Int)] 129)).heap.size=w5.heap.size+1:=aP;clear hb5 K v1 y0 y1;go_upto_region 13 with fail;generalize w5.alloc (.cells #[.int .i64 (x:Int),.string ⟨x3.toArray⟩,.int .i64 (zU:Int)] 129)=wF at *;go_wp2_with fail;refine(LA.o _).mono ?_;rintro u wX ⟨rfl,Sy⟩;rw[Sy];clear Sy wX
     by_cases J:j=0
     ·have G:Hid (R=.error (7,x)):=by show _=_;rw[HD5.o,if_pos J]
      have ts:((j:Int)==0)=true:=by rw[J];rfl
      clear J;have a:=gF.fault (a:=7) (b:=x) N.o Z.o Oq.o aO;rw[<-Ae.o]at a;have b:=a.fb Y.o uN.o;have z:=b.c0;have A:=b.c1;have cf:=b.fr;obtain⟨wz,hwz,B,C,h,i⟩:=dL z A (.int .i64 (7:Int)) (.int .i64 (x:Int));have D:=di (a.dU M.o ae aO h i);clear a b h i;go_wp2_with fail;exact bodyPost_ret (v:=.agg #[.int .i64 (7:Int),.int .i64 (x:Int)]) ahU rfl aiT
     ·have ts:((j:Int)==0)=false:=aj aO;have HD6:Hid (R=if S.syms.length=8 then .error (9,p) else .ok { S with syms:=S.syms++[⟨g,T,j⟩] }):=by show _=_;rw[HD5.o,if_neg J]
      have HSF:=di (Z.o.below Oq.o);have HFF:Hid (dH s wF):=fun bB hc=>N.o bB (Nat.le_trans Oq.o.size hc);have o0:=HO0.o wF Oq.o;have hol:=LK.o;have hsW:=Oq.o.size;have HFd:Hid (dH s wF.drew):=HFF.o;have Zc:=di (Nk m k s S ⟨g,T,j⟩ bD bn wF.drew (HSF.o.below af.drew) HFd.o hk ((Ud.o.below mq.o).below af.drew).ints (by show T.length<=1000;omega));have afo:Hid (s l=0):=kv.o.ord.Vq;have afv:Hid (s e.heap.size=0):=N.o _ aO;have agN:l<wF.heap.size:=aO;have agZ:e.heap.size<wF.heap.size:=aO;simp only at Zc;clear HD5 J;go_wp2_with fail;go_region_held3 (fun X=>X.cell? ⟨l,0,none⟩=some (.pointer (some ⟨m,0,none⟩))/\X.cell? ⟨e.heap.size,1,none⟩=some (.string ⟨g.toArray⟩)) (go_keep) (first|(go_at_call 124;refine Zc.o.mono ?_;rintro u w7 ⟨rfl,O8,Yg,hS7⟩;have s0:w7.cell? ⟨l,0,none⟩=some (.pointer (some ⟨m,0,none⟩)):=Yg.cell (p:=⟨l,0,none⟩) (by exact o0) (by show s l≠k;rw[afo.o];exact hk.symm);have s1:w7.cell? ⟨e.heap.size,1,none⟩=some (.string ⟨g.toArray⟩):=Yg.cell (p:=⟨e.heap.size,1,none⟩) (by exact v2) (by show s e.heap.size≠k;rw[afv.o];exact hk.symm)));have L6:Hid (Fr s O8 k f w7):=((Fr.of_below k N.o Oq.o).trans (Fr.of_below k HFF.o af.drew)).trans Yg;have YR:=di hS7;clear Yg hS7 o0 v2 t0 t1
      try clear s0
      try clear s1
      by_cases h8:S.syms.length<8
      ·have G:Hid (R=.ok { S with syms:=S.syms++[⟨g,T,j⟩] }):=by show _=_;rw[HD6.o,if_neg aO]
       have td:decide (S.syms.length<8)=true:=decide_eq_true h8;have Ub:=YR;rw[if_pos h8]at Ub;have a:gF f w7 s k m S (.ok { S with syms:=S.syms++[⟨g,T,j⟩] }) (.returned (.agg #[.int .i64 0,.int .i64 0])):=⟨O8,L6.o,rfl,Ub.o⟩;rw[<-Ae.o]at a;have b:=a.fb Y.o uN.o;have z:=b.c0;have A:=b.c1;have cf:=b.fr;obtain⟨wz,hwz,B,C,h,i⟩:=dL z A (.int .i64 0) (.int .i64 0);have D:=di (a.dU M.o ae aO h i);clear a b h i h8;go_wp2_with fail;exact bodyPost_ret (v:=.agg #[.int .i64 0,.int .i64 0]) ahU rfl aiT
      ·have G:Hid (R=.error (9,p)):=by show _=_;rw[HD6.o,if_pos aO]
       have td:decide (S.syms.length<8)=false:=decide_eq_false h8;have Ub:=YR;rw[if_neg h8]at Ub;have y9:=di (iV l m p 9 O8 U n w7 (kv.o.fr L6.o hk));clear h8;go_wp2_with fail;refine y9.o.mono ?_;rintro u w8 ⟨rfl,EC⟩;have a:gF f w8 s k m S (.error (9,p)) (.returned (.agg #[.int .i64 (9:Nat),.int .i64 (p:Nat)])):=⟨O8,L6.o.trans (Fr.of_below k L6.o.dJ EC),rfl,aO,Ub.o.below EC⟩;rw[<-Ae.o]at a;have b:=a.fb Y.o uN.o;have z:=b.c0;have A:=b.c1;have cf:=b.fr;obtain⟨wz,hwz,B,C,h,i⟩:=dL z A (.int .i64 9) (.int .i64 (p:Int));have D:=di (a.dU M.o ae aO h i);clear a b h i EC;go_wp2_with fail;exact bodyPost_ret (v:=.agg #[.int .i64 9,.int .i64 (p:Int)]) ahU rfl aiT
 ·rw[WL hF];obtain⟨v,hF1⟩:=aJ ((oD c V t).1);obtain⟨E,hF2⟩:=aJ ((oD c V t).2);have hFF:oD c V t=(v,E):=by rw[<-hF1,<-hF2]
  rw[hF1,hF2]at Zb;rw[hF1]at hF;rw[hFF];have hen:((v:Int) !=0)=true:=aZ;clear bq hS hfr vZ r hw hS1 H hk1 hk2 hk3 g1 g2 g3 hok hwd hF1 hF2 hFF hl l1 l2 l3;go_enter Tryz.func81,Tryz.ntmps81;go_wp2_with fail;refine Zb.o.mono ?_;rintro u d ⟨rfl,r⟩;have hs1:=r.size;have UA:Hid (Below f.heap.size f (d.alloc (.cells #[.int .i64 (v:Int),.int .i64 (E:Int)] 64))):=r.alloc r.size _;have f0:(d.alloc (.cells #[.int .i64 (v:Int),.int .i64 (E:Int)] 64)).cell? ⟨d.heap.size,0,none⟩=some (.int .i64 (v:Int)):=aP;have f1:(d.alloc (.cells #[.int .i64 (v:Int),.int .i64 (E:Int)] 64)).cell? ⟨d.heap.size,1,none⟩=some (.int .i64 (E:Int)):=aP;clear r;go_upto_region 2 with fail;generalize d.alloc (.cells #[.int .i64 (v:Int),.int .i64 (E:Int)] 64)=wa at *;have G:Hid ((.error (v,E):Except (Nat × Nat) Doc.dB)=.error (v,E)):=rfl;have a:=gF.fault (a:=v) (b:=E) N.o Z.o UA.o hF;rw[<-Ae.o]at a;have b:=a.fb Y.o uN.o;have z:=b.c0;have A:=b.c1;have cf:=b.fr;obtain⟨wz,hwz,B,C,h,i⟩:=dL z A (.int .i64 (v:Int)) (.int .i64 (E:Int));have D:=di (a.dU M.o ae aO h i);clear a b h i;go_wp2_with fail;exact bodyPost_ret (v:=.agg #[.int .i64 (v:Int),.int .i64 (E:Int)]) ahU rfl D.o
theorem Tq (h:Doc.digits x=true):(if x=[48] then(.ok 0:Except (Nat × Nat) Nat) else if x=[49] then .ok 1 else if x=[50] then .ok 2 else if x=[51] then .ok 3 else if x=[52] then .ok 4 else .ok 5)=.ok (min (dn.val x) 5):=by
 have a:∀(y:List UInt8) (n:Nat),Doc.digits y=true->dn.val y=n->dn.val x=n->x=y:=fun y n i j k=>Doc.EL h i (k.trans j.symm)
 by_cases b:x=[48]
 ·rw[if_pos b,b];rfl
 ·rw[if_neg b]
  by_cases c:x=[49]
  ·rw[if_pos c,c];rfl
  ·rw[if_neg c]
   by_cases d:x=[50]
   ·rw[if_pos d,d];rfl
   ·rw[if_neg d]
    by_cases f:x=[51]
    ·rw[if_pos f,f];rfl
    ·rw[if_neg f]
     by_cases g:x=[52]
     ·rw[if_pos g,g];rfl
     ·rw[if_neg g];have l:dn.val x≠0:=fun e=>b (a [48] 0 aR aR e);have m:dn.val x≠1:=fun e=>c (a [49] 1 aR aR e);have o:dn.val x≠2:=fun e=>d (a [50] 2 aR aR e);have p:dn.val x≠3:=fun e=>f (a [51] 3 aR aR e);have q:dn.val x≠4:=fun e=>g (a [52] 4 aR aR e);rw[show min (dn.val x) 5=5 by omega]
theorem count_eq (p:Nat)(a:List Doc.Tr):Doc.count p a=match countP p a with|.error x=>.error x|.ok n=>.ok (min n 5):=by
 unfold Doc.count countP
 match a with
 | []=>rfl
 | [_]=>rfl
 | [_,k]=>
  show(if Doc.digits k.text=true then _ else _)=match (if Doc.digits k.text=true then Except.ok (numOf k.text) else Except.error (4,k.pos)) with|.error x=>(Except.error x:Except (Nat × Nat) Nat)|.ok n=>Except.ok (min n 5)
  cases hd:Doc.digits k.text
  ·rfl
  ·simp only[if_true];rw[Tq hd,xh hd]
 | _::_::_::a=>
  rw[if_pos aP]
theorem ZI {S:Doc.dB}:(match countP n A with|.error x=>.error x|.ok a=>if a+S.levels.length<=4 then .ok (dB.lv S a) else .error (9,n))=Doc.push S n A:=by
 unfold Doc.push;rw[count_eq];cases countP n A with
 | error x=>rfl
 | ok a=>
  simp only
  by_cases h:a+S.levels.length<=4
  ·rw[if_pos h,if_neg aO,show min a 5=a by omega];rfl
  ·rw[if_neg h,if_pos aO]
theorem aaD {S:Doc.dB}(d:Doc.fQ S)(h:n<=S.levels.length):Doc.uk n S=xM n S:=by
 unfold xM
 by_cases a:n=0
 ·rw[if_pos a,a];rfl
 ·rw[if_neg a];obtain⟨L,l,R,b,c,e⟩:=Doc.GJ (S:=S) (n:=n) aO h;rw[<-c,Doc.Ns R S L l d b];have f:S.levels.length-(R.length+1)=L.length:=by rw[c,e]
  rw[f,b]
  congr 1
  ·rw[List.getD_eq_getElem?_getD,List.getElem?_append_right ae];exact aP
  ·exact aP
theorem aaC {S:Doc.dB}(b:Doc.fQ S):(match countP n A with|.error x=>.error x|.ok a=>if a<=S.levels.length then .ok (xM a S) else .error (10,n))=Doc.pop S n A:=by
 have c:=b.rY;unfold Doc.pop;rw[count_eq];cases countP n A with
 | error x=>rfl
 | ok a=>
  simp only
  by_cases h:a<=S.levels.length
  ·rw[if_pos h,if_neg aO,show min a 5=a by omega,aaD b h]
  ·rw[if_neg h,if_pos aO]
theorem EN (b f p:Nat)(own:Own)(g:List Doc.Item)(a:List Doc.Tr)(w:World)(h:gQ w own b f g p a)(o:a.length≠4) :
 Calls Tryz.prog 119 #[.pointer (some ⟨b,0,none⟩)] w fun i q=>i=.returned (.agg #[.int .i64 4,.int .i64 (p:Nat)])/\Below w.heap.size w q:=by
 obtain⟨D,E,r,j⟩:=h.ins;have s:=h.ord.lt;obtain⟨k,t,F⟩:=gG j.ints;rw[<-k]at t;obtain⟨l,c⟩:=eB.start w;have u:=di l;have m:=di c;have G:=(c.cell (p:=⟨b,2,none⟩) s).trans r;have v:=di (iV b f p 4 own g a _ (h.below c));have H:((a.length:Int) !=4)=true:=aQ;clear k j h c l;generalize a.length=L at *;clear o;go_enter Tryz.func119,Tryz.ntmps119;go_wp2_with fail;refine v.o.mono ?_;rintro i I ⟨rfl,e⟩;have d:=u.o.below e;have x:=di (m.o.trans (e.mono m.o.size));have y:=d.c0;have z:=d.c1;have J:=d.fr;obtain⟨K,M,A,B,n⟩:=iY y z (.int .i64 4) (.int .i64 (p:Int));have C:=di (x.o.trans n);clear e d n;go_wp2_with fail;exact bodyPost_ret (v:=.agg #[.int .i64 4,.int .i64 (p:Int)]) (by simp[results,Tryz.results119,go_sem,A,B]) rfl ⟨rfl,C.o⟩
theorem K8 (f d p k:Nat)(own:Own)(h:List Doc.Item)(c:List Doc.Tr)(S:Doc.dB)(w:World)(j:gQ w own f d h p c)(l:dA w own k d S)(m:dH own w)(A:k≠0)(q:Doc.fQ S)(r:Doc.oks c)(s:Doc.eu c<=800) :
 Calls Tryz.prog 81 #[.pointer (some ⟨f,0,none⟩)] w fun t B=>gF w B own k d S (Doc.declare S p c) t:=by
 by_cases g:c.length=4
 ·rw[Doc.qO g];exact qO f d p k own h c _ _ _ S w j l m A q g (aD aO) (aD aO) (aD aO) r s
 ·rw[Doc.C8 g];obtain⟨b,u⟩:∃b,w.alloc (.cells #[.int .i64 0,.int .i64 0] 64)=b:=⟨_,rfl⟩;obtain⟨n,a⟩:=eB.start w;rw[u]at n a;have M:b.heap.size=w.heap.size+1:=by rw[<-u];simp
  have C:=di n;have v:Hid (Fr own (dw own w.heap.size (k+1)) k w b):=Fr.boxed m a ae aO;have D:Hid (dA b (dw own w.heap.size (k+1)) k d S):=l.boxed a ae;have x:gQ b (dw own w.heap.size (k+1)) f d h p c:=j.boxed a ae;have E:Hid (dw own w.heap.size (k+1) w.heap.size≠k):=bR;have F:=di (EN f d p _ h c b x g);clear j l m n a q x r s g;go_enter Tryz.func81,Tryz.ntmps81;go_wp2_with fail;refine F.o.mono ?_;rintro t e ⟨rfl,a⟩;have N:=a.size;have G:Hid (Below b.heap.size b (e.alloc (.cells #[.int .i64 4,.int .i64 (p:Int)] 64))):=a.alloc a.size _;have O:(e.alloc (.cells #[.int .i64 4,.int .i64 (p:Int)] 64)).cell? ⟨e.heap.size,0,none⟩=some (.int .i64 4):=aP;have P:(e.alloc (.cells #[.int .i64 4,.int .i64 (p:Int)] 64)).cell? ⟨e.heap.size,1,none⟩=some (.int .i64 (p:Int)):=aP;clear a;go_upto_region 2 with fail
  generalize e.alloc (.cells #[.int .i64 4,.int .i64 (p:Int)] 64)=Q at *;have o:=gF.fault (a:=4) (b:=p) v.o.dJ D.o G.o aO;have i:=o.fb C.o E.o;have H:=i.c0;have I:=i.c1;have R:=i.fr;obtain⟨T,U,J,K,y,z⟩:=dL H I (.int .i64 4) (.int .i64 (p:Int));have L:=di (o.dU v.o ae aO y z);clear o i y z;go_wp2_with fail;exact bodyPost_ret (v:=.agg #[.int .i64 4,.int .i64 (p:Int)]) (by simp[results,Tryz.results81,go_sem,J,K]) rfl L.o
end Go.Proofs.YtbichedkajfmiaaGreatDoor
namespace Doc
variable {r:List Tr}{s:Str}
theorem JG {x:Nat × Nat}(h:parse s=.error x):x.1≠0:=by
 unfold parse at h;split at h
 ·split at h
  ·rename_i e p a;injection h with h;rw[<-h];have:=zo s 12 _ e p a;exact ajF
  ·split at h
   ·injection h with h;exact ai4
   ·cases h
 ·injection h with h;exact ai4
mutual
theorem EI:∀(t:Tr) (b:Nat),(flat t b).length<=t.width+1
 | .word p w,b=>by simp[flat]
 | .list p a,b=>by have:=CY a (b+1);simp only[flat,List.length_cons,Tr.width];omega
theorem CY:∀(a:List Tr) (b:Nat),(fD a b).length<=eu a
 | [],b=>by simp[fD]
 | k::a,b=>by
  have c:=EI k b;have d:=CY a (b+(flat k b).length);simp only[fD,List.length_append,eu];exact aO
end
theorem Jv {S:dB}{p:Nat}{a:Tr}(h:r[0]?=some a):run S p r=(
 if a.text=fV then(declare S p r).map (fun s=>(s,false))
 else if a.text=iM then(assert S p r).map (fun s=>(s,false))
 else if a.text=nZ then(push S p r).map (fun s=>(s,false))
 else if a.text=xK then(pop S p r).map (fun s=>(s,false))
 else if a.text=mW then(if r.length=1 then .ok (S,true) else .error (4,p))
 else if a.text=yz then(if r.length=1 then .ok (dB.empty,false) else .error (4,p))
 else .error (4,a.pos)):=by
 cases r with
 | nil=>simp at h
 | cons k rest=>
  simp at h;subst h;unfold run;simp only
  have b:(if 0<rest.length then(.error (4,p):Except (Nat × Nat) (dB × Bool)) else .ok (S,true))=if (k::rest).length=1 then .ok (S,true) else .error (4,p):=by
   cases rest<;>rfl
  have c:(if 0<rest.length then(.error (4,p):Except (Nat × Nat) (dB × Bool)) else .ok (⟨[],[],[],[]⟩,false))=if (k::rest).length=1 then .ok (dB.empty,false) else .error (4,p):=by
   cases rest<;>rfl
  rw[b,c]
end Doc
namespace Go.Proofs.YtbichedkajfmiaaGreatDoor
open Go.RowKit
variable {W u w:World}{h:Ending}{m n:Nat}{v:Value}
theorem Qh (b a c:Value)(w:World):(Instr.field 129 (.agg #[b,a,c]) 1).run Tryz.prog w=.ok a w:=by
 first
 | (simp[Instr.field,run_underlying Tryz.underlying129,go_sem];done)
 | kernel_rfl
def Qy (w w':World)(own:Own)(k sb:Nat)(S:Doc.dB)(R:Except (Nat × Nat) (Doc.dB × Bool))(e:Ending):Prop:=
 ∃own',Fr own own' k w w'/\match R with
  | .ok r=>e=.returned (.tuple #[.bool r.2,.agg #[.int .i64 0,.int .i64 0]])/\dA w' own' k sb r.1
  | .error x=>e=.returned (.tuple #[.bool false,.agg #[.int .i64 (x.1:Nat),.int .i64 (x.2:Nat)]])/\x.1≠0/\dA w' own' k sb S
def AY (S:Doc.dB)(l:List UInt8):Except (Nat × Nat) (Doc.dB × Bool):=match Doc.parse l with
 | .error x=>.error x
 | .ok t=>Doc.run S t.pos t.kids
theorem gF.lift {own:Own}{S:Doc.dB}{R:Except (Nat × Nat) Doc.dB}(a:dH own w)(b:Below w.heap.size w W)(c:gF W u own n m S R h):gF w u own n m S R h:=by
 exact alI
theorem gF.run {own:Own}{S:Doc.dB}{R:Except (Nat × Nat) Doc.dB}(h:gF w W own n m S R (.returned v)):Qy w W own n m S (R.map (fun s=>(s,false))) (.returned (.tuple #[.bool false,v])):=by
 obtain⟨c,d,b⟩:=h;refine⟨c,d,?_⟩;cases R with
 | ok r=>
  obtain⟨e,a⟩:=b;injection e with e
  subst e;exact⟨rfl,a⟩
 | error x=>
  obtain⟨e,f,a⟩:=b;injection e with e
  subst e;exact⟨rfl,f,a⟩
theorem gF.err {own:Own}{S:Doc.dB}{x:Nat × Nat}(h:gF w W own n m S (.error x) (.returned v)):Qy w W own n m S (.error x) (.returned (.tuple #[.bool false,v])):=h.run
theorem gF.chk {own:Own}{S:Doc.dB}(h:gF w W own n m S (.ok S) (.returned (.agg #[.int .i64 0,.int .i64 0]))):Qy w W own n m S (.ok (S,true)) (.returned (.tuple #[.bool true,.agg #[.int .i64 0,.int .i64 0]])):=by
 obtain⟨a,b,c⟩:=h;exact⟨a,b,rfl,c.2⟩
theorem aak (n k:Nat)(own:Own)(S:Doc.dB)(bA:List UInt8)(w:World)(hS:dA w own k n S)(hfr:dH own w)(hk:k≠0)(hw:Doc.fQ S)(hg:eU w)(hg0:∀b,b<2->own b=0)(hl:bA.length<=400) :
 Calls Tryz.prog 32 #[.pointer (some ⟨n,0,none⟩),.string ⟨bA.toArray⟩] w fun q w'=>Qy w w' own k n S (AY S bA) q:=by
 obtain⟨J,hW0⟩:∃J,w.alloc (.cells #[.int .i64 0,.int .i64 0] 64)=J:=⟨_,rfl⟩;obtain⟨d,hb0⟩:=eB.start w;rw[hW0]at d hb0;have hsz:J.heap.size=w.heap.size+1:=by rw[<-hW0];simp
 have P:=di d;have G:Hid (Fr own (dw own w.heap.size (k+1)) k w J):=Fr.boxed hfr hb0 ae aO;have LG:Hid (dA J (dw own w.heap.size (k+1)) k n S):=hS.boxed hb0 ae;have Q:Hid (dw own w.heap.size (k+1) w.heap.size≠k):=bR;have hgs:=hg.size;have afS:Hid (∀b,b<2->dw own w.heap.size (k+1) b=0):=fun b T=>by unfold dw;rw[if_neg aO];exact hg0 b T
 have Y5:Hid (eU J):=hg.ed (fun b T hlt=>hb0.block b hlt);have rM:=di (Xj bA J aO);rw[Doc.OT]at rM;unfold AY;clear hS hfr hg hg0 d hb0;cases U:Doc.parse bA with
 | error x=>
  obtain⟨V,x2⟩:=x;have hne:=Doc.JG U;simp only at hne;rw[U]at rM;have hen:((V:Int) !=0)=true:=aZ;clear U;simp only;go_enter Tryz.func32,Tryz.ntmps32;go_wp2_with fail;refine rM.o.mono ?_;rintro q j ⟨hrd,hb1⟩;have ad6:q=.returned (.tuple #[.slice none 0 0,.agg #[.int .i64 (V:Nat),.int .i64 (x2:Nat)]]):=hrd;subst ad6;have HC:Hid (Below J.heap.size J (j.alloc (.cells #[.int .i64 (V:Int),.int .i64 (x2:Int)] 64))):=hb1.alloc hb1.size _;have f0:(j.alloc (.cells #[.int .i64 (V:Int),.int .i64 (x2:Int)] 64)).cell? ⟨j.heap.size,0,none⟩=some (.int .i64 (V:Int)):=aP;have f1:(j.alloc (.cells #[.int .i64 (V:Int),.int .i64 (x2:Int)] 64)).cell? ⟨j.heap.size,1,none⟩=some (.int .i64 (x2:Int)):=aP;clear hrd hb1;go_upto_region 2 with fail
  generalize j.alloc (.cells #[.int .i64 (V:Int),.int .i64 (x2:Int)] 64)=wa at *;have e:=gF.fault (a:=V) (b:=x2) G.o.dJ LG.o HC.o hne;have rG:=e.fb P.o Q.o;have r:=rG.c0;have s:=rG.c1;have cf:=rG.fr;obtain⟨wz,hwz,t,u,h,i⟩:=dL r s (.int .i64 (V:Int)) (.int .i64 (x2:Int));have v:=di (e.dU G.o ae aO h i).drew;clear e rG h i;go_upto_region 3 with fail;go_region
  all_goals
   go_wp2_with fail;exact bodyPost_ret (v:=.tuple #[.bool false,.agg #[.int .i64 (V:Int),.int .i64 (x2:Int)]]) bU rfl v.o.err
 | ok bB=>
  have abd:=Doc.JF U;obtain⟨p,a,rfl,Kz,PE⟩:=Doc.zy U;rw[U]at rM;have Kq:Doc.eu a<=800:=aO;have hin:∀bB∈a,Doc.within 11 bB:=abd;have abk:=Doc.EI (.list p a) 0;simp only[Doc.Tr.width]at abk;simp only[Doc.Tr.pos,Doc.Tr.kids];obtain⟨R,hR⟩:=aJ (Doc.run S p a);have HR:=di hR;rw[hR];clear U abd PE hR;have hlies:=Doc.kF.top (.list p a);obtain⟨y,hits⟩:=aJ (Doc.flat (.list p a) 0);rw[hits]at hlies abk;simp only[hits]at rM;clear hits;have C:=di (⟨hlies,hin,Kz,Kq,hw⟩:Doc.kF y 0 (.list p a)/\(∀bB∈a,Doc.within 11 bB)/\Doc.oks a/\Doc.eu a<=800/\Doc.fQ S);clear hlies hin Kz Kq hw;go_enter Tryz.func32,Tryz.ntmps32;go_wp2_with fail;refine rM.o.mono ?_;rintro q j ⟨hrd,hb1⟩;obtain⟨bG,hrd,Wm,aeb⟩:=hrd;subst hrd;obtain⟨aI,cI,rfl,_⟩:=id Wm;have W:=hb1.size;obtain⟨c,ED⟩:=eB.start j;obtain⟨W2,hW2⟩:∃W2,j.alloc (.cells #[.int .i64 0,.int .i64 0] 64)=W2:=⟨_,rfl⟩;rw[hW2]at c ED;have hsz2:W2.heap.size=j.heap.size+1:=by rw[<-hW2];simp
  have f0:=c.c0;have Ca:=di c;have KL:Below J.heap.size J W2:=hb1.trans (ED.mono hb1.size);have z:Hid (Fr (dw own w.heap.size (k+1)) (dw (dw own w.heap.size (k+1)) j.heap.size (k+1)) k J W2):=Fr.boxed G.o.dJ KL W aO;have HS2:Hid (dA W2 (dw (dw own w.heap.size (k+1)) j.heap.size (k+1)) k n S):=LG.o.boxed KL W;have Ce:Hid (dw (dw own w.heap.size (k+1)) j.heap.size (k+1) j.heap.size≠k):=bR
  have HG2:Hid (eU W2/\∀b,b<2->dw (dw own w.heap.size (k+1)) j.heap.size (k+1) b=0):=⟨Y5.o.ed (fun b T hlt=>KL.block b hlt),fun b T=>by
   have:=afS.o b T;show(if b=j.heap.size then k+1 else dw own w.heap.size (k+1) b)=0;rw[if_neg aO];exact this⟩
  have HIR:Hid (qm W2 (dw (dw own w.heap.size (k+1)) j.heap.size (k+1)) (.slice aI y.length cI) y):=
   qm.step (w:=j) (own:=dw own w.heap.size (k+1)) (fun b T h0=>⟨ED.block b T,by show(if b=j.heap.size then k+1 else dw own w.heap.size (k+1) b)=0;rw[if_neg aO];exact h0⟩) (fA.imp Wm fun bD bH hi U=>⟨G.o.dJ bD U.1,U.2⟩)
  have Q7:=di KL;have XI:=di (BO (b:=0) (p:=p) (ks:=a) HIR.o.items C.o.1 aO z.o.dJ);clear hb1 Wm aeb c ED KL;obtain⟨zB,ho2⟩:=aJ (dw (dw own w.heap.size (k+1)) j.heap.size (k+1));have HW2:=di hW2;clear hW2;go_upto_region 2 with fail
  rw[HW2.o];go_wp2_with fail;refine XI.o.mono ?_;rintro q L ⟨⟨bn,bq,rfl,hro⟩,hb3⟩;obtain⟨oU,kk1,kk2⟩:=gG hro.ints;rw[<-oU]at kk1;clear oU;have hs3:=hb3.size;have hb4:Below L.heap.size L (L.alloc (.cells #[.pointer (some ⟨n,0,none⟩),.slice aI y.length cI,.slice bn a.length bq] 126)):=ag;have P6:=hb3.trans (hb4.mono hb3.size)
  have hc4:gQ (L.alloc (.cells #[.pointer (some ⟨n,0,none⟩),.slice aI y.length cI,.slice bn a.length bq] 126)) (dw (dw own w.heap.size (k+1)) j.heap.size (k+1)) L.heap.size n y p a:=
   ⟨⟨aP,⟨_,aP,HIR.o.step (fun b T h0=>⟨P6.block b T,h0⟩)⟩,z.o.dJ _ hs3,HG2.o.1.ed (fun b T hlt=>P6.block b hlt),HG2.o.2⟩,⟨bn,bq,aP,hro.below hb4⟩,C.o.1,by have:=C.o.2.2.2.1;omega⟩
  have o2:(L.alloc (.cells #[.pointer (some ⟨n,0,none⟩),.slice aI y.length cI,.slice bn a.length bq] 126)).cell? ⟨L.heap.size,2,none⟩=some (.slice bn a.length bq):=aP;have Q5:=di P6;have uM:=di hc4;obtain⟨X,X9⟩:=aJ L.heap.size;have hs4:(L.alloc (.cells #[.pointer (some ⟨n,0,none⟩),.slice aI y.length cI,.slice bn a.length bq] 126)).heap.size=L.heap.size+1:=aP;clear hro hb3 hb4 P6 hc4 ho2 zB;go_upto_region 5 with fail
  generalize L.alloc (.cells #[.pointer (some ⟨n,0,none⟩),.slice aI y.length cI,.slice bn a.length bq] 126)=W4 at *;simp only[X9]at *
  by_cases h0:a.length=0
  ·have hnil:a=[]:=List.length_eq_zero_iff.1 h0;have B:Hid (R=.error (4,p)):=by show _=_;rw[<-HR.o,hnil];rfl
   have y9:=di (iV X n p 4 _ y a W4 uM.o);have tl:((a.length:Int)==0)=true:=by rw[h0];rfl
   clear hnil h0;generalize a.length=bI at *;go_wp2_with fail;refine y9.o.mono ?_;rintro q M ⟨rfl,hb5⟩;have e:=gF.fault (a:=4) (b:=p) G.o.dJ LG.o ((Q7.o.trans (Q5.o.mono Q7.o.size)).trans (hb5.mono (Q7.o.trans (Q5.o.mono Q7.o.size)).size)) aO;have rG:=e.fb P.o Q.o;have r:=rG.c0;have s:=rG.c1;have cf:=rG.fr;obtain⟨wz,hwz,t,u,h,i⟩:=dL r s (.int .i64 4) (.int .i64 (p:Int));have v:=di (e.dU G.o ae aO h i);clear e rG h i hb5;go_wp2_with fail;exact bodyPost_ret (v:=.tuple #[.bool false,.agg #[.int .i64 4,.int .i64 (p:Int)]]) bU rfl akx
  ·have hpos:0<a.length:=aO;obtain⟨k0,hk0⟩:∃k0,a[0]?=some k0:=⟨_,aD hpos⟩;obtain⟨_,gk0⟩:=List.getElem?_eq_some_iff.1 hk0;have Y:=di (fun bC (hW:Below W4.heap.size W4 bC)=>nM X n p 0 _ y a bC (uM.o.below hW) hpos);rw[gk0]at Y;have H:Hid (R=_):=HR.o.symm.trans (Doc.Jv (S:=S) (p:=p) hk0);have tl:((a.length:Int)==0)=false:=aj aO;obtain⟨abQ,hf0⟩:=aJ (Doc.start a 1 0+(Doc.flat k0 (Doc.start a 1 0)).length);rw[hf0]at Y;clear hf0 gk0 hk0 h0;generalize k0.pos=ps at *;generalize k0.text=x at *;have ahp:=Qh (.int .i64 (ps:Int)) (.string ⟨x.toArray⟩) (.int .i64 (abQ:Int));have aer:=uY (.int .i64 (ps:Int)) (.string ⟨x.toArray⟩) (.int .i64 (abQ:Int));go_wp2_with fail;refine(Y.o _ af).mono ?_;rintro q M ⟨rfl,hb5⟩;have agm:=di hb5;have Z:=di (Q5.o.trans (hb5.mono Q5.o.size));have Cb:=di (uM.o.below hb5);have mh:=di (HS2.o.below Z.o);have Ih:Hid (dH (dw (dw own w.heap.size (k+1)) j.heap.size (k+1)) M):=fun bF hc=>z.o.dJ bF (Nat.le_trans Z.o.size hc);have ag7:¬(w.heap.size=j.heap.size):=aO;have agE:¬(j.heap.size=w.heap.size):=aO;clear hb5 o2 f0
   by_cases D:x=[100,101,99,108,97,114,101,45,102,117,110]
   ·have B:Hid (R=(Doc.declare S p a).map (fun bg=>(bg,false))):=by
     show _=_;rw[H.o];rw[if_pos (show x=Doc.fV from D)]
    have HCM:=di (K8 X n p k _ y a S M Cb.o mh.o Ih.o hk C.o.2.2.2.2 C.o.2.2.1 C.o.2.2.2.1);clear H Y;subst D;exact akP
   ·skip
    by_cases I:x=[97,115,115,101,114,116]
    ·have B:Hid (R=(Doc.assert S p a).map (fun bg=>(bg,false))):=by
      show _=_;rw[H.o];rw[if_neg (show ¬x=Doc.fV from D)];rw[if_pos (show x=Doc.iM from I)]
     have HCM:=di (Nh X n p k _ y a S M Cb.o mh.o Ih.o hk C.o.2.2.2.2 C.o.2.1 C.o.2.2.1 C.o.2.2.2.1);clear H Y;clear D;subst I;exact akP
    ·skip
     by_cases N:x=[112,117,115,104]
     ·have B:Hid (R=(Doc.push S p a).map (fun bg=>(bg,false))):=by
       show _=_;rw[H.o];rw[if_neg (show ¬x=Doc.fV from D)];rw[if_neg (show ¬x=Doc.iM from I)];rw[if_pos (show x=Doc.nZ from N)]
      have HCM:=di ((Tz X n p k _ y a S M Cb.o mh.o Ih.o hk C.o.2.2.2.2 C.o.2.2.2.1).mono (fun q K (hh:gF _ _ _ _ _ _ _ _)=>show gF M K _ k n S (Doc.push S p a) q by rw[<-ZI];exact hh));clear H Y;clear D;clear I;subst N;exact akP
     ·skip
      by_cases zL:x=[112,111,112]
      ·have B:Hid (R=(Doc.pop S p a).map (fun bg=>(bg,false))):=by
        show _=_;rw[H.o];rw[if_neg (show ¬x=Doc.fV from D)];rw[if_neg (show ¬x=Doc.iM from I)];rw[if_neg (show ¬x=Doc.nZ from N)];rw[if_pos (show x=Doc.xK from zL)]
       have HCM:=di ((W9 X n p k _ y a S M Cb.o mh.o Ih.o hk C.o.2.2.2.2 C.o.2.2.2.1).mono (fun q K (hh:gF _ _ _ _ _ _ _ _)=>show gF M K _ k n S (Doc.pop S p a) q by rw[<-aaC C.o.2.2.2.2];exact hh));clear H Y;clear D;clear I;clear N;subst zL;exact akP
      ·skip
       by_cases kC:x=[99,104,101,99,107,45,115,97,116]
       ·have Io:=di (Hy X n p _ y a M Cb.o)
        have HR2:Hid (R=if a.length=1 then .ok (S,true) else .error (4,p)):=by
         show _=_;rw[H.o];rw[if_neg (show ¬x=Doc.fV from D)];rw[if_neg (show ¬x=Doc.iM from I)];rw[if_neg (show ¬x=Doc.nZ from N)];rw[if_neg (show ¬x=Doc.xK from zL)];rw[if_pos (show x=Doc.mW from kC)]
        clear H Y;clear D;clear I;clear N;clear zL;subst kC
        by_cases O:a.length=1
        ·have B:Hid (R=.ok (S,true)):=by show _=_;rw[HR2.o,if_pos O]
         rw[if_pos O]at Io;clear O HR2;go_wp2_with fail;refine Io.o.mono ?_;rintro q K ⟨rfl,hb6⟩;have e:gF M K (dw (dw own w.heap.size (k+1)) j.heap.size (k+1)) k n S (.ok S) (.returned (.agg #[.int .i64 0,.int .i64 0])):=⟨_,Fr.of_below k Ih.o hb6,rfl,mh.o.below hb6⟩;clear hb6;have f:=gF.lift z.o.dJ Z.o e;have c:=f.fb Ca.o Ce.o;have E:=c.c0;have F:=c.c1;have df:=c.fr;obtain⟨wy,yP,y0,y1,l,m⟩:=dL E F (.int .i64 (0:Int)) (.int .i64 (0:Int));have g:=f.dU z.o W aO l m;have d:=g.fb P.o Q.o;have r:=d.c0;have s:=d.c1;have cf:=d.fr;obtain⟨wz,hwz,t,u,h,i⟩:=dL r s (.int .i64 (0:Int)) (.int .i64 (0:Int));have v:=di (g.dU G.o ae aO h i).drew;clear e f c l m g d h i;go_upto_region 22 with fail;go_region
         all_goals
          go_wp2_with fail;exact bodyPost_ret (v:=.tuple #[.bool true,.agg #[.int .i64 (0:Int),.int .i64 (0:Int)]]) bU rfl (by rw[B.o];exact v.o.chk)
        ·have B:Hid (R=.error (4,p)):=by show _=_;rw[HR2.o,if_neg O]
         rw[if_neg O]at Io;clear O HR2;go_wp2_with fail;refine Io.o.mono ?_;rintro q K ⟨rfl,hb6⟩;have e:=gF.fault (a:=4) (b:=p) Ih.o mh.o hb6 aO;clear hb6;have f:=gF.lift z.o.dJ Z.o e;have c:=f.fb Ca.o Ce.o;have E:=c.c0;have F:=c.c1;have df:=c.fr;obtain⟨wy,yP,y0,y1,l,m⟩:=dL E F (.int .i64 (4:Int)) (.int .i64 (p:Int));have g:=f.dU z.o W aO l m;have d:=g.fb P.o Q.o;have r:=d.c0;have s:=d.c1;have cf:=d.fr;obtain⟨wz,hwz,t,u,h,i⟩:=dL r s (.int .i64 (4:Int)) (.int .i64 (p:Int));have v:=di (g.dU G.o ae aO h i).drew;clear e f c l m g d h i;go_upto_region 22 with fail;go_region
         all_goals
          go_wp2_with fail;exact bodyPost_ret (v:=.tuple #[.bool false,.agg #[.int .i64 (4:Int),.int .i64 (p:Int)]]) bU rfl akx
       ·skip
        by_cases nP:x=[114,101,115,101,116]
        ·have B:Hid (R=(if a.length=1 then(Except.ok Doc.dB.empty:Except (Nat × Nat) Doc.dB) else .error (4,p)).map (fun bg=>(bg,false))):=by
          show _=_;rw[H.o];rw[if_neg (show ¬x=Doc.fV from D)];rw[if_neg (show ¬x=Doc.iM from I)];rw[if_neg (show ¬x=Doc.nZ from N)];rw[if_neg (show ¬x=Doc.xK from zL)];rw[if_neg (show ¬x=Doc.mW from kC)];rw[if_pos (show x=Doc.yz from nP)]
          by_cases O:a.length=1
          ·rw[if_pos O,if_pos O];rfl
          ·rw[if_neg O,if_neg O];rfl
         have HCM:=di (RO X n p k _ y a S M Cb.o mh.o Ih.o hk);clear H Y;clear D;clear I;clear N;clear zL;clear kC;subst nP;exact akP
        ·skip
         have B:Hid (R=.error (4,ps)):=by
          show _=_;rw[H.o];rw[if_neg (show ¬x=Doc.fV from D)];rw[if_neg (show ¬x=Doc.iM from I)];rw[if_neg (show ¬x=Doc.nZ from N)];rw[if_neg (show ¬x=Doc.xK from zL)];rw[if_neg (show ¬x=Doc.mW from kC)];rw[if_neg (show ¬x=Doc.yz from nP)]
         have UQ:(x==[100,101,99,108,97,114,101,45,102,117,110])=false:=by simpa using D
         have Zr:(x==[97,115,115,101,114,116])=false:=by simpa using I
         have acU:(x==[112,117,115,104])=false:=by simpa using N
         have adJ:(x==[112,111,112])=false:=by simpa using zL
         have aat:(x==[99,104,101,99,107,45,115,97,116])=false:=by simpa using kC
         have aas:(x==[114,101,115,101,116])=false:=by simpa using nP
         clear D;clear I;clear N;clear zL;clear kC;clear nP;clear H;go_wp2_with fail;refine(Y.o _ agm.o).mono ?_;rintro q K ⟨rfl,hb6⟩;have e:=gF.fault (a:=4) (b:=ps) Ih.o mh.o hb6 aO;clear hb6;have f:=gF.lift z.o.dJ Z.o e;have c:=f.fb Ca.o Ce.o;have E:=c.c0;have F:=c.c1;have df:=c.fr;obtain⟨wy,yP,y0,y1,l,m⟩:=dL E F (.int .i64 (4:Int)) (.int .i64 (ps:Int));have g:=f.dU z.o W aO l m;have d:=g.fb P.o Q.o;have r:=d.c0;have s:=d.c1;have cf:=d.fr;obtain⟨wz,hwz,t,u,h,i⟩:=dL r s (.int .i64 (4:Int)) (.int .i64 (ps:Int));have v:=di (g.dU G.o ae aO h i).drew;clear e f c l m g d h i;go_upto_region 22 with fail;go_region
         all_goals
          go_wp2_with fail;exact bodyPost_ret (v:=.tuple #[.bool false,.agg #[.int .i64 (4:Int),.int .i64 (ps:Int)]]) bU rfl akx
def rep (e p v s:Int):Value:=.agg #[.int .i64 e,.int .i64 p,.int .i64 v,.slice none 0 0,.string ⟨#[]⟩,.int .i64 s]
theorem dA.new {own:Own}:dA (w.alloc (.cells #[.slice none 0 0,.slice none 0 0,.slice none 0 0,.slice none 0 0] 62)) (dw own w.heap.size n) n w.heap.size Doc.dB.empty:=
 ⟨aiN,⟨#[.slice none 0 0,.slice none 0 0,.slice none 0 0,.slice none 0 0],by first|(simp;done)|(simp[World.heap_alloc];done)|(show(w.heap.push _)[w.heap.size]?=_;rw[Array.getElem?_push_size])⟩,fun o=>aP,⟨.slice none 0 0,aP,dN.nil _ _ _ _ _ _⟩,⟨.slice none 0 0,aP,dN.nil _ _ _ _ _ _⟩,⟨.slice none 0 0,aP,dN.nil _ _ _ _ _ _⟩,⟨.slice none 0 0,aP,dN.nil _ _ _ _ _ _⟩⟩
theorem NY (k:Nat)(own:Own)(w:World) :
 Calls Tryz.prog 17 #[] w fun e a=>e=.returned (.pointer (some ⟨w.heap.size,0,none⟩))/\Below w.heap.size w a/\a.heap.size=w.heap.size+1/\dA a (dw own w.heap.size k) k w.heap.size Doc.dB.empty:=by
 go_enter Tryz.func17,Tryz.ntmps17;go_wp2_with fail;go_ret;exact⟨rfl,ag,aP,dA.new⟩
theorem OQ (a k:Nat)(own:Own)(S:Doc.dB)(w:World)(b:dA w own k a S) :
 Calls Tryz.prog 49 #[.pointer (some ⟨a,0,none⟩)] w fun e d=>e=.returned (.int .i64 S.levels.length)/\d=w:=by
 have f:=di (UF a k own S w b);clear b;go_enter Tryz.func49,Tryz.ntmps49;go_wp2_with fail;refine f.o.mono ?_;rintro e g ⟨rfl,c⟩;rw[c];clear c;go_wp2_with fail;go_ret;exact⟨rfl,rfl⟩
theorem RF (a k:Nat)(own:Own)(S:Doc.dB)(w:World)(b:dA w own k a S) :
 Calls Tryz.prog 50 #[.pointer (some ⟨a,0,none⟩)] w fun e d=>e=.returned (.int .i64 S.held.length)/\d=w:=by
 obtain⟨v,f,c⟩:=b.held;obtain⟨g,h,rfl,i,j⟩:=c.form;clear b c;go_enter Tryz.func50,Tryz.ntmps50;go_wp2_with fail;go_ret;exact⟨rfl,rfl⟩
theorem Eh (a k:Nat)(own:Own)(S:Doc.dB)(w:World)(b:dA w own k a S)(c:dH own w)(d:k≠0)(e:Doc.fQ S)(f:eU w) :
 Calls Tryz.prog 19 #[.pointer (some ⟨a,0,none⟩)] w fun g i=>g=.returned (.string ⟨(Doc.print S).toArray⟩)/\Below w.heap.size w i:=by
 have j:=di (QB a k own S w b c d e f);generalize Doc.print S=m at *;clear b c d e f;go_enter Tryz.func19,Tryz.ntmps19;go_wp2_with fail;refine j.o.mono ?_;rintro g n ⟨rfl,h⟩;have l:=di h;clear h;go_wp2_with fail;go_ret;exact⟨rfl,l.o⟩
theorem Ju (v:Value)(x:List UInt8)(w:World) :
 Calls Tryz.prog 42 #[v,.string ⟨x.toArray⟩] w fun e a=>e=.returned (.bool false)/\a=w:=by
 go_enter Tryz.func42,Tryz.ntmps42;go_wp2_with fail;go_ret;exact⟨rfl,rfl⟩
theorem OP (v u:Value)(w:World) :
 Calls Tryz.prog 45 #[v,u] w fun e a=>e=.returned (.tuple #[.bool false,.int .i64 0])/\a=w:=by
 go_enter Tryz.func45,Tryz.ntmps45;go_wp2_with fail;go_ret2;exact⟨rfl,rfl⟩
theorem aax (v:Value)(w:World) :
 Calls Tryz.prog 98 #[v] w fun e a=>e=.returned (.bool false)/\a=w:=by
 go_enter Tryz.func98,Tryz.ntmps98;go_wp2_with fail;go_ret;exact⟨rfl,rfl⟩
theorem acR (v:Value)(w:World) :
 Calls Tryz.prog 100 #[v] w fun e a=>e=.returned (rep 11 0 0 0)/\Below w.heap.size w a:=by
 have b:Hid (Below w.heap.size w (w.alloc (.cells #[.int .i64 11,.int .i64 0,.int .i64 0,.slice none 0 0,.string ⟨#[]⟩,.int .i64 0] 40))):=ag;go_enter Tryz.func100,Tryz.ntmps100;go_wp2_with fail;exact bodyPost_ret (v:=rep 11 0 0 0) (by simp[rep,results,Tryz.results100,go_sem]) rfl ⟨rfl,b.o⟩
theorem Tw (b:Int)(w:World)(d:0<=b)(f:b<=8192) :
 Calls Tryz.prog 33 #[.int .i64 b] w fun e a=>e=.returned (rep 0 0 3 (b+1))/\Below w.heap.size w a:=by
 have c:Hid (Below w.heap.size w (w.alloc (.cells #[.int .i64 0,.int .i64 0,.int .i64 3,.slice none 0 0,.string ⟨#[]⟩,.int .i64 (b+1)] 40))):=ag;go_enter Tryz.func33,Tryz.ntmps33;go_wp2_with fail;exact bodyPost_ret (v:=rep 0 0 3 (b+1)) (by simp[rep,results,Tryz.results33,go_sem]) rfl ⟨rfl,c.o⟩
theorem Dx {u0 u1 u2 u3 u4 u5:Value}(c:w.cell? ⟨n,0,none⟩=some u0)(t:w.cell? ⟨n,1,none⟩=some u1)(x:w.cell? ⟨n,2,none⟩=some u2)(y:w.cell? ⟨n,3,none⟩=some u3)(z:w.cell? ⟨n,4,none⟩=some u4)(A:w.cell? ⟨n,5,none⟩=some u5)(l m p q r s:Value) :
 ∃a,(((((w.setCell ⟨n,0,none⟩ l).setCell ⟨n,1,none⟩ m).setCell ⟨n,2,none⟩ p).setCell ⟨n,3,none⟩ q).setCell ⟨n,4,none⟩ r).setCell ⟨n,5,none⟩ s=a/\a.cell? ⟨n,0,none⟩=some l/\a.cell? ⟨n,1,none⟩=some m/\a.cell? ⟨n,2,none⟩=some p/\a.cell? ⟨n,3,none⟩=some q/\a.cell? ⟨n,4,none⟩=some r/\a.cell? ⟨n,5,none⟩=some s/\
  (∀(own h:Own) (k:Nat) (g:World),Fr own h k g w->g.heap.size<=n->Fr own h k g a)/\(∀(own:Own) (k i:Nat) (S:Doc.dB),dA w own k i S->own n≠0->own n≠k->dA a own k i S):=by
 have B:∀(d b:Nat),d≠b->(⟨n,d,none⟩:Addr)≠⟨n,b,none⟩:=fun d b j C=>j (by injection C);have o:∀(w:World) (d b:Nat) (v u:Value),d≠b->w.cell? ⟨n,b,none⟩=some u->(w.setCell ⟨n,d,none⟩ v).cell? ⟨n,b,none⟩=some u:=fun w d b v u j D=>(ak (B d b j)).trans D;refine⟨_,rfl,?_,?_,?_,?_,?_,?_,?_,?_⟩
 ·exact o _ 5 0 _ _ aO (o _ 4 0 _ _ aO (o _ 3 0 _ _ aO (o _ 2 0 _ _ aO (o _ 1 0 _ _ aO (World.cell?_setCell_same _ _ _ c)))))
 ·exact o _ 5 1 _ _ aO (o _ 4 1 _ _ aO (o _ 3 1 _ _ aO (o _ 2 1 _ _ aO (World.cell?_setCell_same _ _ _ (o _ 0 1 _ _ aO t)))))
 ·exact o _ 5 2 _ _ aO (o _ 4 2 _ _ aO (o _ 3 2 _ _ aO (World.cell?_setCell_same _ _ _ (o _ 1 2 _ _ aO (o _ 0 2 _ _ aO x)))))
 ·exact o _ 5 3 _ _ aO (o _ 4 3 _ _ aO (World.cell?_setCell_same _ _ _ (o _ 2 3 _ _ aO (o _ 1 3 _ _ aO (o _ 0 3 _ _ aO y)))))
 ·exact o _ 5 4 _ _ aO (World.cell?_setCell_same _ _ _ (o _ 3 4 _ _ aO (o _ 2 4 _ _ aO (o _ 1 4 _ _ aO (o _ 0 4 _ _ aO z)))))
 ·exact World.cell?_setCell_same _ _ _ (o _ 4 5 _ _ aO (o _ 3 5 _ _ aO (o _ 2 5 _ _ aO (o _ 1 5 _ _ aO (o _ 0 5 _ _ aO A)))))
 ·exact fun own h k g E e=>(((((E.setCell (p:=⟨n,0,none⟩) e _).setCell (p:=⟨n,1,none⟩) e _).setCell (p:=⟨n,2,none⟩) e _).setCell (p:=⟨n,3,none⟩) e _).setCell (p:=⟨n,4,none⟩) e _).setCell (p:=⟨n,5,none⟩) e _
 ·exact fun own k i S F c f=>(((((F.tq c f).tq c f).tq c f).tq c f).tq c f).tq c f
structure tZ (W:World)(B:Nat):Prop where
 c0:W.cell? ⟨B,0,none⟩=some (.int .i64 0)
 c1:W.cell? ⟨B,1,none⟩=some (.int .i64 0)
 c2:W.cell? ⟨B,2,none⟩=some (.int .i64 0)
 c3:W.cell? ⟨B,3,none⟩=some (.slice none 0 0)
 c4:W.cell? ⟨B,4,none⟩=some (.string ⟨#[]⟩)
 c5:W.cell? ⟨B,5,none⟩=some (.int .i64 0)
 fr:∀j,W.frozen? ⟨B,j,none⟩=false
theorem tZ.of_block (h:tZ w n)(e:W.heap[n]?=w.heap[n]?):tZ W n:=
 ⟨(World.cell?_of_block (w:=w) (a:=⟨n,0,none⟩) e).trans h.c0,(World.cell?_of_block (w:=w) (a:=⟨n,1,none⟩) e).trans h.c1,(World.cell?_of_block (w:=w) (a:=⟨n,2,none⟩) e).trans h.c2,(World.cell?_of_block (w:=w) (a:=⟨n,3,none⟩) e).trans h.c3,(World.cell?_of_block (w:=w) (a:=⟨n,4,none⟩) e).trans h.c4,(World.cell?_of_block (w:=w) (a:=⟨n,5,none⟩) e).trans h.c5,fun j=>(World.frozen?_of_block (w:=w) (a:=⟨n,j,none⟩) e).trans (h.fr j)⟩
def Hm (S:Doc.dB)(l:List UInt8)(b:Int):Value × Doc.dB:=
 if b<0\/8192<b then(rep 11 0 0 0,S)
 else match Doc.jV S l with
  | .error x=>(rep x.1 x.2 0 0,S)
  | .ok r=>if r.2=true then(rep 0 0 3 (b+1),r.1) else(rep 0 0 0 0,r.1)
end Go.Proofs.YtbichedkajfmiaaGreatDoor
