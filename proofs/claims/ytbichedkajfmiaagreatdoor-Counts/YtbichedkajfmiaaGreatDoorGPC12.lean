import Derived.Test.YtbichedkajfmiaaGreatDoorGPC8
import Derived.Test.YtbichedkajfmiaaGreatDoorGPL6
import Derived.Test.YtbichedkajfmiaaGreatDoorC
set_option maxRecDepth 100000
set_option maxHeartbeats 16000000
namespace Go.Proofs.YtbichedkajfmiaaGreatDoor
open Go.RowKit
variable {A:List Doc.Tr}{I:List Doc.Item}{O o:Own}{U W u w:World}{h:Ending}{i k m n:Nat}{l:List Nat}{v:Value}
theorem BO {b p:Nat}{ks:List Doc.Tr}{own:Own}(hi:qp w v I)(f:Doc.kF I b (.list p ks))(g:I.length<=1000000)(h:∀d,w.heap.size<=d->own d=0) :
 Calls Tryz.prog 78 #[v,.int .i64 b] w fun e a=>(∃A q,e=.returned (.slice A ks.length q)/\eD a own (.slice A ks.length q) (Doc.places ks (b+1)))/\Below w.heap.size w a:=by
 refine(QG v I b p ks w hi f g).mono ?_;rintro e a ⟨⟨u,rfl,c⟩,i⟩;have j:=Doc.zx ks (b+1);have k:eD a own u (Doc.places ks (b+1)):=yD c h;rw[j]at c;obtain⟨l,m,rfl,_,_⟩:=fM c;exact⟨⟨l,m,rfl,k⟩,i⟩
theorem ll {a:Doc.Item}(h:I[n]?=some a):qI I n=a:=by unfold qI;rw[h];rfl
theorem Gt (d c k v b q:Nat)(f:List Doc.Item)(own:Own)(S:Doc.dB)(x:List UInt8)(w:World)(y:iW w own d c f)(z:dA w own k c S)(A:dH own w)(O:k≠0)(B:Doc.gP S.syms S.terms)(C:Doc.kF f b (.word q x))(P:x≠[])(Q:x.length<=1000000) :
 Calls Tryz.prog 173 #[.pointer (some ⟨d,0,none⟩),.int .i64 b] w fun e l=>iT w l own k c S (Doc.term S.syms (v+1) (.word q x) S.terms) e:=by
 have D:Doc.term S.syms (v+1) (.word q x) S.terms=Doc.ig q (Doc.leaf S.syms S.terms x):=rfl;rw[D];obtain⟨a,g⟩:∃a,w.alloc (.cells #[.int .i64 0,.int .i64 0] 64)=a:=⟨_,rfl⟩;have m:Below w.heap.size w a:=by rw[<-g];exact af.alloc ae _
 have hsz:a.heap.size=w.heap.size+1:=by rw[<-g];simp
 have E:eB w a w.heap.size:=⟨by rw[<-g];simp,by rw[<-g];simp,fun bn=>by rw[<-g];simp⟩;have R:=di E;have s:Hid (Fr own (dw own w.heap.size (k+1)) k w a):=Fr.boxed A m ae aO;have F:dA a (dw own w.heap.size (k+1)) k c S:=z.boxed m ae;have h:iW a (dw own w.heap.size (k+1)) d c f:=y.boxed m ae;have hol:=h.lt;obtain⟨vI,hcI,t⟩:=h.items;obtain⟨T,U,rfl,_⟩:=id t;have G:=C.item;have n:=di (wR (.slice T f.length U) f b a t.items);rw[ll G]at n;simp only[Doc.Tr.pos,Doc.Tr.text]at n;obtain⟨fin,H⟩:=aJ (b+(Doc.flat (.word q x) b).length);rw[H]at n
 have V:Hid (∀W,Below a.heap.size a W->Calls Tryz.prog 222 #[.pointer (some ⟨d,0,none⟩),.agg #[.int .i64 q,.string ⟨x.toArray⟩,.int .i64 fin]] W fun e l=>iT a l (dw own w.heap.size (k+1)) k c S (Doc.ig q (Doc.leaf S.syms S.terms x)) e):=fun W o=>
  (Jd d c k q fin _ S x W (h.below o).st (F.below o) (fun X Y=>s.o.dJ X (Nat.le_trans o.size Y)) O B Q).mono (fun e l Z=>Z.lift s.o.dJ o)
 have hxe:(x==[])=false:=aj P;have uN:Hid (dw own w.heap.size (k+1) w.heap.size≠k):=bR;clear y z A B C m E F t G H D;generalize Doc.ig q (Doc.leaf S.syms S.terms x)=bq at *;have o0:=h.st;clear h;go_enter Tryz.func173,Tryz.ntmps173;go_wp2_with fail;refine n.o.mono ?_;rintro e i ⟨rfl,u⟩;have I:Below a.heap.size a (i.alloc (.cells #[.int .i64 q,.string ⟨x.toArray⟩,.int .i64 fin] 129)):=u.alloc u.size _;have J:=di I;have K:=di (ma q fin x (i.alloc (.cells #[.int .i64 q,.string ⟨x.toArray⟩,.int .i64 fin] 129)));rw[hxe]at K;clear u I;go_wp2_with fail;refine K.o.mono ?_;rintro e w2 ⟨rfl,j⟩;have i0:=(j.cell (p:=⟨i.heap.size,0,none⟩) aP).trans (show _=some (.int .i64 (q:Int)) by simp);have i1:=(j.cell (p:=⟨i.heap.size,1,none⟩) aP).trans (show _=some (.string ⟨x.toArray⟩) by simp);have i2:=(j.cell (p:=⟨i.heap.size,2,none⟩) aP).trans (show _=some (.int .i64 (fin:Int)) by simp);have Im:=di (J.o.trans (j.mono J.o.size));clear j;go_wp2_with fail;refine(V.o _ Im.o).mono ?_;rintro e w5 p;obtain⟨bg,L,b,rfl⟩:=p.three;have r:=p.fb R.o uN.o;have c0:=r.c0;have c1:=r.c1;have cf:=r.fr;obtain⟨wz,hwz,z0,z1,M,N⟩:=dL c0 c1 (.int .i64 (L:Int)) (.int .i64 (b:Int));have HFin:=di (p.dU s.o ae aO M N);clear p r M N;go_wp2_with fail;exact bodyPost_ret (v:=.tuple #[.int .i64 (bg:Int),.agg #[.int .i64 (L:Int),.int .i64 (b:Int)]]) (by simp[results,Tryz.results173,go_sem,z0,z1]) rfl HFin.o
theorem iI {u0 u1 u2:Value}(j:w.cell? ⟨n,0,none⟩=some u0)(k:w.cell? ⟨n,1,none⟩=some u1)(l:w.cell? ⟨n,2,none⟩=some u2)(e f g:Value) :
 ∃c,((w.setCell ⟨n,0,none⟩ e).setCell ⟨n,1,none⟩ f).setCell ⟨n,2,none⟩ g=c/\c.cell? ⟨n,0,none⟩=some e/\c.cell? ⟨n,1,none⟩=some f/\c.cell? ⟨n,2,none⟩=some g/\Below n w c/\c.heap.size=w.heap.size:=by
 have m:∀(a b:Nat),a≠b->(⟨n,a,none⟩:Addr)≠⟨n,b,none⟩:=fun a b h p=>h (by injection p);have o:∀(w:World) (a b:Nat) (v u:Value),a≠b->w.cell? ⟨n,b,none⟩=some u->(w.setCell ⟨n,a,none⟩ v).cell? ⟨n,b,none⟩=some u:=fun w a b v u h q=>(ak (m a b h)).trans q;have d:∀(i:World) (a:Nat) (v:Value),Below n w i->Below n w (i.setCell ⟨n,a,none⟩ v):=fun _ _ _ h=>h.setCell ae _;refine⟨_,rfl,?_,?_,?_,d _ _ _ (d _ _ _ (d _ _ _ af)),aik⟩
 ·exact o _ 2 0 _ _ aO (o _ 1 0 _ _ aO (World.cell?_setCell_same _ _ _ j))
 ·exact o _ 2 1 _ _ aO (World.cell?_setCell_same _ _ _ (o _ 0 1 _ _ aO k))
 ·exact World.cell?_setCell_same _ _ _ (o _ 1 2 _ _ aO (o _ 0 2 _ _ aO l))
theorem Xc {a:List Doc.Sym}{b:List Doc.Term}{t:Doc.Term}(h:lC a b n l=.ok t):l.length=(Doc.gK a n).length:=by
 unfold lC at h;split at h
 ·cases h
 ·exact aO
theorem Vw (h:Doc.oks A):Doc.oks (A.drop 1):=by
 cases A with
 | nil=>exact h
 | cons a A=>simp only[Doc.oks]at h;exact h.2
theorem Mo (a:List Doc.Tr):Doc.eu (a.drop 1)<=Doc.eu a:=by
 cases a with
 | nil=>exact ae
 | cons b a=>simp only[Doc.eu,List.drop_succ_cons,List.drop_zero];omega
theorem iT.aaA {S:Doc.dB}{b:List Doc.Term}{R:Except (Nat × Nat) (List Doc.Term × Nat)}(d:iT W u O n m { S with terms:=b } R h)(e:Fr o O n w W)(f:∃a,b=S.terms++a):iT w u o n m S R h:=by
 obtain⟨g,i,c⟩:=d;refine⟨g,e.trans i,?_⟩;cases R with
 | ok r=>exact c
 | error x=>
  obtain⟨j,k,a,l⟩:=c;obtain⟨p,rfl⟩:=f;exact⟨j,k,p++a,by rw[<-List.append_assoc];exact l⟩
theorem iT.Td {own:Own}{a b:Nat}{S:Doc.dB}{e:List Doc.Term}(g:Fr own (dw own k (n+1)) n w W)(h:Fr (dw own k (n+1)) o n W u)(i:dA u o n m { S with terms:=e })(j:∃c,e=S.terms++c)(l:w.heap.size<=k)(p:k<W.heap.size)(q:a≠0)
 (r:∀(own f:Own) (n:Nat) (d:World),Fr own f n d u->d.heap.size<=k->Fr own f n d U) (s:∀(own:Own) (n m:Nat) (S:Doc.dB),dA u own n m S->own k≠0->own k≠n->dA U own n m S):iT w U own n m S (.error (a,b)) (.returned (.tuple #[.int .i64 0,.agg #[.int .i64 (a:Nat),.int .i64 (b:Nat)]])):=by
 obtain⟨c,rfl⟩:=j;have t:iT W u (dw own k (n+1)) n m S (.error (a,b)) (.returned (.tuple #[.int .i64 0,.agg #[.int .i64 (a:Nat),.int .i64 (b:Nat)]])):=⟨o,h,rfl,q,c,i⟩;exact t.dU g l p r s
theorem Rm (m j k x q p:Nat)(C:List Doc.Item)(own:Own)(S:Doc.dB)(d:List Doc.Tr)(w:World)(ho:iW w own m j C)(hS:dA w own k j S)(hfr:dH own w)(hk:k≠0)(hw:Doc.gP S.syms S.terms)(hlies:Doc.kF C q (.list p d))(hok:Doc.oks d)(hwd:Doc.eu d<=800)(hits:C.length<=1000)(hn:d.length<=1000)
 (ih:∀(t:Doc.Tr) (bt:Nat) (own:Own) (S:Doc.dB) (w:World),t∈d->iW w own m j C->dA w own k j S->dH own w->Doc.gP S.syms S.terms->Doc.kF C bt t->t.ok->t.width<=800->
  Calls Tryz.prog 173 #[.pointer (some ⟨m,0,none⟩),.int .i64 (bt:Nat)] w fun e o=>iT w o own k j S (Doc.term S.syms x t S.terms) e) :
 Calls Tryz.prog 173 #[.pointer (some ⟨m,0,none⟩),.int .i64 q] w fun e o=>iT w o own k j S (Doc.term S.syms (x+1) (.list p d) S.terms) e:=by
 have hR:=fJ;obtain⟨R,KN⟩:=aJ (Doc.term S.syms (x+1) (.list p d) S.terms);rw[KN];have rM:=di KN;obtain⟨f,hW1⟩:∃f,w.alloc (.cells #[.int .i64 0,.int .i64 0] 64)=f:=⟨_,rfl⟩;have hb1:Below w.heap.size w f:=aiA;have hsz:f.heap.size=w.heap.size+1:=ahZ;have vZ:eB w f w.heap.size:=⟨ahZ,ahZ,fun bn=>ahZ⟩;have Q3:=di vZ;have N:Hid (Fr own (dw own w.heap.size (k+1)) k w f):=Fr.boxed hfr hb1 ae aO;have hS1:dA f (dw own w.heap.size (k+1)) k j S:=hS.boxed hb1 ae;have kG:=di hS1;have ho1:iW f (dw own w.heap.size (k+1)) m j C:=ho.boxed hb1 ae;have wK:=di ho1;have hol:=ho1.lt;obtain⟨vI,hcI,uG⟩:=ho1.items;obtain⟨aI,cI,rfl,_⟩:=id uG;have Yd:=hlies.item
 have HAT:Hid (∀b' it,C[b']?=some it->∀W,Below f.heap.size f W->Calls Tryz.prog 118 #[.slice aI C.length cI,.int .i64 (b':Nat)] W fun e o=>e=.returned (.agg #[.int .i64 it.pos,.string ⟨it.word.toArray⟩,.int .i64 it.fin])/\Below W.heap.size W o):=fun b' it h W hW=>by
  have:=wR (.slice aI C.length cI) C b' W (uG.items.below hW);rw[ll h]at this;exact this
 have XI:Hid (∀W,Below f.heap.size f W->Calls Tryz.prog 78 #[.slice aI C.length cI,.int .i64 q] W fun e o=>(∃bB bg,e=.returned (.slice bB d.length bg)/\eD o (dw own w.heap.size (k+1)) (.slice bB d.length bg) (Doc.places d (q+1)))/\Below W.heap.size W o):=fun W hW=>
  BO (uG.items.below hW) hlies aO (fun bq hc=>N.o.dJ bq (Nat.le_trans hW.size hc))
 have YS:=di (fun W (hW:Below f.heap.size f W)=>show W.cell? ⟨m,0,none⟩=some (.pointer (some ⟨j,0,none⟩))/\W.cell? ⟨m,1,none⟩=some (.slice aI C.length cI) from⟨(hW.cell (p:=⟨m,0,none⟩) hol).trans ho1.st,(hW.cell (p:=⟨m,1,none⟩) hol).trans hcI⟩);have XU:=di (HAT.o q _ Yd f af);simp only[Doc.Tr.pos,Doc.Tr.text]at XU;obtain⟨fin,hfin⟩:=aJ (q+(Doc.flat (.list p d) q).length);rw[hfin]at XU;have I6:=di hlies;have Ig:=di ih;have rz:=di hok;have Fg:=di hwd;have HW:=di hw;have uN:Hid (dw own w.heap.size (k+1) w.heap.size≠k):=bR;obtain⟨o0,o1⟩:=YS.o f af;have ahN:Hid ((⟨([]:List UInt8).toArray⟩:ByteArray)=⟨#[]⟩):=rfl;clear ho hS hfr hw hlies hb1 vZ hS1 uG Yd hfin KN ho1 hcI ih hok hwd;go_enter Tryz.func173,Tryz.ntmps173;go_wp2_with fail;refine XU.o.mono ?_;rintro e u ⟨rfl,v⟩;have hbb:Below f.heap.size f (u.alloc (.cells #[.int .i64 p,.string ⟨([]:List UInt8).toArray⟩,.int .i64 fin] 129)):=v.alloc v.size _;have mq:=di hbb;have HIL:=di (ma p fin [] (u.alloc (.cells #[.int .i64 p,.string ⟨([]:List UInt8).toArray⟩,.int .i64 fin] 129)));have G8:(([]:List UInt8)==[])=true:=rfl;rw[G8]at HIL;have hwI:=v.size;clear v hbb G8;go_wp2_with fail;refine HIL.o.mono ?_;rintro e w2 ⟨rfl,hbc⟩;have hI1:u.heap.size<w2.heap.size:=by have:=hbc.size;simp at this;omega
 have j0:=(hbc.cell (p:=⟨u.heap.size,0,none⟩) aP).trans (show _=some (.int .i64 (p:Int)) by simp);have Im:=di (mq.o.trans (hbc.mono mq.o.size));clear hbc;obtain⟨o2,o3⟩:=YS.o w2 Im.o;go_wp2_with fail;refine(XI.o _ Im.o).mono ?_;rintro e g ⟨⟨aN,cN,rfl,hins⟩,hbd⟩;have Y2:=di hins;have y8:=di (Im.o.trans (hbd.mono Im.o.size));have j3:=(hbd.cell (p:=⟨u.heap.size,0,none⟩) hI1).trans j0;have hI3:=Nat.lt_of_lt_of_le hI1 hbd.size;obtain⟨oU,uF,vY⟩:=gG hins.ints;rw[<-oU]at uF;clear hbd hins oU
 by_cases h0:d.length=0
 ·have F:Hid (R=.error (4,p)):=by show _=_;rw[<-rM.o];exact Doc.Jg S.syms x p S.terms h0
  have t0:((d.length:Int)==0)=true:=by rw[h0];rfl
  clear rM h0;generalize d.length=bF at *;go_wp2_with fail;have G:Below f.heap.size f g:=y8.o;have y:=Q3.o.below G;have Q:=y.c0;have U:=y.c1;have df:=y.fr;obtain⟨wz,hwz,z,A,s,l⟩:=dL Q U (.int .i64 4) (.int .i64 (p:Int));have H:=di (iT.fault (a:=4) (b:=p) N.o kG.o G ae aO aO s l).drew;clear s l G y;go_region
  all_goals
   go_wp2_with fail;exact bodyPost_ret (v:=.tuple #[.int .i64 0,.agg #[.int .i64 4,.int .i64 (p:Int)]]) ah4 rfl aiU
 ·have hpos:0<d.length:=aO;have t0:((d.length:Int)==0)=false:=aj aO;obtain⟨gN,rfl,n0⟩:=eY Y2.o.ints 0 (q+1) (by rw[Doc.kV hpos,Doc.uQ]);have hhd:=I6.o.kid hpos;rw[Doc.uQ]at hhd;have Gl:=di (HAT.o (q+1) _ hhd.item);obtain⟨V,KE⟩:=aJ (d[0]);rw[KE]at Gl;obtain⟨xV,Ez⟩:=aJ (q+1+(Doc.flat V (q+1)).length);rw[Ez]at Gl;have aeD:((q+1:Nat):Int)=(q:Int)+1:=aO;rw[aeD]at Gl n0;have hgN:gN<g.heap.size:=ai n0;have ad9:m<g.heap.size:=by have:=y8.o.size;omega
  have HK0:Hid (d[0]?=some V):=by show _=_;rw[aD hpos,KE]
  have afN:Hid V.ok:=by rw[<-KE];exact Doc.kQ rz.o _ (List.getElem_mem hpos)
  have afM:Hid (V.width<=800):=by rw[<-KE];exact Nat.le_of_succ_le (Nat.le_trans (Doc.jl (ks:=d) _ (List.getElem_mem hpos)) Fg.o)
  obtain⟨o4,o5⟩:=YS.o g y8.o;have ahv:(0:Int)<(d.length:Int):=aO;clear Ez hhd KE h0;obtain⟨i,hhp⟩:=aJ V.pos;obtain⟨c,hhx⟩:=aJ V.text;rw[hhp,hhx]at Gl;have HHP:=di hhp;have HHX:=di hhx;clear hhp hhx;go_upto_region 7 with fail
  go_cut [8] (fun bA wx=>∃I,bA=.pointer (some ⟨I,0,none⟩)/\Below g.heap.size g wx/\g.heap.size<=I/\I<wx.heap.size/\wx.cell? ⟨I,0,none⟩=some (.int .i64 (i:Int))/\wx.cell? ⟨I,1,none⟩=some (.string ⟨c.toArray⟩)/\wx.cell? ⟨I,2,none⟩=some (.int .i64 (xV:Int)))
  case first=>
   go_region_with (go_at_call 118;first|(refine(Gl.o _ y8.o.drew).mono ?_;rintro e w4 ⟨rfl,O⟩;have hbx:Below g.heap.size g w4:=(Below.refl g.heap.size g).drew.trans O)|(refine(Gl.o _ (y8.o.alloc y8.o.size _).drew).mono ?_;rintro e w4 ⟨rfl,O⟩;have hbx:Below g.heap.size g w4:=((Below.refl g.heap.size g).alloc ae _).drew.trans (O.mono aP);have q0:=(O.cell (p:=⟨g.heap.size,0,none⟩) aP).trans (show _=some (.int .i64 0) by simp);have q1:=(O.cell (p:=⟨g.heap.size,1,none⟩) aP).trans (show _=some (.string ⟨#[]⟩) by simp);have q2:=(O.cell (p:=⟨g.heap.size,2,none⟩) aP).trans (show _=some (.int .i64 0) by simp);have qf:∀bn,w4.frozen? ⟨g.heap.size,bn,none⟩=false:=fun bn=>(O.frozen (p:=⟨g.heap.size,bn,none⟩) aP).trans aP;have hs4:g.heap.size<w4.heap.size:=by have:=O.size;simp at this;omega))
   all_goals
    first
    | (obtain⟨wz,rfl,z,A,z2,zb,l⟩:=iI q0 q1 q2 (.int .i64 (i:Int)) (.string ⟨c.toArray⟩) (.int .i64 (xV:Int))
       have HZ:=di (hbx.trans zb);have HZZ:=di (Nat.lt_of_lt_of_eq hs4 l.symm);have HZ0:=di z;have HZ1:=di A;have HZ2:=di z2;clear O hbx zb l z A z2;go_wp2_with fail;go_meet
       case rel=>exact⟨g.heap.size,rfl,HZ.o,ae,HZZ.o,HZ0.o,HZ1.o,HZ2.o⟩)
    | (have HE:Hid (Below g.heap.size g (w4.alloc (.cells #[.int .i64 (i:Nat),.string ⟨c.toArray⟩,.int .i64 (xV:Nat)] 129))):=hbx.alloc hbx.size _
       have Ob:=di hbx.size;clear O hbx;go_wp2_with fail;go_meet
       case rel=>exact⟨w4.heap.size,rfl,HE.o,Ob.o,aP,aP,aP,aP⟩)
  case rest=>
   obtain⟨I,rfl,hbf,hi2,PO,c0,c1,c2⟩:=hcut;have oL:=di (y8.o.trans (hbf.mono y8.o.size));have j4:=(hbf.cell (p:=⟨u.heap.size,0,none⟩) hI3).trans j3;have hI4:=Nat.lt_of_lt_of_le hI3 hbf.size;have acC:=di (Y2.o.below hbf);have QY:=di (ma i xV c wc);clear hbf j3 j0 o4 o5 n0 hgN ad9;cases yR:V with
   | list bg qs=>
    have e1:i=bg:=by rw[<-HHP.o,yR];rfl
    have e2:c=[]:=by rw[<-HHX.o,yR];rfl
    have F:Hid (R=.error (4,i)):=by show _=_;rw[<-rM.o,e1];exact Doc.Gv S.syms x p S.terms (by rw[HK0.o,yR])
    subst e2;have G8:(([]:List UInt8)==[])=true:=rfl;rw[G8]at QY;clear G8 yR e1 rM;go_wp2_with fail;refine QY.o.mono ?_;rintro e w5 ⟨rfl,E⟩;have c0':=(E.cell (p:=⟨I,0,none⟩) PO).trans c0;have Il:=di (oL.o.trans (E.mono oL.o.size));clear E c0 c1 c2;go_wp2_with fail;have G:Below f.heap.size f w5:=Il.o;have y:=Q3.o.below G;have Q:=y.c0;have U:=y.c1;have df:=y.fr;obtain⟨wz,hwz,z,A,s,l⟩:=dL Q U (.int .i64 4) (.int .i64 (i:Int));have H:=di (iT.fault (a:=4) (b:=i) N.o kG.o G ae aO aO s l).drew;clear s l G y;go_region
    all_goals
     go_wp2_with fail;exact bodyPost_ret (v:=.tuple #[.int .i64 0,.agg #[.int .i64 4,.int .i64 (i:Int)]]) ah4 rfl aiU
   | word bg X=>
    have e1:i=bg:=by rw[<-HHP.o,yR];rfl
    have e2:c=X:=by rw[<-HHX.o,yR];rfl
    subst e1 e2;have hxo:c≠[]:=by have h:=afN.o;rw[yR]at h;exact h.1
    have hxl:c.length<=1000000:=by have h:=afM.o;rw[yR]at h;simp only[Doc.Tr.width]at h;omega
    have hxe:(c==[])=false:=aj hxo;rw[hxe]at QY;have Lr:Hid (R=if Doc.jY c=false/\Doc.eX S.syms c=none then .error (5,i) else match Doc.gI (Doc.term S.syms x) (d.drop 1) S.terms [] with|.error X=>.error X|.ok r=>Doc.ig p (if Doc.jY c=true then Doc.l8 r.1 c r.2 else Doc.applied S.syms r.1 ((Doc.eX S.syms c).getD 0) r.2)):=by show _=_;rw[<-rM.o];exact Doc.Gu S.syms x p S.terms (by rw[HK0.o,yR])
    have LJ:Hid (Doc.jY c=true↔Doc.ji c≠0):=Doc.uR c;have BZ:=di (fun B=>Doc.lK (ss:=S.syms) (w:=c) (s:=B));have wN:Hid (∀W,Below f.heap.size f W->Calls Tryz.prog 121 #[.pointer (some ⟨j,0,none⟩),.string ⟨c.toArray⟩] W fun e o=>e=.returned (.int .i64 (placeOf (Doc.eX S.syms c)))/\Below W.heap.size W o):=fun W h=>D9 j S.syms S.terms c W (kG.o.book.below h);have acp:Hid (∀W,Below f.heap.size f W->Calls Tryz.prog 170 #[.string ⟨c.toArray⟩] W fun e o=>e=.returned (.int .i64 (Doc.ji c:Nat))/\o=W):=fun W h=>BL c W (wK.o.iE.below h);have aco:=di (fun h=>Doc.MQ (w:=c) h);clear yR rM hxe hxo;go_wp2_with fail;refine QY.o.mono ?_;rintro e w5 ⟨rfl,E⟩;have c0':=(E.cell (p:=⟨I,0,none⟩) PO).trans c0;have c1':=(E.cell (p:=⟨I,1,none⟩) PO).trans c1;have aem:=Nat.lt_of_lt_of_le PO E.size;have j5:=(E.cell (p:=⟨u.heap.size,0,none⟩) hI4).trans j4;have hI5:=Nat.lt_of_lt_of_le hI4 E.size;have Il:=di (oL.o.trans (E.mono oL.o.size));have acB:=di (acC.o.below E);obtain⟨o6,o7⟩:=YS.o w5 Il.o;clear E c0 c1 c2 j4 hI4 acC;go_wp2_with fail;refine(acp.o _ Il.o).mono ?_;rintro e w5' ⟨rfl,jR⟩;rw[jR];clear jR w5';obtain⟨fs,hfs⟩:=aJ (Doc.eX S.syms c);rw[hfs]at wN Lr BZ;obtain⟨J,hop⟩:=aJ (Doc.ji c);rw[hop]at LJ aco ⊢;have XB:=di hop;clear hfs hop acp;go_upto_region 11 with fail
    go_cut [10] (fun bA wx=>bA=.int .i64 (placeOf fs)/\Below w5.heap.size w5 wx)
    case first=>
     go_region_with (go_at_call 121;refine(wN.o _ (by first|exact Il.o|exact Il.o.drew)).mono ?_;rintro e w6 ⟨rfl,Y⟩)
     all_goals
      have HE:Hid (Below w5.heap.size w5 w6):=af.drew.trans Y;clear Y;exact amv
    case rest=>
     obtain⟨rfl,Y⟩:=hcut;rename World=>w6;have d0':=(Y.cell (p:=⟨I,0,none⟩) aem).trans c0';have j6:=(Y.cell (p:=⟨u.heap.size,0,none⟩) hI5).trans j5;have hI6:=Nat.lt_of_lt_of_le hI5 Y.size;have Ot:=di (Il.o.trans (Y.mono Il.o.size));have afK:=di (acB.o.below Y);clear Y c0' c1' j5 hI5 acB o6 o7
     by_cases hno:J=0/\fs=none
     ·obtain⟨h01,h02⟩:=hno;subst h01 h02
      have F:Hid (R=.error (5,i)):=by
       show _=_;rw[Lr.o,if_pos ⟨by cases h:Doc.jY c;rfl;exact absurd rfl (LJ.o.1 h),rfl⟩]
      have hps:placeOf none=(-1:Int):=rfl;rw[hps];clear Lr;go_wp2_with fail;have G:Below f.heap.size f w6:=Ot.o;have y:=Q3.o.below G;have Q:=y.c0;have U:=y.c1;have df:=y.fr;obtain⟨wz,hwz,z,A,s,l⟩:=dL Q U (.int .i64 5) (.int .i64 (i:Int));have H:=di (iT.fault (a:=5) (b:=i) N.o kG.o G ae aO aO s l).drew;clear s l G y;go_region
      all_goals
       go_wp2_with fail;exact bodyPost_ret (v:=.tuple #[.int .i64 0,.agg #[.int .i64 5,.int .i64 (i:Int)]]) ah4 rfl aiU
     ·have oQ:=di (IQ m j k x q p C _ S d (some ⟨gN,0,none⟩) cN w6 (wK.o.below Ot.o) (kG.o.below Ot.o) (fun bq hc=>N.o.dJ bq (Nat.le_trans Ot.o.size hc)) hk HW.o afK.o I6.o rz.o Fg.o hpos hn Ig.o)
      by_cases P:J=0
      case' pos=>
       obtain⟨B,hs⟩:∃B,fs=some B:=by
        cases fs with
        | none=>exact absurd ⟨P,rfl⟩ hno
        | some B=>exact⟨B,rfl⟩
       subst hs;obtain⟨hsl,_⟩:=BZ.o B rfl
       obtain⟨T,Gm,xE,HTW,T9⟩:∃T:List Doc.Term->List Nat->Except Nat Doc.Term,Hid (∀a b D K W Z,W.cell? ⟨m,0,none⟩=some (.pointer (some ⟨j,0,none⟩))->dA W Z k j { S with terms:=a }->Doc.gP S.syms a->dY W (.slice D b.length K) b->(∀L∈b,L<a.length)->b.length<=1000->Calls Tryz.prog 224 #[.pointer (some ⟨m,0,none⟩),.int .i64 (J:Int),.int .i64 (placeOf (some B)),.slice D b.length K] W fun e o=>vK W o D (T a b) e/\Below W.heap.size W o)/\
        Hid (R=match Doc.gI (Doc.term S.syms x) (d.drop 1) S.terms [] with|.error X=>.error X|.ok r=>match T r.1 r.2 with|.error e=>.error (e,p)|.ok t=>Doc.ig p (Doc.note r.1 t))/\Hid (∀a b t,Doc.gP S.syms a->(∀L∈b,L<a.length)->T a b=.ok t->Doc.pz S.syms a a.length t/\t.args.length<=1000)/\Hid (∀a b e,T a b=.error e->e≠0):=by
        refine⟨fun a b=>lC S.syms a B b,fun a b D K W Z h1 h2 h3 h4 h5 h6=>?_,?_,?_,fun a b e h=>Xd h⟩
        ·rw[P];exact Lb m j S.syms a B _ b D K W h1 h2.book h4 hsl rfl h5
        ·show _=_;rw[Lr.o,if_neg (by rintro ⟨_,h⟩;cases h)];have Ye:¬Doc.jY c=true:=fun h=>LJ.o.1 h P;cases Doc.gI (Doc.term S.syms x) (d.drop 1) S.terms [] with
         | error X=>rfl
         | ok r=>
          simp only[if_neg Ye,Option.getD_some];rw[Xb];cases lC S.syms r.1 B r.2<;>rfl
        ·intro a b t h3 h5 h;obtain⟨q1,q2⟩:=aae hsl h5 h
         have h8:b.length<=2:=by
          have hq:=Xc h;rw[zq hsl]at hq;have:=(HW.o.syms _ (List.getElem_mem hsl)).few;exact aO
         exact⟨q1,by rw[q2];omega⟩
       have top:((J:Int)==0)=true:=by rw[P];rfl
       have hsv:¬(placeOf (some B)<0):=by show ¬((B:Int)<0);omega
       generalize placeOf (some B)=sv at *;clear Lr P hno BZ d0' wN
      case' neg=>
       obtain⟨h5,h19⟩:=aco.o P
       obtain⟨T,Gm,xE,HTW,T9⟩:∃T:List Doc.Term->List Nat->Except Nat Doc.Term,Hid (∀a b D K W Z,W.cell? ⟨m,0,none⟩=some (.pointer (some ⟨j,0,none⟩))->dA W Z k j { S with terms:=a }->Doc.gP S.syms a->dY W (.slice D b.length K) b->(∀L∈b,L<a.length)->b.length<=1000->Calls Tryz.prog 224 #[.pointer (some ⟨m,0,none⟩),.int .i64 (J:Int),.int .i64 (placeOf fs),.slice D b.length K] W fun e o=>vK W o D (T a b) e/\Below W.heap.size W o)/\
        Hid (R=match Doc.gI (Doc.term S.syms x) (d.drop 1) S.terms [] with|.error X=>.error X|.ok r=>match T r.1 r.2 with|.error e=>.error (e,p)|.ok t=>Doc.ig p (Doc.note r.1 t))/\Hid (∀a b t,Doc.gP S.syms a->(∀L∈b,L<a.length)->T a b=.ok t->Doc.pz S.syms a a.length t/\t.args.length<=1000)/\Hid (∀a b e,T a b=.error e->e≠0):=by
        have hon:Doc.ji c≠0:=by rw[XB.o];exact P
        refine⟨fun a b=>Doc.iO Except.ok a J b,fun a b D K W Z h1 h2 h3 h4 h5' h6=>IU m j S.syms a J _ b D K W h1 h2.book h3 h4 h5 h19 h5' h6,?_,?_,fun a b e h=>Doc.Sa h⟩
        ·show _=_;rw[Lr.o,if_neg (by rintro ⟨h,_⟩;rw[LJ.o.2 P]at h;cases h)];cases hAA:Doc.gI (Doc.term S.syms x) (d.drop 1) S.terms [] with
         | error X=>rfl
         | ok r=>
          have hgl:=Doc.Dc (fun t a r h1 h2 h3 h4=>Doc.rU S.syms x t a r h1 h2 h3 h4) (d.drop 1) S.terms [] r HW.o (Vw rz.o) (Nat.le_trans (Mo d) Fg.o) (by intro L ha;cases ha) hAA;simp only[if_pos (LJ.o.2 P)];rw[R9 hgl.wf hon hgl.lt,XB.o];cases Doc.iO Except.ok r.1 J r.2<;>rfl
        ·intro a b t h3 h5' h;rw[<-XB.o]at h;obtain⟨q1,q2⟩:=Vu h3 hon h5' h;exact⟨q1,aO⟩
       have top:((J:Int)==0)=false:=aj aO;generalize placeOf fs=sv at *;clear Lr P hno BZ d0' wN h5 h19
      all_goals
       go_wp2_with fail;refine oQ.o.mono ?_;rintro e n ⟨Z,hf2,hm⟩;have DL:=(Q3.o.below Ot.o).fr' hf2 uN.o;have FV:=(Fr.of_below k N.o.dJ Ot.o).trans hf2;have aeC:Z w.heap.size=k+1:=by rw[FV.ext _ aO];unfold dw;rw[if_pos rfl]
       have j7:n.cell? ⟨u.heap.size,0,none⟩=some (.int .i64 (p:Int)):=hf2.cell j6 (by show dw own w.heap.size (k+1) u.heap.size≠k;rw[N.o.dJ u.heap.size hwI];exact hk.symm);have hI7:=Nat.lt_of_lt_of_le hI6 hf2.size;have ahe:w.heap.size<n.heap.size:=ai DL.c0;cases hA:Doc.gI (Doc.term S.syms x) (d.drop 1) S.terms [] with
       | error xx=>
        rw[hA]at hm xE;obtain⟨he,hne,ex,uq⟩:=hm;subst he;have F:Hid (R=.error xx):=xE.o;obtain⟨x1,x2⟩:=xx;simp only at hne;have hen:((x1:Int) !=0)=true:=aZ;have jN:=di uq;have D5:=di FV;clear hA hf2 uq FV oQ j6;go_upto_region 16 with fail;have v:Below n.heap.size n (n.alloc (.cells #[.int .i64 (x1:Nat),.int .i64 (x2:Nat)] 64)):=ag;have f0:(n.alloc (.cells #[.int .i64 (x1:Nat),.int .i64 (x2:Nat)] 64)).cell? ⟨n.heap.size,0,none⟩=some (.int .i64 (x1:Nat)):=aP;have f1:(n.alloc (.cells #[.int .i64 (x1:Nat),.int .i64 (x2:Nat)] 64)).cell? ⟨n.heap.size,1,none⟩=some (.int .i64 (x2:Nat)):=aP;have PS:=DL.below v;have uh:=di v;clear v;generalize n.alloc (.cells #[.int .i64 (x1:Nat),.int .i64 (x2:Nat)] 64)=wa at *;have Q:=PS.c0;have U:=PS.c1;have df:=PS.fr;obtain⟨wz,hwz,z,A,s,l⟩:=dL Q U (.int .i64 (x1:Int)) (.int .i64 (x2:Int));have H:=di (iT.Td (a:=x1) (b:=x2) N.o (D5.o.trans (Fr.of_below k D5.o.dJ uh.o)) (jN.o.below uh.o) ⟨ex,rfl⟩ ae aO hne s l).drew;clear s l PS DL;go_region
        all_goals
         go_wp2_with fail;exact bodyPost_ret (v:=.tuple #[.int .i64 0,.agg #[.int .i64 (x1:Nat),.int .i64 (x2:Nat)]]) ah4 rfl aiU
       | ok r=>
        rw[hA]at hm xE;obtain⟨⟨D,K,he,hro⟩,uq,PD,hlt2,abq,hl2⟩:=hm;subst he;have v:Below n.heap.size n (n.alloc (.cells #[.int .i64 0,.int .i64 0] 64)):=ag;have o8:(n.alloc (.cells #[.int .i64 0,.int .i64 0] 64)).cell? ⟨m,0,none⟩=some (.pointer (some ⟨j,0,none⟩)):=((wK.o.fr FV hk).below v).st;have Zh:=di (Gm.o r.1 r.2 D K _ Z o8 (uq.below v) PD (hro.below v).ints hlt2 hl2);have jN:=di uq;have D5:=di FV;have uh:=di v;have aeZ:=di PD;have acy:=di hlt2;have acG:=di abq;have QP:Hid (R=match T r.1 r.2 with|.error e=>.error (e,p)|.ok t=>Doc.ig p (Doc.note r.1 t)):=xE.o;have Xt:=di (fun t=>HTW.o r.1 r.2 t PD hlt2);have Xv:=di (fun e=>T9.o r.1 r.2 e);obtain⟨n2,hn2⟩:=aJ r.2.length;rw[hn2]at Zh ⊢;have Dk:=di hn2;generalize T r.1 r.2=TT at *;have jf:=(v.cell (p:=⟨u.heap.size,0,none⟩) hI7).trans j7;clear hA hf2 uq FV oQ j6 v PD hlt2 abq hl2 hro hn2 xE;go_wp2_with fail;refine Zh.o.mono ?_;rintro e w8 ⟨hres,hbk⟩;have HB8:=di (uh.o.trans (hbk.mono uh.o.size));have CU:=HB8.o.size;clear hbk;cases EE:TT with
        | error er=>
         rw[EE]at hres;have hres':e=.returned (.tuple #[jH,.int .i64 (er:Nat)]):=hres;subst hres';have hne:=Xv.o er EE;have F:Hid (R=.error (er,p)):=by show _=_;rw[QP.o,EE]
         have hen:((er:Int) !=0)=true:=aZ;unfold jH;clear hres EE QP Xt Xv;go_upto_region 19 with fail
         have M:Below n.heap.size n (w8.alloc (.cells #[.int .i64 0,.int .i64 0,.int .i64 0,.slice none 0 0,.int .i64 0] 238)):=HB8.o.alloc CU _;have j8:=(M.cell (p:=⟨u.heap.size,0,none⟩) hI7).trans j7;have PR:=DL.below M;have Ij:=di M;clear M;generalize w8.alloc (.cells #[.int .i64 0,.int .i64 0,.int .i64 0,.slice none 0 0,.int .i64 0] 238)=wb at *;have Q:=PR.c0;have U:=PR.c1;have df:=PR.fr;obtain⟨wz,hwz,z,A,s,l⟩:=dL Q U (.int .i64 (er:Int)) (.int .i64 (p:Int));have H:=di (iT.Td (a:=er) (b:=p) N.o (D5.o.trans (Fr.of_below k D5.o.dJ Ij.o)) (jN.o.below Ij.o) acG.o ae aO hne s l).drew;clear s l PR DL j7 jf;go_region
         all_goals
          go_wp2_with fail;exact bodyPost_ret (v:=.tuple #[.int .i64 0,.agg #[.int .i64 (er:Int),.int .i64 (p:Int)]]) ah4 rfl aiU
        | ok t=>
         rw[EE]at hres;obtain⟨A3,p3,he,abL,hA3⟩:=hres;subst he;obtain⟨hwt,htl⟩:=Xt.o t EE;have F:Hid (R=Doc.ig p (Doc.note r.1 t)):=by show _=_;rw[QP.o,EE]
         have M:Below n.heap.size n (w8.alloc (.cells #[.int .i64 (Doc.dZ t.op:Nat),.int .i64 t.sym,.int .i64 (Doc.fq t:Nat),.slice A3 t.args.length p3,.int .i64 t.sort] 238)):=HB8.o.alloc CU _;have j8:=(M.cell (p:=⟨u.heap.size,0,none⟩) hI7).trans j7;have Ij:=di M;have XO:=di (D5.o.trans (Fr.of_below k D5.o.dJ M));have HJC:=di (Ki m j k p Z { S with terms:=r.1 } t A3 p3 _ (wK.o.fr XO.o hk).st (jN.o.below M) XO.o.dJ hk aeZ.o hwt (abL.below ag) htl);have afX:=di (DL.below M);have aha:u.heap.size<w8.heap.size:=aO;clear EE hwt htl abL hA3 M DL QP Xt Xv;generalize Doc.dZ t.op=po at *;generalize Doc.fq t=pn at *;go_wp2_with fail;refine HJC.o.mono ?_;rintro e w9 hp0;have rG:=hp0.fb afX.o (by rw[aeC];omega);have i:=hp0.aaA XO.o acG.o;obtain⟨bD,L,q,rfl⟩:=i.three;have c0:=rG.c0;have c1:=rG.c1;have cf:=rG.fr;obtain⟨wz,hwz,z,A,s,l⟩:=dL c0 c1 (.int .i64 (L:Int)) (.int .i64 (q:Int));have H:=di (i.dU N.o ae aO s l);clear hp0 i rG s l;go_wp2_with fail;exact bodyPost_ret (v:=.tuple #[.int .i64 (bD:Int),.agg #[.int .i64 (L:Int),.int .i64 (q:Int)]]) ah4 rfl aiU
theorem ZU (a:List Doc.Tr)(b:Nat):a.length<=(Doc.fD a b).length:=by
 have h:=Jo a b a.length ae;rw[Doc.wZ]at h;exact aO
theorem RX (n g k:Nat)(h:List Doc.Item)(p:k≠0)(r:h.length<=1000):∀(d:Nat) (t:Doc.Tr) (e:Nat) (own:Own) (S:Doc.dB) (w:World),Doc.within d t->iW w own n g h->dA w own k g S->dH own w->Doc.gP S.syms S.terms->Doc.kF h e t->t.ok->t.width<=800->
 Calls Tryz.prog 173 #[.pointer (some ⟨n,0,none⟩),.int .i64 (e:Nat)] w fun s u=>iT w u own k g S (Doc.term S.syms (d+1) t S.terms) s:=by
 intro d
 induction d with
 | zero=>
  intro t e own S w f i j l m a b c
  match t,f,a,b,c with
  | .word q x,_,a,b,c=>exact Gt n g k 0 e q h own S x w i j l p m a b.1 ajC
  | .list q o,f,_,_,_=>exact absurd f (by simp[Doc.within])
 | succ d v=>
  intro t e own S w f i j l m a b c
  match t,f,a,b,c with
  | .word q x,_,a,b,c=>exact Gt n g k (d+1) e q h own S x w i j l p m a b.1 ajC
  | .list q o,f,a,b,c=>
   have y:∀k∈o,Doc.within d k:=f
   have z:o.length<=1000:=by
    have A:=a.lt;simp only[Doc.flat,List.length_cons]at A;have D:=ZU o (e+1);exact aO
   exact Rm n g k (d+1) e q h own S o w i j l p m a b ajC r z
    (fun t B own S w C i j l m a b c=>v t B own S w (y t C) i j l m a b c)
theorem uY (a b c:Value)(w:World):(Instr.field 129 (.agg #[a,b,c]) 0).run Tryz.prog w=.ok a w:=by
 first
 | (simp[Instr.field,run_underlying Tryz.underlying129,go_sem];done)
 | kernel_rfl
structure gQ (w:World)(own:Own)(ob sb:Nat)(its:List Doc.Item)(p:Nat)(ks:List Doc.Tr):Prop where
 ord:iW w own ob sb its
 ins:∃A q,w.cell? ⟨ob,2,none⟩=some (.slice A ks.length q)/\eD w own (.slice A ks.length q) (Doc.places ks 1)
 lies:Doc.kF its 0 (.list p ks)
 few:its.length<=1000
theorem gQ.step {w:World}{own:Own}(h:gQ w own n m I k A)(a:∀b,b<w.heap.size->own b=0->W.heap[b]?=w.heap[b]?/\o b=0):gQ W o n m I k A:=by
 obtain⟨c,q,d,e⟩:=h.ins;exact⟨h.ord.step a,⟨c,q,(World.cell?_of_block (w:=w) (a:=⟨n,2,none⟩) (a n h.ord.lt h.ord.Vq).1).trans d,e.step a⟩,h.lies,h.few⟩
theorem gQ.below {own:Own}(h:gQ w own n m I k A)(a:Below w.heap.size w W):gQ W own n m I k A:=h.step (fun b c d=>⟨a.block b c,d⟩)
theorem gQ.fr {own:Own}(h:gQ w own n m I i A)(a:Fr own o k w W)(e:k≠0):gQ W o n m I i A:=h.step (fun b c d=>⟨a.block b c aO,by rw[a.ext b c];exact d⟩)
theorem gQ.boxed {own:Own}{B c:Nat}(h:gQ w own n m I k A)(a:Below w.heap.size w W)(f:w.heap.size<=B):gQ W (dw own B c) n m I k A:=
 h.step (fun b d e=>⟨a.block b d,by unfold dw;rw[if_neg aO];exact e⟩)
theorem iY {u0 u1:Value}(e:w.cell? ⟨n,0,none⟩=some u0)(f:w.cell? ⟨n,1,none⟩=some u1)(b c:Value) :
 ∃a,(w.setCell ⟨n,0,none⟩ b).setCell ⟨n,1,none⟩ c=a/\a.cell? ⟨n,0,none⟩=some b/\a.cell? ⟨n,1,none⟩=some c/\Below n w a:=by
 obtain⟨a,d,g,h,_,_⟩:=dL e f b c;refine⟨a,d,g,h,?_⟩;rw[<-d];exact((Below.refl n w).setCell ae _).setCell ae _
theorem eB.start (w:World):eB w (w.alloc (.cells #[.int .i64 0,.int .i64 0] 64)) w.heap.size/\Below w.heap.size w (w.alloc (.cells #[.int .i64 0,.int .i64 0] 64)):=
 ⟨⟨aP,aP,fun j=>aP⟩,ag⟩
theorem iV (e s p a:Nat)(own:Own)(f:List Doc.Item)(j:List Doc.Tr)(w:World)(h:gQ w own e s f p j) :
 Calls Tryz.prog 79 #[.pointer (some ⟨e,0,none⟩),.int .i64 (a:Int)] w fun k t=>k=.returned (.agg #[.int .i64 (a:Int),.int .i64 (p:Int)])/\Below w.heap.size w t:=by
 obtain⟨F,l,g⟩:=h.ord.items;obtain⟨u,v,rfl,_⟩:=id g;have x:=h.ord.lt;obtain⟨m,b⟩:=eB.start w;have y:=di m;have n:=di b;have o:=h.lies.item;have c:=di (wR (.slice u f.length v) f 0 _ (g.items.below b));rw[ll o]at c;simp only[Doc.Tr.pos,Doc.Tr.text]at c;obtain⟨fin,q⟩:=aJ (0+(Doc.flat (.list p j) 0).length);rw[q]at c;have G:=(b.cell (p:=⟨e,1,none⟩) x).trans l;have H:=uY (.int .i64 (p:Int)) (.string ⟨([]:List UInt8).toArray⟩) (.int .i64 (fin:Int));clear m b o q g h l;go_enter Tryz.func79,Tryz.ntmps79;go_wp2_with fail;refine c.o.mono ?_;rintro k I ⟨rfl,i⟩;have d:=y.o.below i;have z:=di (n.o.trans (i.mono n.o.size));have A:=d.c0;have B:=d.c1;have J:=d.fr;obtain⟨K,L,C,D,r⟩:=iY A B (.int .i64 (a:Int)) (.int .i64 (p:Int));have E:=di (z.o.trans r);clear i d r;go_wp2_with fail;exact bodyPost_ret (v:=.agg #[.int .i64 (a:Int),.int .i64 (p:Int)]) (by simp[results,Tryz.results79,go_sem,C,D]) rfl ⟨rfl,E.o⟩
theorem nM (d v x j:Nat)(own:Own)(e:List Doc.Item)(a:List Doc.Tr)(w:World)(h:gQ w own d v e x a)(n:j<a.length) :
 Calls Tryz.prog 80 #[.pointer (some ⟨d,0,none⟩),.int .i64 (j:Int)] w fun f g=>f=.returned (.agg #[.int .i64 (a[j].pos:Int),.string ⟨a[j].text.toArray⟩,.int .i64 ((Doc.start a 1 j+(Doc.flat a[j] (Doc.start a 1 j)).length:Nat):Int)])/\Below w.heap.size w g:=by
 obtain⟨P,y,i⟩:=h.ord.items;obtain⟨o,p,rfl,_⟩:=id i;obtain⟨Q,R,z,k⟩:=h.ins;have q:=h.ord.lt;obtain⟨r,A,S⟩:=gG k.ints;rw[<-r]at A;have b:Below w.heap.size w (w.alloc (.cells #[.int .i64 0,.string ⟨#[]⟩,.int .i64 0] 129)):=ag;have B:=di b;have l:=(h.lies.kid n).item;rw[Nat.zero_add]at l;obtain⟨C,rfl,m⟩:=eY k.ints j _ (Doc.kV n);have T:=(b.cell (p:=⟨C,j,none⟩) (ai m)).trans m;have U:=ai m
 have D:Hid (∀W,Below (w.heap.size+1) (w.alloc (.cells #[.int .i64 0,.string ⟨#[]⟩,.int .i64 0] 129)) W->Calls Tryz.prog 118 #[.slice o e.length p,.int .i64 (Doc.start a 1 j:Nat)] W fun f g=>f=.returned (.agg #[.int .i64 (a[j].pos:Int),.string ⟨a[j].text.toArray⟩,.int .i64 ((Doc.start a 1 j+(Doc.flat a[j] (Doc.start a 1 j)).length:Nat):Int)])/\Below W.heap.size W g):=fun W E=>by
  have:=wR (.slice o e.length p) e (Doc.start a 1 j) W (i.items.below (b.trans (E.mono aO)));rw[ll l]at this;exact this
 have V:=(b.cell (p:=⟨d,1,none⟩) q).trans y;have X:=(b.cell (p:=⟨d,2,none⟩) q).trans z;generalize Doc.start a 1 j+(Doc.flat a[j] (Doc.start a 1 j)).length=fin at *;generalize Doc.start a 1 j=Y at *;generalize a[j].pos=s at *;generalize a[j].text=t at *;have Z:(j:Int)<(a.length:Int):=aO;have hj0:¬((j:Int)<0):=aO;clear b l i h k r;go_enter Tryz.func80,Tryz.ntmps80;go_wp2_with fail
 go_region_with (go_at_call 118;refine(D.o _ ah0).mono ?_;rintro f F ⟨rfl,c⟩;have G:=(c.cell (p:=⟨w.heap.size,0,none⟩) aP).trans (show _=some (.int .i64 0) by simp);have H:=(c.cell (p:=⟨w.heap.size,1,none⟩) aP).trans (show _=some (.string ⟨#[]⟩) by simp);have I:=(c.cell (p:=⟨w.heap.size,2,none⟩) aP).trans (show _=some (.int .i64 0) by simp);have qf:∀j,F.frozen? ⟨w.heap.size,j,none⟩=false:=fun j=>(c.frozen (p:=⟨w.heap.size,j,none⟩) aP).trans aP)
 all_goals
  obtain⟨wz,J,K,L,M,u,N⟩:=iI G H I (.int .i64 (s:Int)) (.string ⟨t.toArray⟩) (.int .i64 (fin:Int));have O:=di ((B.o.drew.trans (c.mono aP)).trans u);clear c u N;go_wp2_with fail;rw[J];exact bodyPost_ret (v:=.agg #[.int .i64 (s:Int),.string ⟨t.toArray⟩,.int .i64 (fin:Int)]) (by simp[results,Tryz.results80,go_sem,K,L,M]) rfl ⟨rfl,O.o⟩
theorem Hy (c i p:Nat)(own:Own)(j:List Doc.Item)(a:List Doc.Tr)(w:World)(h:gQ w own c i j p a) :
 Calls Tryz.prog 86 #[.pointer (some ⟨c,0,none⟩)] w fun k q=>k=.returned (if a.length=1 then .agg #[.int .i64 0,.int .i64 0] else .agg #[.int .i64 4,.int .i64 (p:Int)])/\Below w.heap.size w q:=by
 obtain⟨E,F,r,l⟩:=h.ins;have s:=h.ord.lt;obtain⟨m,t,G⟩:=gG l.ints;rw[<-m]at t;obtain⟨n,d⟩:=eB.start w;have u:=di n;have f:=di d;have H:=(d.cell (p:=⟨c,2,none⟩) s).trans r;have v:=di (iV c i p 4 own j a _ (h.below d));clear m l h d n
 by_cases b:a.length=1
 ·rw[if_pos b];have x:((a.length:Int) !=1)=false:=cO;generalize a.length=L at *;clear b;go_enter Tryz.func86,Tryz.ntmps86;go_wp2_with fail;exact bodyPost_ret (v:=.agg #[.int .i64 0,.int .i64 0]) (by simp[results,Tryz.results86,go_sem]) rfl ⟨rfl,f.o⟩
 ·rw[if_neg b];have x:((a.length:Int) !=1)=true:=aQ;generalize a.length=L at *;clear b;go_enter Tryz.func86,Tryz.ntmps86;go_wp2_with fail;refine v.o.mono ?_;rintro k I ⟨rfl,g⟩;have e:=u.o.below g;have y:=di (f.o.trans (g.mono f.o.size));have z:=e.c0;have A:=e.c1;have J:=e.fr;obtain⟨K,M,B,C,o⟩:=iY z A (.int .i64 4) (.int .i64 (p:Int));have D:=di (y.o.trans o);clear g e o;go_wp2_with fail;exact bodyPost_ret (v:=.agg #[.int .i64 4,.int .i64 (p:Int)]) (by simp[results,Tryz.results86,go_sem,B,C]) rfl ⟨rfl,D.o⟩
def gF (w w':World)(own:Own)(k sb:Nat)(S:Doc.dB)(R:Except (Nat × Nat) Doc.dB)(e:Ending):Prop:=
 ∃own',Fr own own' k w w'/\match R with
  | .ok S'=>e=.returned (.agg #[.int .i64 0,.int .i64 0])/\dA w' own' k sb S'
  | .error x=>e=.returned (.agg #[.int .i64 (x.1:Nat),.int .i64 (x.2:Nat)])/\x.1≠0/\dA w' own' k sb S
theorem gF.two {own:Own}{S:Doc.dB}{R:Except (Nat × Nat) Doc.dB}(b:gF w W own n m S R h):∃c d:Nat,h=.returned (.agg #[.int .i64 (c:Int),.int .i64 (d:Int)]):=by
 obtain⟨_,_,a⟩:=b;cases R with
 | ok r=>exact⟨0,0,a.1⟩
 | error x=>exact⟨x.1,x.2,a.1⟩
theorem gF.fb {own:Own}{S:Doc.dB}{R:Except (Nat × Nat) Doc.dB}(a:gF W u own n m S R h)(b:eB w W k)(c:own k≠n):eB w u k:=by
 obtain⟨_,d,_⟩:=a;exact b.fr' d c
theorem gF.dU {own:Own}{S:Doc.dB}{R:Except (Nat × Nat) Doc.dB}(i:gF W u (dw own k (n+1)) n m S R h)(j:Fr own (dw own k (n+1)) n w W)(e:w.heap.size<=k)(l:k<W.heap.size)
 (o:∀(own a:Own) (n:Nat) (d:World),Fr own a n d u->d.heap.size<=k->Fr own a n d U) (p:∀(own:Own) (n m:Nat) (S:Doc.dB),dA u own n m S->own k≠0->own k≠n->dA U own n m S):gF w U own n m S R h:=by
 obtain⟨a,f,b⟩:=i;have r:a k=n+1:=ajv;refine⟨dw a k 0,(o _ _ _ _ (j.trans f) e).unbox e,?_⟩;have g:∀c,dA u a n m c->dA U (dw a k 0) n m c:=fun c q=>(p a n m c q aO aO).unbox aO aO;cases R with
 | ok s=>exact⟨b.1,g _ b.2⟩
 | error x=>exact⟨b.1,b.2.1,g _ b.2.2⟩
theorem gF.fault {own:Own}{a b:Nat}{S:Doc.dB}(d:dH own w)(e:dA w own n m S)(c:Below w.heap.size w W)(f:a≠0):gF w W own n m S (.error (a,b)) (.returned (.agg #[.int .i64 (a:Nat),.int .i64 (b:Nat)])):=
 ⟨own,Fr.of_below n d c,rfl,f,e.below c⟩
theorem gF.drew {own:Own}{S:Doc.dB}{R:Except (Nat × Nat) Doc.dB}(c:gF w W own n m S R h):gF w W.drew own n m S R h:=by
 obtain⟨d,e,a⟩:=c;have b:Below W.heap.size W W.drew:=af.drew;refine⟨d,e.drew,?_⟩;cases R with
 | ok r=>exact⟨a.1,a.2.below b⟩
 | error x=>exact⟨a.1,a.2.1,a.2.2.below b⟩
theorem kJ.cpp {own:Own}{S a:Doc.dB}(h:kJ W u own n m a)(b:dH own w)(c:Below w.heap.size w W):gF w u own n m S (.ok a) (.returned (.agg #[.int .i64 0,.int .i64 0])):=by
 obtain⟨d,e,f⟩:=h;exact⟨d,(Fr.of_below n b c).trans e,rfl,f⟩
theorem RO (o f p k:Nat)(own:Own)(t:List Doc.Item)(j:List Doc.Tr)(S:Doc.dB)(w:World)(E:gQ w own o f t p j)(F:dA w own k f S)(G:dH own w)(u:k≠0) :
 Calls Tryz.prog 85 #[.pointer (some ⟨o,0,none⟩)] w fun q O=>gF w O own k f S (if j.length=1 then .ok Doc.dB.empty else .error (4,p)) q:=by
 obtain⟨b,H⟩:∃b,w.alloc (.cells #[.int .i64 0,.int .i64 0] 64)=b:=⟨_,rfl⟩;obtain⟨v,l⟩:=eB.start w;rw[H]at v l;have hsz:b.heap.size=w.heap.size+1:=by rw[<-H];simp
 have I:=di v;have g:Hid (Fr own (dw own w.heap.size (k+1)) k w b):=Fr.boxed G l ae aO;have J:Hid (dA b (dw own w.heap.size (k+1)) k f S):=F.boxed l ae;have K:Hid (gQ b (dw own w.heap.size (k+1)) o f t p j):=E.boxed l ae;have r:=di (Hy o f p _ t j b K.o);have L:Hid (dw own w.heap.size (k+1) w.heap.size≠k):=bR;clear E F G v l
 by_cases i:j.length=1
 ·rw[if_pos i];rw[if_pos i]at r;clear i;go_enter Tryz.func85,Tryz.ntmps85;go_wp2_with fail;refine r.o.mono ?_;rintro q a ⟨rfl,c⟩;have e:Below b.heap.size b (a.alloc (.cells #[.int .i64 0,.int .i64 0] 64)):=c.alloc c.size _;have P:=di e;have x:=c.size;have Q:=(K.o.ord.below e).st;have M:dH (dw own w.heap.size (k+1)) (a.alloc (.cells #[.int .i64 0,.int .i64 0] 64)):=fun R T=>g.o.dJ R (Nat.le_trans e.size T);have U:=di (TP f k _ S _ (J.o.below e) M u);clear c e M;go_wp2_with fail;refine U.o.mono ?_;rintro q N ⟨rfl,s⟩;have h:=s.cpp (S:=S) g.o.dJ P.o;have d:=h.fb I.o L.o
  have V:N.cell? ⟨a.heap.size,0,none⟩=some (.int .i64 0):=by
   obtain⟨_,y,_⟩:=s;exact y.cell (p:=⟨a.heap.size,0,none⟩) aP aji
  have W:N.cell? ⟨a.heap.size,1,none⟩=some (.int .i64 0):=by
   obtain⟨_,y,_⟩:=s;exact y.cell (p:=⟨a.heap.size,1,none⟩) aP aji
  have z:=d.c0;have A:=d.c1;have X:=d.fr;obtain⟨Y,Z,B,C,m,n⟩:=dL z A (.int .i64 0) (.int .i64 0);have D:=di (h.dU g.o ae aO m n);clear s h d m n Q;go_wp2_with fail;exact bodyPost_ret (v:=.agg #[.int .i64 0,.int .i64 0]) (by simp[results,Tryz.results85,go_sem,B,C]) rfl D.o
 ·rw[if_neg i];rw[if_neg i]at r;clear i;go_enter Tryz.func85,Tryz.ntmps85;go_wp2_with fail;refine r.o.mono ?_;rintro q a ⟨rfl,c⟩;have e:Below b.heap.size b (a.alloc (.cells #[.int .i64 4,.int .i64 (p:Int)] 64)):=c.alloc c.size _;have x:=c.size;have V:(a.alloc (.cells #[.int .i64 4,.int .i64 (p:Int)] 64)).cell? ⟨a.heap.size,0,none⟩=some (.int .i64 4):=aP;have W:(a.alloc (.cells #[.int .i64 4,.int .i64 (p:Int)] 64)).cell? ⟨a.heap.size,1,none⟩=some (.int .i64 (p:Int)):=aP;clear c;go_upto_region 2 with fail;generalize a.alloc (.cells #[.int .i64 4,.int .i64 (p:Int)] 64)=wa at *;have h:=gF.fault (a:=4) (b:=p) g.o.dJ J.o e aO;have d:=h.fb I.o L.o;have z:=d.c0;have A:=d.c1;have X:=d.fr;obtain⟨Y,Z,B,C,m,n⟩:=dL z A (.int .i64 4) (.int .i64 (p:Int));have D:=di (h.dU g.o ae aO m n);clear h d m n e;go_wp2_with fail;exact bodyPost_ret (v:=.agg #[.int .i64 4,.int .i64 (p:Int)]) (by simp[results,Tryz.results85,go_sem,B,C]) rfl D.o
def countP (p:Nat)(ks:List Doc.Tr):Except (Nat × Nat) Nat:=
 if 2<ks.length then .error (4,p) else if ks.length<2 then .ok 1
 else match ks[1]? with|none=>.ok 1|some t=>if Doc.digits t.text=true then .ok (numOf t.text) else .error (4,t.pos)
def BC (R:Except (Nat × Nat) Nat):Value:=match R with
 | .ok n=>.tuple #[.int .i64 (n:Nat),.agg #[.int .i64 0,.int .i64 0]]
 | .error x=>.tuple #[.int .i64 0,.agg #[.int .i64 (x.1:Nat),.int .i64 (x.2:Nat)]]
theorem Hq (k E p:Nat)(own:Own)(F:List Doc.Item)(a:List Doc.Tr)(w:World)(l:gQ w own k E F p a)(hwd:Doc.eu a<=800) :
 Calls Tryz.prog 127 #[.pointer (some ⟨k,0,none⟩)] w fun h R=>h=.returned (BC (countP p a))/\Below w.heap.size w R:=by
 obtain⟨bg,bn,S,J⟩:=l.ins;have T:=l.ord.lt;obtain⟨K,U,k2⟩:=gG J.ints;rw[<-K]at U;obtain⟨L,m⟩:=eB.start w;have G:=di L;have f:=di m;have o2:=(m.cell (p:=⟨k,2,none⟩) T).trans S;have V:=di (iV k E p 4 own F a _ (l.below m));have B:=di (fun(n:1<a.length)=>nM k E p 1 own F a _ (l.below m) n);clear K J l m L
 by_cases i:2<a.length
 ·have o:Hid (countP p a=.error (4,p)):=by show _=_;unfold countP;rw[if_pos i]
  rw[o.o];have M:(2:Int)<(a.length:Int):=aO;clear i B;go_enter Tryz.func127,Tryz.ntmps127;go_wp2_with fail;refine V.o.mono ?_;rintro h j ⟨rfl,c⟩;have b:=G.o.below c;have q:=di (f.o.trans (c.mono f.o.size));have r:=b.c0;have s:=b.c1;have N:=b.fr;obtain⟨O,P,u,v,d⟩:=iY r s (.int .i64 4) (.int .i64 (p:Int));have y:=di (q.o.trans d);clear c b d;go_wp2_with fail;exact bodyPost_ret (v:=.tuple #[.int .i64 0,.agg #[.int .i64 4,.int .i64 (p:Int)]]) ai6 rfl ⟨rfl,y.o⟩
 ·by_cases z:a.length<2
  ·have o:Hid (countP p a=.ok 1):=by show _=_;unfold countP;rw[if_neg i,if_pos z]
   rw[o.o];have M:¬((2:Int)<(a.length:Int)):=aO;have W:(a.length:Int)<2:=aO;clear i B z;go_enter Tryz.func127,Tryz.ntmps127;go_wp2_with fail;exact bodyPost_ret (v:=.tuple #[.int .i64 1,.agg #[.int .i64 0,.int .i64 0]]) (by simp[results,Tryz.results127,go_sem]) rfl ⟨rfl,f.o⟩
  ·have n:1<a.length:=aO;obtain⟨t,C⟩:=aJ (a[1]);have o:Hid (countP p a=if Doc.digits t.text=true then .ok (numOf t.text) else .error (4,t.pos)):=by show _=_;unfold countP;rw[if_neg i,if_neg z,aD n,C]
   rw[o.o];have H:=di (B.o n);rw[C]at H
   have hwt:t.text.length<=1000:=by
    have X:t∈a:=by rw[<-C];exact List.getElem_mem n
    have:=Doc.jl (ks:=a) t X;have z:t.text.length<=t.width:=by cases t<;>simp[Doc.Tr.text,Doc.Tr.width]
    exact aO
   have M:¬((2:Int)<(a.length:Int)):=aO;have W:¬((a.length:Int)<2):=aO;generalize Doc.start a 1 1+(Doc.flat t (Doc.start a 1 1)).length=fin at *;generalize t.text=x at *;generalize t.pos=e at *;have D:=di (fun Y=>De x Y aO);have Z:numOf x=numOf x:=rfl;clear i z B C Z;cases hd:Doc.digits x
   ·rw[hd]at D;simp only[Bool.false_eq_true,if_false];clear hd;generalize numOf x=Q at *;go_enter Tryz.func127,Tryz.ntmps127;go_wp2_with fail;refine H.o.mono ?_;rintro h j ⟨rfl,c⟩;have g:=c.alloc c.size (.cells #[.int .i64 (e:Int),.string ⟨x.toArray⟩,.int .i64 (fin:Int)] 129);have b:=G.o.below g;have q:=di (f.o.trans (g.mono f.o.size));have i0:(j.alloc (.cells #[.int .i64 (e:Int),.string ⟨x.toArray⟩,.int .i64 (fin:Int)] 129)).cell? ⟨j.heap.size,0,none⟩=some (.int .i64 (e:Int)):=aP;clear c g;go_wp2_with fail;refine(D.o _).mono ?_;rintro h I ⟨rfl,A⟩;rw[A];clear A I;go_upto_region 8 with fail;generalize j.alloc (.cells #[.int .i64 (e:Int),.string ⟨x.toArray⟩,.int .i64 (fin:Int)] 129)=wa at *;have r:=b.c0;have s:=b.c1;have N:=b.fr;obtain⟨O,P,u,v,d⟩:=iY r s (.int .i64 4) (.int .i64 (e:Int));have y:=di (q.o.trans d).drew;clear b d;go_region
    all_goals
     go_wp2_with fail;exact bodyPost_ret (v:=.tuple #[.int .i64 0,.agg #[.int .i64 4,.int .i64 (e:Int)]]) ai6 rfl ⟨rfl,y.o⟩
   ·rw[hd]at D;simp only[if_true];clear hd;generalize numOf x=Q at *;go_enter Tryz.func127,Tryz.ntmps127;go_wp2_with fail;refine H.o.mono ?_;rintro h j ⟨rfl,c⟩;have g:=c.alloc c.size (.cells #[.int .i64 (e:Int),.string ⟨x.toArray⟩,.int .i64 (fin:Int)] 129);have b:=G.o.below g;have q:=di (f.o.trans (g.mono f.o.size));clear c g;go_wp2_with fail;refine(D.o _).mono ?_;rintro h I ⟨rfl,A⟩;rw[A];clear A I;go_upto_region 7 with fail;generalize j.alloc (.cells #[.int .i64 (e:Int),.string ⟨x.toArray⟩,.int .i64 (fin:Int)] 129)=wa at *;have r:=b.c0;have s:=b.c1;have N:=b.fr;obtain⟨O,P,u,v,d⟩:=iY r s (.int .i64 0) (.int .i64 0);have y:=di (q.o.trans d);clear b d;go_wp2_with fail;exact bodyPost_ret (v:=.tuple #[.int .i64 (Q:Int),.agg #[.int .i64 0,.int .i64 0]]) ai6 rfl ⟨rfl,y.o⟩
end Go.Proofs.YtbichedkajfmiaaGreatDoor
