import Derived.Test.YtbichedkajfmiaaGreatDoorGLaws0
import Derived.Test.YtbichedkajfmiaaGreatDoorC
set_option maxRecDepth 100000
set_option maxHeartbeats 16000000
namespace Go.Proofs.YtbichedkajfmiaaGreatDoor
open Go.RowKit
variable {D:Tc}{O o:Own}{W w:World}{Y:Doc.Tr}{b:List Value}{k m n:Nat}{l:List Nat}{x:List UInt8}
theorem ik.deeper {P:Nat->Prop}(h:ik w P n D Y){Q:Nat->Prop}(a:∀g,g<w.heap.size->P g->Q g):ik w Q n D Y:=ik.kept (fun g b c=>⟨rfl,a g b c⟩) n D Y h
theorem sV (l:List UInt8)(n i:Nat)(w:World)(hl:l.length<=1000000)(hn:n<=100)(hlt:i<l.length)(I:l[i]?=some 40)
 (ih:∀(i:Nat) (w:World),Doc.je l i->Calls Tryz.prog 135 #[.string ⟨l.toArray⟩,.int .i64 i,.int .i64 n] w fun j C=>wC C (fun D=>w.heap.size<=D) (n+1) (Doc.tree l n i) j/\Below w.heap.size w C) :
 Calls Tryz.prog 135 #[.string ⟨l.toArray⟩,.int .i64 i,.int .i64 (n+1:Nat)] w fun j C=>wC C (fun D=>w.heap.size<=D) (n+1+1) (Doc.tree l (n+1) i) j/\Below w.heap.size w C:=by
 have hR:=fJ;obtain⟨i0,hi,hz0,hz1,hz2⟩:=info_parts Tryz.infoTree;rw[Doc.sV I];have abO:l[i]=40:=by rw[aD hlt]at I;simpa using I
 have ahz:((l[i].toNat:Int) !=40)=false:=by rw[abO];rfl
 have Ig:=di ih;have y7:=di (fun i hi w=>Ht l i w hi aO);have Dj:=di (fun c w=>GR c w);have HTB:=di (fun i J t=>Doc.oh l n i J t);clear ih I abO;have HB:=di (kK.aav w i);have HL:Hid (Below w.heap.size w ((w.alloc (.cells #[.string ⟨#[]⟩,.bool false,.slice none 0 0,.int .i64 0] 138)).alloc (.cells #[.string ⟨#[]⟩,.bool true,.slice none 0 0,.int .i64 i] 138))):=ag.alloc aP _;have wJ:Hid (Doc.blank l (i+1)<=l.length/\i<Doc.blank l (i+1)):=⟨Doc.pU aO,by have:=Doc.nR l (i+1);omega⟩;have abM:=y7.o (i+1) aO;have HR0:Hid (Doc.eQ (Doc.tree l n) l i (l.length+1) (Doc.blank l (i+1)) []=Doc.eQ (Doc.tree l n) l i (l.length+1) (Doc.blank l (i+1)) []):=rfl;generalize abH:Doc.eQ (Doc.tree l n) l i (l.length+1) (Doc.blank l (i+1)) []=bn at *;generalize Doc.blank l (i+1)=bq at *;have Xz:=di abH;have agh:=di abM;clear abH abM;go_enter Tryz.func135,Tryz.ntmps135;go_wp2_with fail;refine(agh.o _).mono ?_;rintro j w0 ⟨rfl,rfl⟩;go_wp2_with fail
 go_loopw [1] (fun R wr=>∃(k u:Nat) (d:Option Addr) (m e:Nat) (K:List Doc.Tr),R=.int .i64 k/\k<=l.length/\i<k/\m<=k/\l.length<u+k/\Doc.eQ (Doc.tree l n) l i u k K=bn/\qY w.heap.size wr (n+1) i d m e K/\Below w.heap.size w wr) (fun R _=>l.length-(intOf R).toNat)
 case atStart=>exact⟨bq,l.length+1,none,0,0,[],rfl,wJ.o.1,wJ.o.2,aO,aO,Xz.o,⟨HB.o,[],World.ownsRow_nil _ _ _ _,.nil,rfl⟩,HL.o⟩
 case round=>
  obtain⟨k,u,d,m,e,K,rfl,hk,hik,hmk,hf,hR',f,S⟩:=hrel;obtain⟨u,rfl⟩:∃f',u=f'+1:=⟨u-1,aO⟩;have L:=di f;have E:=di hR';have qy:=di S;have hsz:=f.box.size;have T:=f.box.t.x;have U:=f.box.t.b;have V:=f.box.t.k;have W:=f.box.t.p;have hfr:=f.box.fr;have r0:=f.box.r0;have hrf:=f.box.rf;obtain⟨_,_,_,X,Y,Z⟩:=f.box.done;have iQ:=di (f.box.fin S ae);have Ol:=di f.box.done.2.1;simp only at T U V W X Y Z;clear f hR' S
  by_cases F:k<l.length
  ·by_cases z:l[k]=41
   ·have aeL:((l[k].toNat:Int) !=41)=false:=by rw[z];rfl
    have b:=E.o;rw[Doc.Es F z]at b;go_wp2_with fail;obtain⟨a,v⟩:=iQ.o;have o:=a.x;have p:=a.b;have q:=a.k;have r:=a.p;simp only[jk]at o p q r;exact bodyPost_ret (v:=.tuple #[.agg #[.string ⟨#[]⟩,.bool true,.slice d m e,.int .i64 i],.int .i64 (k+1:Nat),.int .i64 0]) ais rfl ⟨by rw[<-b];exact⟨⟨[],true,d,m,e,i⟩,rfl,L.o.done Ol.o⟩,v⟩
   ·have aeL:((l[k].toNat:Int) !=41)=true:=by
     rw[bne,show(41:Int)=((41:Nat):Int) from rfl,mX aO];exact ajQ
    have HST:Hid (Doc.named l[k]=true\/l[k]=40->Doc.je l k):=fun h=>⟨l[k],aD F,h⟩;go_wp2_with fail;refine(Dj.o l[k] wr).mono ?_;rintro j A ⟨rfl,rfl⟩
    have hcase:(Doc.named l[k]=false/\l[k]≠40)\/(Doc.named l[k]=true\/l[k]=40):=by
     cases Doc.named l[k]
     ·by_cases h:l[k]=40
      ·exact .inr (.inr h)
      ·exact .inl ⟨rfl,h⟩
     ·exact .inr (.inl rfl)
    have PK:l[k]≠40->((l[k].toNat:Int) !=40)=true:=fun h=>by
     rw[bne,show(40:Int)=((40:Nat):Int) from rfl,mX aO];exact ajq
    have PU:l[k]=40->((l[k].toNat:Int) !=40)=false:=fun h=>by rw[h];rfl
    rcases hcase with ⟨G,abN⟩|M
    ·have aeM:=PK abN;have b:=E.o;rw[Doc.Kg F z G abN]at b;rw[G];clear PK PU;exact alq
    ·have Oi:=di M
     have hcs:Doc.named l[k]=true\/(Doc.named l[k]=false/\((l[k].toNat:Int) !=40)=false):=by
      rcases M with h|h
      ·exact .inl h
      ·cases N:Doc.named l[k]
       ·exact .inr ⟨rfl,PU h⟩
       ·exact .inl rfl
     have afL:=di (Ig.o k A (HST.o M));clear M PK PU;rcases hcs with G|⟨G,aeM⟩
     all_goals
      rw[G];go_wp2_with fail;refine afL.o.mono ?_;rintro j B ⟨O,x⟩;have hsz1:=x.size;cases hT:Doc.tree l n k with
      | err er bg=>
       have her:=Doc.zo l n k er bg hT;rw[hT]at O;obtain⟨c,rfl⟩:=O;have s:Below A.heap.size A (B.alloc (.cells #[.string ⟨c.x.toArray⟩,.bool c.bb,.slice c.ao c.m c.cap,.int .i64 c.p] 138)):=x.alloc x.size _;have b:=E.o;rw[Doc.Kc F z Oi.o hT]at b;have mq:=di s;have g:=di (L.o.below s);have e0:=g.o.box.t.x;have e1:=g.o.box.t.b;have P:=g.o.box.t.k;have e3:=g.o.box.t.p;have s0:=g.o.box.r0;have srf:=g.o.box.rf;obtain⟨_,_,_,y1,y2,y3⟩:=g.o.box.done;have adv:=di (g.o.box.fin (qy.o.trans (s.mono aO)) ae);simp only at e0 e1 P e3 y1 y2 y3;have hen:((er:Int) !=0)=true:=aQ;clear s x T U V W r0 hrf X Y Z hfr;go_wp2_with fail;obtain⟨a,v⟩:=adv.o;have o:=a.x;have p:=a.b;have q:=a.k;have r:=a.p;simp only[jk]at o p q r;exact bodyPost_ret (v:=.tuple #[.agg #[.string ⟨#[]⟩,.bool true,.slice d m e,.int .i64 i],.int .i64 bg,.int .i64 er]) ais rfl ⟨ajK,v⟩
      | ok J t=>
       rw[hT]at O;obtain⟨c,rfl,hc⟩:=O;have s:Below A.heap.size A (B.alloc (.cells #[.string ⟨c.x.toArray⟩,.bool c.bb,.slice c.ao c.m c.cap,.int .i64 c.p] 138)):=x.alloc x.size _;have b:=E.o;rw[Doc.Kb F z Oi.o hT]at b;have HRK:=di b;obtain⟨hj1,hj2⟩:=HTB.o k J t (HST.o Oi.o) hT;have mq:=di s;have g:=di (L.o.below s);have HTC:=di (hc.below ((Below.refl B.heap.size B).alloc ae (.cells #[.string ⟨c.x.toArray⟩,.bool c.bb,.slice c.ao c.m c.cap,.int .i64 c.p] 138)));have P:=g.o.box.t.k;have efr:=g.o.box.fr;obtain⟨xs,o1,o2,o3⟩:=L.o.row;have rC:Hid (∀y,(Value.slice d m e).ownBlock=some y->w.heap.size+1+1<=y/\y<A.heap.size):=fun y N=>o1.lt y N;have wK:=di (ownsRow_below o1 s);have Oe:=di (o2.imp (fun _ _ h=>h.below s));have Uj:=di o3;have adh:=di (fun(bA:Obj) (D cap':Nat) (bB:World)=>g.o.snoc (w1:=bB) (g:=D) (cap':=cap') HTC.o (fun y N=>(rC.o y N).2) aO bA wK.o Oe.o Uj.o);have agp:=di (y7.o t hj2);have H:Hid (Doc.blank l t<=l.length/\t<=Doc.blank l t):=⟨Doc.pU hj2,Doc.nR l t⟩;have DI:w.heap.size+1<B.heap.size:=aO;simp only at P;clear s x T U V W r0 hrf X Y Z hfr o1 o2 o3 hc b;go_wp2_with (at_builtin;refine dD rfl (.tmp 92) (.tmp 94) 136 rfl (w.heap.size+1+1) 138 i0 (.agg #[.string ⟨#[]⟩,.bool false,.slice none 0 0,.int .i64 0]) 4 56 Tryz.underlying136 hi hz0 hz1 hz2 rfl aR (.slice d m e) m (xs.map Tc.cells).flatten rfl (by exact(wK.o.alloc _)) ⟨B.heap.size+1,0,none⟩ 1 c.cells rfl rfl (by exact aau _ c _ _ aP) c.one aX aO aQ ?_;intro ga eZ w3 hown' Q hg1 hg2;have q1:w3.cell? ⟨w.heap.size+1,2,none⟩=some (.slice d m e):=((dP Q (a:=⟨w.heap.size+1,2,none⟩) aQ (fun j=>by have:=(rC.o (w.heap.size+1) j.symm).1;omega)).trans (dC _ _ ⟨w.heap.size+1,2,none⟩ aQ)).trans P;have q2:w3.frozen? ⟨w.heap.size+1,2,none⟩=false:=((dS Q (a:=⟨w.heap.size+1,2,none⟩) aQ (fun j=>by have:=(rC.o (w.heap.size+1) j.symm).1;omega)).trans (dI _ _ ⟨w.heap.size+1,2,none⟩ aQ)).trans (efr 2));have HS:=di (adh.o _ ga eZ w3 hown' Q hg2);clear hown' Q hg1 hg2;go_wp2_with fail;refine(agp.o _).mono ?_;rintro j w4 ⟨rfl,rfl⟩;go_wp2_with fail;go_roundw
       case rel=>exact⟨Doc.blank l t,u,_,m+1,eZ,K++[J],rfl,H.o.1,by have:=H.o.2;omega,by have:=H.o.2;omega,by have:=H.o.2;omega,HRK.o,HS.o.1,(qy.o.trans (mq.o.mono aO)).trans HS.o.2⟩
       case measure=>have:=H.o;simp[intOf];omega
  ·have hkl:k=l.length:=aO;have heq:((k:Int)==(l.length:Int))=true:=aQ;have b:=E.o;rw[Doc.Ke aO]at b;clear hkl;exact alq
theorem UN (l:List UInt8)(c:l.length<=1000000):∀(n:Nat),n<=100->∀(i:Nat) (w:World),Doc.je l i->
 Calls Tryz.prog 135 #[.string ⟨l.toArray⟩,.int .i64 i,.int .i64 n] w fun e d=>wC d (fun g=>w.heap.size<=g) (n+1) (Doc.tree l n i) e/\Below w.heap.size w d:=by
 intro n
 induction n with
 | zero=>
  intro _ i w a
  by_cases b:l[i]?=some 40
  ·exact wV l i _ w a.lt b
  ·exact p8 l 0 i _ w c a b
 | succ n f=>
  intro h i w a
  by_cases b:l[i]?=some 40
  ·exact sV l n i w c aO a.lt b (f aO)
  ·exact p8 l (n+1) i _ w c a b
structure uz (B:Nat)(wx:World):Prop where
 r0:wx.cell? ⟨B,0,none⟩=some (.string ⟨#[]⟩)
 r1:wx.cell? ⟨B,1,none⟩=some (.bool false)
 r2:wx.cell? ⟨B,2,none⟩=some (.slice none 0 0)
 r3:wx.cell? ⟨B,3,none⟩=some (.int .i64 0)
 rf:∀o,wx.frozen? ⟨B,o,none⟩=false
theorem uz.start (w:World):uz w.heap.size (w.alloc (.cells #[.string ⟨#[]⟩,.bool false,.slice none 0 0,.int .i64 0] 138)):=⟨aP,aP,aP,aP,ah6⟩
theorem uz.after (h:uz n w)(a:Below w.heap.size w W):uz n W:=by
 have b:=ai h.r0;exact⟨(a.cell (p:=⟨n,0,none⟩) b).trans h.r0,(a.cell (p:=⟨n,1,none⟩) b).trans h.r1,(a.cell (p:=⟨n,2,none⟩) b).trans h.r2,(a.cell (p:=⟨n,3,none⟩) b).trans h.r3,fun o=>(a.frozen (p:=⟨n,o,none⟩) b).trans (h.rf o)⟩
theorem uz.done (h:uz n w)(c:Tc):kg (jk n w c) n 0 c/\(∀b,b≠n->(jk n w c).heap[b]?=w.heap[b]?)/\(jk n w c).heap.size=w.heap.size/\(w.setCell ⟨n,0,none⟩ (.string ⟨c.x.toArray⟩)).cell? ⟨n,1,none⟩=some (.bool false)/\
 ((w.setCell ⟨n,0,none⟩ (.string ⟨c.x.toArray⟩)).setCell ⟨n,1,none⟩ (.bool c.bb)).cell? ⟨n,2,none⟩=some (.slice none 0 0)/\
 (((w.setCell ⟨n,0,none⟩ (.string ⟨c.x.toArray⟩)).setCell ⟨n,1,none⟩ (.bool c.bb)).setCell ⟨n,2,none⟩ (.slice c.ao c.m c.cap)).cell? ⟨n,3,none⟩=some (.int .i64 0):=by
 have d:=setOther w (a:=⟨n,1,none⟩) (b:=⟨n,0,none⟩) (.string ⟨c.x.toArray⟩) h.r1 (.inr aP);have e:=setOther _ (a:=⟨n,2,none⟩) (b:=⟨n,1,none⟩) (.bool c.bb) (setOther w (a:=⟨n,2,none⟩) (b:=⟨n,0,none⟩) (.string ⟨c.x.toArray⟩) h.r2 (.inr aP)) (.inr aP);have f:=setOther _ (a:=⟨n,3,none⟩) (b:=⟨n,2,none⟩) (.slice c.ao c.m c.cap) (setOther _ (a:=⟨n,3,none⟩) (b:=⟨n,1,none⟩) (.bool c.bb) (setOther w (a:=⟨n,3,none⟩) (b:=⟨n,0,none⟩) (.string ⟨c.x.toArray⟩) h.r3 (.inr aP)) (.inr aP)) (.inr aP);have g:=World.cell?_setCell_same w ⟨n,0,none⟩ (.string ⟨c.x.toArray⟩) h.r0;have i:=World.cell?_setCell_same _ ⟨n,1,none⟩ (.bool c.bb) d;have j:=World.cell?_setCell_same _ ⟨n,2,none⟩ (.slice c.ao c.m c.cap) e;have k:=World.cell?_setCell_same _ ⟨n,3,none⟩ (.int .i64 c.p) f;refine⟨⟨?_,?_,?_,k⟩,?_,?_,d,e,f⟩
 ·exact setOther _ _ (setOther _ _ (setOther _ _ g (.inr aP)) (.inr aP)) (.inr aP)
 ·exact setOther _ _ (setOther _ _ i (.inr aP)) (.inr aP)
 ·exact setOther _ _ j (.inr aP)
 ·intro b a;unfold jk;rw[aC a,aC a,aC a,aC a]
 ·simp[jk,World.setCell]
theorem uz.fin (h:uz n W)(c:Tc)(a:Below w.heap.size w W)(d:w.heap.size<=n):kg (jk n W c) n 0 c/\Below w.heap.size w (jk n W c):=
 ⟨(h.done c).1,a.trans ⟨rfl,rfl,rfl,by rw[(h.done c).2.2.1];exact ae,fun b e=>(h.done c).2.1 b aO⟩⟩
theorem ik.stored (h:uz n w){N:Nat}(e:n<N){d:Nat}{c:Tc}{t:Doc.Tr}(b:ik w (fun g=>N<=g) d c t)(a:Tc){M:Nat}(f:M<=N):ik (jk n w a) (fun g=>M<=g) d c t:=
 ik.kept (fun g _ i=>⟨(h.done a).2.1 g aO,aO⟩) d c t b
def TR (w':World)(P:Nat->Prop)(R:Except (Nat × Nat) Doc.Tr)(e:Ending):Prop:=
 match R with
 | .ok t=>∃c:Tc,e=.returned (.tuple #[.agg #[.string ⟨c.x.toArray⟩,.bool c.bb,.slice c.ao c.m c.cap,.int .i64 c.p],.int .i64 0,.int .i64 0])/\ik w' P 13 c t
 | .error x=>∃c:Tc,e=.returned (.tuple #[.agg #[.string ⟨c.x.toArray⟩,.bool c.bb,.slice c.ao c.m c.cap,.int .i64 c.p],.int .i64 x.1,.int .i64 x.2])
theorem H8 (l:List UInt8)(w:World)(M:l.length<=1000000) :
 Calls Tryz.prog 89 #[.string ⟨l.toArray⟩] w fun e B=>TR B (fun N=>w.heap.size<=N) (Doc.parse l) e/\Below w.heap.size w B:=by
 have hR:=fJ;have C:=di (fun i hi w=>Ht l i w hi aO);have D:=C.o 0 aO;have hle:=Doc.pU (l:=l) (i:=0) aO;have v:Hid (Doc.parse l=if l[Doc.blank l 0]?=some 40 then(match Doc.tree l 12 (Doc.blank l 0) with|.err e O=>.error (e,O)|.ok t j=>if Doc.blank l j<l.length then .error (2,Doc.blank l j) else .ok t) else .error (2,Doc.blank l 0)):=rfl;have P:=di (UN l M 12 aO);have Q:=di (fun i t j=>Doc.oh l 12 i t j);have R:=di (fun i e q=>Doc.zo l 12 i e q);generalize Doc.parse l=S at *;generalize Doc.blank l 0=i at *;have T:=di D;have E:Below w.heap.size w (w.alloc (.cells #[.string ⟨#[]⟩,.bool false,.slice none 0 0,.int .i64 0] 138)):=ag;have r:=di E;clear D E;go_enter Tryz.func89,Tryz.ntmps89;go_wp2_with fail;refine(T.o _).mono ?_;rintro e w0 ⟨rfl,rfl⟩
 by_cases F:i<l.length
 ·have U:((i:Int)==(l.length:Int))=false:=aQ
  by_cases o:l[i]=40
  ·have V:((l[i].toNat:Int) !=40)=false:=by rw[o];rfl
   have x:l[i]?=some 40:=by rw[aD F,o]
   have y:Doc.je l i:=⟨40,x,.inr rfl⟩;have z:=v.o;rw[if_pos x]at z;have G:=di z;have W:=di (fun w=>P.o i w y);have X:=di y;clear z o x y;go_wp2_with fail;refine(W.o _).mono ?_;rintro e H ⟨s,m⟩;have hsz:=m.size;cases hT:Doc.tree l 12 i with
   | err A q=>
    rw[hT]at s;have her:=R.o i A q hT;obtain⟨c,rfl⟩:=s;have hen:((A:Int) !=0)=true:=aQ;have a:=G.o;rw[hT]at a;have n:=m.alloc m.size (.cells #[.string ⟨c.x.toArray⟩,.bool c.bb,.slice c.ao c.m c.cap,.int .i64 c.p] 138);have d:=di ((uz.start w).after n);have u:=di (d.o.fin c (r.o.trans (n.mono aP)) ae);have Y:=d.o.r0;have Z:=d.o.rf;obtain⟨_,_,_,y1,y2,y3⟩:=d.o.done c;clear n m;go_wp2_with fail;obtain⟨b,p⟩:=u.o;have f:=b.x;have g:=b.b;have h:=b.k;have k:=b.p;simp only[jk]at f g h k;exact bodyPost_ret (v:=.tuple #[.agg #[.string ⟨c.x.toArray⟩,.bool c.bb,.slice c.ao c.m c.cap,.int .i64 c.p],.int .i64 A,.int .i64 q]) ai3 rfl ⟨by rw[a];exact⟨c,rfl⟩,p⟩
   | ok t j=>
    rw[hT]at s;obtain⟨hj1,hj2⟩:=Q.o i t j X.o hT;obtain⟨c,rfl,I⟩:=s;have a:S=if Doc.blank l j<l.length then .error (2,Doc.blank l j) else .ok t:=by have J:=G.o;rw[hT]at J;exact J
    have K:=di a;have n:=m.alloc m.size (.cells #[.string ⟨c.x.toArray⟩,.bool c.bb,.slice c.ao c.m c.cap,.int .i64 c.p] 138);have HTC:=di (I.below ((Below.refl H.heap.size H).alloc ae (.cells #[.string ⟨c.x.toArray⟩,.bool c.bb,.slice c.ao c.m c.cap,.int .i64 c.p] 138)));have d:=di ((uz.start w).after n);have u:=di (d.o.fin c (r.o.trans (n.mono aP)) ae);have jN:=di (ik.stored d.o aP HTC.o c (M:=w.heap.size) aP);have Y:=d.o.r0;have Z:=d.o.rf;obtain⟨_,_,_,y1,y2,y3⟩:=d.o.done c;have qx:=di (C.o j hj2);generalize Doc.blank l j=q at *;clear n m a I;go_wp2_with fail;refine(qx.o _).mono ?_;rintro e w3 ⟨rfl,rfl⟩
    by_cases L:q<l.length
    ·have a:=K.o.trans (if_pos L);go_wp2_with fail;obtain⟨b,p⟩:=u.o;have f:=b.x;have g:=b.b;have h:=b.k;have k:=b.p;simp only[jk]at f g h k;exact bodyPost_ret (v:=.tuple #[.agg #[.string ⟨c.x.toArray⟩,.bool c.bb,.slice c.ao c.m c.cap,.int .i64 c.p],.int .i64 2,.int .i64 q]) ai3 rfl ⟨by rw[a];exact⟨c,rfl⟩,p⟩
    ·have a:=K.o.trans (if_neg L);go_wp2_with fail;obtain⟨b,p⟩:=u.o;have f:=b.x;have g:=b.b;have h:=b.k;have k:=b.p;simp only[jk]at f g h k;exact bodyPost_ret (v:=.tuple #[.agg #[.string ⟨c.x.toArray⟩,.bool c.bb,.slice c.ao c.m c.cap,.int .i64 c.p],.int .i64 0,.int .i64 0]) ai3 rfl ⟨by rw[a];exact⟨c,rfl,jN.o⟩,p⟩
  ·have V:((l[i].toNat:Int) !=40)=true:=by
    rw[bne,show(40:Int)=((40:Nat):Int) from rfl,mX aO];simpa using o
   have a:=v.o;rw[if_neg (by rw[aD F];simpa using o)]at a;clear o;exact als
 ·have U:((i:Int)==(l.length:Int))=true:=aQ;have a:=v.o;rw[if_neg (by rw[List.getElem?_eq_none aO];simp)]at a;exact als
def placeOf:Option Nat->Int
 | none=>-1
 | some k=>k
theorem Bv {a:Type}(p:a->Bool)(l:List a)(k:Nat)(h:k<l.length):(l.drop k).findIdx? p=if p l[k]=true then some 0 else((l.drop (k+1)).findIdx? p).map (·+1):=by
 rw[List.drop_eq_getElem_cons h,List.findIdx?_cons]
def iG {α:Type}(p:α->Bool)(l:List α)(k:Nat):Option Nat:=((l.drop k).findIdx? p).map (·+k)
theorem qL {a:Type}(p:a->Bool)(l:List a):iG p l 0=l.findIdx? p:=by simp[iG]
theorem tO {a:Type}{p:a->Bool}{l:List a}(h:n<l.length)(b:p l[n]=true):iG p l n=some n:=by
 unfold iG;rw[Bv p l n h,if_pos b];exact aP
theorem qM {a:Type}{p:a->Bool}{l:List a}(h:n<l.length)(b:p l[n]=false):iG p l n=iG p l (n+1):=by
 unfold iG;rw[Bv p l n h,if_neg (by simp[b])];cases (l.drop (n+1)).findIdx? p
 ·rfl
 ·exact aQ
theorem tQ {a:Type}{p:a->Bool}{l:List a}(h:l.length<=n):iG p l n=none:=by unfold iG;rw[List.drop_eq_nil_of_le h];rfl
theorem DV (d:Nat)(a:List Doc.Sym)(h:List dX)(x:List UInt8)(w:World)(e:Gp w d a h) :
 Calls Tryz.prog 185 #[.pointer (some ⟨d,0,none⟩),.string ⟨x.toArray⟩] w fun j l=>j=.returned (.int .i64 (placeOf (Doc.eX a x)))/\l=w:=by
 have t:=fJ;obtain⟨u,v,m⟩:=e.syms;obtain⟨y,z,rfl,A,n,f⟩:=m;unfold maxLen at n;have o:=di f;have p:Hid (Doc.eX a x=iG (fun s:Doc.Sym=>s.name==x) a 0):=(qL _ _).symm;generalize Doc.eX a x=q at *;clear e f;go_enter Tryz.func185,Tryz.ntmps185;go_wp2_with fail
 go_loop [5] (fun i=>∃k:Nat,i=.int .i64 k/\k<=a.length/\q=iG (fun s:Doc.Sym=>s.name==x) a k) (fun i=>a.length-(intOf i).toNat)
 case atStart=>exact⟨0,rfl,aO,p.o⟩
 case round=>
  obtain⟨k,rfl,B,g⟩:=hrel;have c:=di g;clear g
  by_cases b:k<a.length
  ·obtain⟨C,rfl,r⟩:=o.o k b;have D:=(r b).name;cases hq:(a[k].name==x)
   ·go_wp2_with fail
    go_round
    case rel=>exact⟨k+1,bJ,aO,by rw[c.o];exact qM b hq⟩
    case measure=>exact akL
   ·go_wp2_with fail;go_ret;exact⟨fB (by rw[c.o,tO (p:=fun s:Doc.Sym=>s.name==x) b hq];rfl),rfl⟩
  ·go_wp2_with fail;go_ret;exact⟨fB (by rw[c.o,tQ aO];rfl),rfl⟩
theorem TQ (d:Nat)(a:List dX)(x:List UInt8)(w:World)(g:mr w d a) :
 Calls Tryz.prog 262 #[.pointer (some ⟨d,0,none⟩),.string ⟨x.toArray⟩] w fun h j=>h=.returned (.int .i64 (placeOf (Doc.place a x)))/\j=w:=by
 have r:=fJ;obtain⟨t,u,l⟩:=g;obtain⟨v,y,rfl,z,m,e⟩:=l;unfold maxLen at m;have n:=di e;have o:Hid (Doc.place a x=iG (fun s:Doc.Term=>s.text==x) a 0):=(qL _ _).symm;generalize Doc.place a x=p at *;clear e;go_enter Tryz.func262,Tryz.ntmps262;go_wp2_with fail
 go_loop [5] (fun i=>∃k:Nat,i=.int .i64 k/\k<=a.length/\p=iG (fun s:Doc.Term=>s.text==x) a k) (fun i=>a.length-(intOf i).toNat)
 case atStart=>exact⟨0,rfl,aO,o.o⟩
 case round=>
  obtain⟨k,rfl,A,f⟩:=hrel;have c:=di f;clear f
  by_cases b:k<a.length
  ·obtain⟨B,rfl,q⟩:=n.o k b;have C:=(q b).text;cases hq:(a[k].text==x)
   ·go_wp2_with fail
    go_round
    case rel=>exact⟨k+1,bJ,aO,by rw[c.o];exact qM b hq⟩
    case measure=>exact akL
   ·go_wp2_with fail;go_ret;exact⟨fB (by rw[c.o,tO (p:=fun s:Doc.Term=>s.text==x) b hq];rfl),rfl⟩
  ·go_wp2_with fail;go_ret;exact⟨fB (by rw[c.o,tQ aO];rfl),rfl⟩
theorem agB (c:UInt8):(decide ((c.toNat:Int)<48)||decide ((c.toNat:Int)>57))=!Doc.digit c:=by
 unfold Doc.digit;rw[Bool.eq_iff_iff];simp only[Bool.or_eq_true,decide_eq_true_eq,Bool.not_eq_true',Bool.and_eq_false_iff,decide_eq_false_iff_not];exact aO
theorem zW:Doc.digits []=false:=aR
theorem xW (h:8<x.length):Doc.digits x=false:=by
 unfold Doc.digits;have:(decide (x.length<=8))=false:=aQ;rw[this];exact aP
theorem CZ (h:x.head?=some 48)(a:x≠[48]):Doc.digits x=false:=by
 unfold Doc.digits;have b:(x.head?==some 48)=true:=by rw[h];rfl
 have c:(x !=[48])=true:=aiW;rw[b,c];exact aP
theorem uZ (a:x≠[])(b:x.length<=8)(c:¬(x.head?=some 48/\x≠[48])):Doc.digits x=x.all Doc.digit:=by
 unfold Doc.digits;have d:(decide (x.length≠0))=true:=aiW;have e:(decide (x.length<=8))=true:=ajh
 have f:(x.head?==some 48&&x !=[48])=false:=by
  rw[Bool.and_eq_false_iff]
  by_cases h:x.head?=some 48
  ·right
   have:x=[48]:=Decidable.byContradiction fun g=>c ⟨h,g⟩;rw[this];rfl
  ·left;simpa using h
 rw[d,e,f];exact aP
theorem Ld (p:UInt8->Bool)(l:List UInt8)(k:Nat)(h:k<l.length):(l.drop k).all p=(p l[k]&&(l.drop (k+1)).all p):=akI
theorem xw (h:0<x.length):x.head?=some 48↔((x[0].toNat:Int)==48)=true:=by
 cases x with
 | nil=>simp at h
 | cons c u=>
  rw[show(48:Int)=((48:Nat):Int) from rfl,mX aO];exact aP
theorem FB (x:List UInt8)(w:World)(y:x.length<=1000000) :
 Calls Tryz.prog 233 #[.string ⟨x.toArray⟩] w fun o p=>o=.returned (.bool (Doc.digits x))/\p=w:=by
 have z:=fJ;cases hE:(x==[])
 ·have f:x≠[]:=by simpa using hE
  have l:0<x.length:=List.length_pos_iff.2 f;have m:=di f;clear f
  by_cases q:8<x.length
  ·have a:=xW q;exact amd
  ·have r:(((x[0].toNat:Int)==48)=true/\(x==[48])=false)\/((((x[0].toNat:Int)==48)=false\/(((x[0].toNat:Int)==48)=true/\(x==[48])=true))/\Doc.digits x=x.all Doc.digit):=by
    cases b:((x[0].toNat:Int)==48)
    ·refine .inr ⟨.inl rfl,uZ m.o aO ?_⟩;rintro ⟨h,_⟩;rw[(xw l).1 h]at b;cases b
    ·cases d:(x==[48])
     ·exact .inl ⟨rfl,rfl⟩
     ·refine .inr ⟨.inr ⟨rfl,rfl⟩,uZ m.o aO ?_⟩;rintro ⟨_,h⟩;exact h ajw
   rcases r with ⟨b,d⟩|⟨s,a⟩
   ·have a:=CZ ((xw l).2 b) ajw;exact amd
   ·have t:Hid (Doc.digits x=(x.drop 0).all Doc.digit):=a;generalize Doc.digits x=g at *;clear a;rcases s with b|⟨b,d⟩
    all_goals
     go_enter Tryz.func233,Tryz.ntmps233;go_wp2_with fail
     go_loop [3] (fun i=>∃k:Nat,i=.int .i64 k/\k<=x.length/\g=(x.drop k).all Doc.digit) (fun i=>x.length-(intOf i).toNat)
     case atStart=>exact⟨0,rfl,aO,t.o⟩
     case round=>
      obtain⟨k,rfl,A,n⟩:=hrel;have e:=di n;clear n
      by_cases u:k<x.length
      ·have j:=di (Ld Doc.digit x k u)
       by_cases B:(x[k].toNat:Int)<48
       ·exact amx
       ·by_cases C:(57:Int)<(x[k].toNat:Int)
        ·exact amx
        ·have c:Doc.digit x[k]=true:=aki;go_wp2_with fail
         go_round
         case rel=>exact⟨k+1,bJ,aO,by rw[e.o,j.o,c];rfl⟩
         case measure=>exact akL
      ·go_wp2_with fail;go_ret;exact⟨dK (by rw[e.o,List.drop_eq_nil_of_le aO];rfl),rfl⟩
 ·have v:x=[]:=by simpa using hE
  subst v;go_enter Tryz.func233,Tryz.ntmps233;go_wp2_with fail;go_ret;exact⟨dK (by rw[zW]),rfl⟩
def iJ (f:Doc.Form):List Value:=[dO f.word,dO f.print,.int .i64 f.op,.int .i64 f.least,.int .i64 f.most,.int .i64 f.args,.int .i64 f.sort]
structure lg (w:World)(g o:Nat)(f:Doc.Form):Prop where
 word:w.cell? ⟨g,o,none⟩=some (.string ⟨f.word.toArray⟩)
 print:w.cell? ⟨g,o+1,none⟩=some (.string ⟨f.print.toArray⟩)
 op:w.cell? ⟨g,o+2,none⟩=some (.int .i64 f.op)
 least:w.cell? ⟨g,o+3,none⟩=some (.int .i64 f.least)
 most:w.cell? ⟨g,o+4,none⟩=some (.int .i64 f.most)
 args:w.cell? ⟨g,o+5,none⟩=some (.int .i64 f.args)
 sort:w.cell? ⟨g,o+6,none⟩=some (.int .i64 f.sort)
theorem lg.block {o:Nat}{f:Doc.Form}(h:lg w n o f)(a:W.heap[n]?=w.heap[n]?):lg W n o f:=
 ⟨(World.cell?_of_block (w:=w) (a:=⟨n,o,none⟩) a).trans h.word,(World.cell?_of_block (w:=w) (a:=⟨n,o+1,none⟩) a).trans h.print,(World.cell?_of_block (w:=w) (a:=⟨n,o+2,none⟩) a).trans h.op,(World.cell?_of_block (w:=w) (a:=⟨n,o+3,none⟩) a).trans h.least,
  (World.cell?_of_block (w:=w) (a:=⟨n,o+4,none⟩) a).trans h.most,(World.cell?_of_block (w:=w) (a:=⟨n,o+5,none⟩) a).trans h.args,(World.cell?_of_block (w:=w) (a:=⟨n,o+6,none⟩) a).trans h.sort⟩
def CE (w:World)(g:Nat):Prop:=∀i (h:i<Doc.forms.length),lg w g (i*7) Doc.forms[i]
theorem CE.below (h:CE w n)(a:Below w.heap.size w W):CE W n:=fun i hi=>(h i hi).block (a.block n (ai (h i hi).word))
theorem Hf (w:World):Calls Tryz.prog 252 #[] w fun e a=>e=.returned (.slice (some ⟨w.heap.size,0,none⟩) 16 16)/\a=w.alloc (.cells (Doc.forms.flatMap iJ).toArray 300):=by
 go_enter Tryz.func252,Tryz.ntmps252;go_wp2_with fail;go_ret;exact⟨rfl,rfl⟩
theorem Ji {a:List dX}(h:n<a.length):Doc.mY a n=a[n].op:=by unfold Doc.mY;rw[aD h]
theorem rX {ts:List dX}(h:n<ts.length):Doc.dF ts n=ts[n].sort:=by unfold Doc.dF;rw[aD h]
theorem UY {a:List dX}(h:n<a.length):Doc.om a n=a[n].args:=by unfold Doc.om;rw[aD h]
theorem X6 (a b:Nat):((a:Int)==(b:Int))=(a==b):=akD
theorem Pj (m:Nat)(a:List dX)(k:Nat)(w:World)(s:mr w m a)(b:k<a.length)(i:a[k].op=15->∃c,a[k].args[0]?=some c/\c<a.length) :
 Calls Tryz.prog 234 #[.pointer (some ⟨m,0,none⟩),.int .i64 k] w fun t u=>t=.returned (.bool (Doc.number a k))/\u=w:=by
 obtain⟨D,E,v⟩:=s;obtain⟨F,G,rfl,H,x,f⟩:=v;unfold maxLen at x;obtain⟨I,rfl,g⟩:=f k b;have J:=(g b).op;obtain⟨K,L,y⟩:=(g b).args
 by_cases d:a[k].op=15
 ·obtain⟨c,h,j⟩:=i d;have n:0<a[k].args.length:=(List.getElem?_eq_some_iff.1 h).1;have o:a[k].args[0]=c:=(List.getElem?_eq_some_iff.1 h).2
  have l:Hid (Doc.number a k=(a[c].op==14)):=by
   show _=_;unfold Doc.number;rw[Ji b,if_pos d,UY b,List.getD_eq_getElem?_getD,h,Option.getD_some,Ji j]
  obtain⟨M,N,rfl,O,z,p⟩:=y;unfold maxLen at z;obtain⟨P,rfl,q⟩:=p 0 n;have A:=q n;rw[o]at A;obtain⟨Q,e,r⟩:=f c j;injection e with e
  injection e with e;subst e;have R:=(r j).op;have B:((a[k].op:Int)==15)=true:=aiL;generalize Doc.number a k=C at *;clear f g r p q i d h o;exact amw
 ·have l:Hid (Doc.number a k=(a[k].op==14)):=by
   show _=_;unfold Doc.number;rw[Ji b,if_neg d]
  have B:((a[k].op:Int)==15)=false:=aQ;generalize Doc.number a k=C at *;clear f g i d;exact amw
theorem Ro {ts:List dX}(h:n<l.length):Doc.tail ts (l.take (n+1))=Doc.tail ts (l.take n)++32::Doc.fe ts l[n]:=by
 unfold Doc.tail;rw[List.take_add_one,aD h,List.flatMap_append];exact aP
theorem OE {a:List dX}(d:∀t∈a,t.text.length<=800)(b:List Nat):(Doc.tail a b).length<=b.length*801:=by
 induction b with
 | nil=>simp[Doc.tail]
 | cons c b e=>
  have h:(Doc.fe a c).length<=800:=by
   unfold Doc.fe;cases h:a[c]? with
   | none=>simp
   | some t=>simpa using d t (List.mem_of_getElem? h)
  simp only[Doc.tail,List.flatMap_cons,List.length_append,List.length_cons]at e ⊢;exact aO
theorem CO (e:Nat)(b:List dX)(x:List UInt8)(p:Value)(a:List Nat)(w:World)(C:mr w e b)(D:dY w p a)(q:∀f∈a,f<b.length)(g:∀t∈b,t.text.length<=800)(W:x.length<=1000)(X:a.length<=1000) :
 Calls Tryz.prog 254 #[.pointer (some ⟨e,0,none⟩),.string ⟨x.toArray⟩,p] w fun E F=>E=.returned (dO (Doc.written b x a))/\Below w.heap.size w F:=by
 have Y:=fJ;obtain⟨Z,r,G⟩:=C;obtain⟨aT,jZ,rfl,hcap,H,s⟩:=G;unfold maxLen at H;obtain⟨aA,lu,rfl,hca,I,u⟩:=D;unfold maxLen at I;have J:=di s;have K:=di u;have L:=di q;have M:=di (fun k=>OE g (a.take k));have N:=di g;clear s u q g
 by_cases c:a.length=0
 ·have h:Hid (Doc.written b x a=x):=by show _=_;unfold Doc.written;rw[if_pos c]
  have O:((a.length:Int)==0)=true:=by rw[c];rfl
  generalize Doc.written b x a=P at *;clear c;go_enter Tryz.func254,Tryz.ntmps254;go_wp2_with fail;go_ret;exact⟨by rw[h.o];rfl,af⟩
 ·have h:Hid (Doc.written b x a=40::x++Doc.tail b a++[41]):=by show _=_;unfold Doc.written;rw[if_neg c]
  have O:((a.length:Int)==0)=false:=aj aO;generalize Doc.written b x a=P at *;clear c;go_enter Tryz.func254,Tryz.ntmps254;go_wp2_with fail
  go_loopw [7,8] (fun t i wr=>∃(k:Nat) (y:List UInt8),i=.int .i64 k/\k<=a.length/\t=.string ⟨y.toArray⟩/\y=40::x++Doc.tail b (a.take k)/\Below w.heap.size w wr) (fun _ i _=>a.length-(intOf i).toNat)
  case atStart=>exact⟨0,40::x,rfl,aO,rfl,by simp[Doc.tail],af⟩
  case round=>
   obtain⟨k,y,rfl,hk,rfl,j,d⟩:=hrel;have v:=di j
   have hyl:y.length<=1000000:=by
    have Q:=M.o k;rw[List.length_take]at Q;rw[j];simp only[List.length_append,List.length_cons];exact aO
   have z:=di d;have hc1:=(d.cell (p:=⟨e,1,none⟩) (ai r)).trans r;clear j
   by_cases l:k<a.length
   ·obtain⟨R,rfl,A⟩:=K.o k l;have m:=A l;have hcell':=(d.cell (p:=⟨R,k,none⟩) (ai m)).trans m;have n:a[k]<b.length:=L.o _ aP;obtain⟨S,rfl,B⟩:=J.o a[k] n;have o:=(B n).text;have ag0:=(d.cell (p:=⟨S,a[k]*5,none⟩) (ai o)).trans o;have htl:b[a[k]].text.length<=800:=N.o _ aP;have T:=di (Ro (ts:=b) l);have U:=di (Doc.rW n);generalize ahk:a[k]=f at *;clear d A B m o;go_wp2_with fail;go_quiet (fail);go_wp2_with fail;go_roundw
    case rel=>exact⟨k+1,y++32::b[f].text,bJ,aO,rfl,by rw[T.o,v.o,U.o];simp,below_drewN z.o _⟩
    case measure=>exact akL
   ·go_wp2_with fail;go_ret;have V:k=a.length:=aO;exact⟨by rw[h.o,v.o,V,List.take_length];rfl,z.o⟩
def Cv:Option Nat->Ending
 | none=>.returned (.tuple #[.int .i64 0,.bool false])
 | some s=>.returned (.tuple #[.int .i64 s,.bool true])
theorem TF (p:Nat->Bool)(l:List Nat)(k:Nat)(h:k<l.length):(l.drop k).all p=(p l[k]&&(l.drop (k+1)).all p):=akI
theorem getD_lt (h:n<l.length):l.getD n 0=l[n]:=by rw[List.getD_eq_getElem?_getD,aD h];rfl
theorem SX:∀f∈Doc.forms,f.from_<=1/\f.from_<f.least/\f.least<=3/\f.most<=4/\f.args<=2/\f.sort<=2/\f.op<=18:=aR
theorem WI (K fb:Nat)(b:List dX)(f:Doc.Form)(va:Value)(a:List Nat)(w:World)(j:mr w K b)(r:lg w fb 0 f)(hfm:f∈Doc.forms)(u:dY w va a)(hlt:∀c∈a,c<b.length)(hn:a.length<=1000) :
 Calls Tryz.prog 255 #[.pointer (some ⟨K,0,none⟩),.pointer (some ⟨fb,0,none⟩),va] w fun bq w'=>bq=Cv (Doc.fits b f a)/\Below w.heap.size w w':=by
 obtain⟨vT,T,h2⟩:=j;obtain⟨aT,jZ,rfl,hcap,hmax,hel⟩:=h2;unfold maxLen at hmax;obtain⟨aA,lu,rfl,hca,hma,hea⟩:=u;unfold maxLen at hma;obtain⟨p1,p2,p3,p4,p5,p6,p7⟩:=SX f hfm;have L:=r.op;have f3:=r.least;have f4:=r.most;have M:=r.args;have N:=r.sort;simp only[Nat.zero_add]at L f3 f4 M N
 have U:Hid (∀c,c<b.length->∃O,aT=some ⟨O,0,none⟩/\w.cell? ⟨O,c*5+2,none⟩=some (.int .i64 (Doc.dF b c))):=fun c u=>by
  obtain⟨O,hg,hc⟩:=hel c u;refine⟨O,hg,?_⟩;rw[rX u];exact(hc u).sort
 have V:=di hea;have v:=di hlt
 have Q0:Hid (Doc.fits b f a=if a.length<f.least\/a.length>f.most then none
  else if f.op=12/\Doc.dF b (a.getD 0 0)≠1 then none
  else if ((a.drop f.from_).all (fun c=>Doc.dF b c==f.want b a))=false then none
  else if f.op=9/\f.want b a=1 then none
  else if f.sort=0 then some (f.want b a)
  else some f.sort):=rfl
 generalize Doc.fits b f a=l at *;clear hel hea hlt r hfm
 by_cases s:a.length<f.least\/a.length>f.most
 ·have W:Hid (l=none):=by show _=_;rw[Q0.o,if_pos s]
  rcases s with s|s
  ·exact alL
  ·by_cases hl2:a.length<f.least
   ·exact alL
   ·exact alL
 ·have X:0<a.length:=aO;have hl1:f.least<=a.length:=aO;have hl2:a.length<=f.most:=aO;have x:=Q0.o;rw[if_neg s]at x;have x:=di x;obtain⟨P,rfl,abA⟩:=V.o 0 X;have a0:=abA X;obtain⟨y,rfl,e⟩:=U.o a[0] (v.o _ aP);have Y:f.from_<a.length:=aO;have z:=(V.o f.from_ Y);obtain⟨gA',A,hcF⟩:=z;injection A with A
  injection A with A;subst A;have z:=hcF Y;obtain⟨gT',B,Z⟩:=U.o a[f.from_] (v.o _ aP);injection B with B;injection B with B;subst B
  have HC:Hid (∀d,Below w.heap.size w d->d.cell? ⟨K,1,none⟩=some (.slice (some ⟨y,0,none⟩) b.length jZ)/\d.cell? ⟨fb,2,none⟩=some (.int .i64 f.op)/\d.cell? ⟨fb,5,none⟩=some (.int .i64 f.args)/\d.cell? ⟨fb,6,none⟩=some (.int .i64 f.sort)/\
   d.cell? ⟨P,f.from_,none⟩=some (.int .i64 a[f.from_])/\d.cell? ⟨y,a[f.from_]*5+2,none⟩=some (.int .i64 (Doc.dF b a[f.from_]))):=fun d j=>
   ⟨(j.cell (p:=⟨K,1,none⟩) (ai T)).trans T,(j.cell (p:=⟨fb,2,none⟩) (ai L)).trans L,(j.cell (p:=⟨fb,5,none⟩) (ai M)).trans M,(j.cell (p:=⟨fb,6,none⟩) (ai N)).trans N,
    (j.cell (p:=⟨P,f.from_,none⟩) (ai z)).trans z,(j.cell (p:=⟨y,a[f.from_]*5+2,none⟩) (ai Z)).trans Z⟩
  have HK:Hid (∀d k (C:k<a.length),Below w.heap.size w d->d.cell? ⟨P,k,none⟩=some (.int .i64 a[k])/\d.cell? ⟨y,a[k]*5+2,none⟩=some (.int .i64 (Doc.dF b a[k]))/\a[k]<b.length):=fun d k C j=>by
   obtain⟨g1,D,E⟩:=V.o k C;injection D with D
   injection D with D;subst D;have hal:a[k]<b.length:=v.o _ aP;obtain⟨g2,F,G⟩:=U.o a[k] hal;injection F with F;injection F with F;subst F;exact⟨(j.cell (p:=⟨P,k,none⟩) (ai (E C))).trans (E C),(j.cell (p:=⟨y,a[k]*5+2,none⟩) (ai G)).trans G,hal⟩
  have ha0:a[0]<b.length:=v.o _ aP;have haF:a[f.from_]<b.length:=v.o _ aP;have YG:Hid (f.want b a=if f.args=0 then Doc.dF b a[f.from_] else f.args):=by show _=_;unfold Doc.Form.want;rw[getD_lt Y]
  have Y5:Hid (a.getD 0 0=a[0]):=getD_lt X;have Y7:Hid (f.from_=if f.op=12 then 1 else 0):=rfl;generalize f.want b a=want at *;generalize f.from_=fr at *;clear s abA hcF;go_enter Tryz.func255,Tryz.ntmps255
  go_upto_if 32 with fail
  go_cut [9] (fun bg d=>bg=.int .i64 fr/\(f.op=12->Doc.dF b a[0]=1)/\Below w.heap.size w d)
  case first=>
   by_cases g:f.op=12
   ·have o12:((f.op:Int)==12)=true:=by rw[g];rfl
    have t:fr=1:=by rw[Y7.o,if_pos g]
    by_cases H:Doc.dF b a[0]=1
    ·have s1:((Doc.dF b a[0]:Int) !=1)=false:=by rw[H];rfl
     have Q:=di g;have kG:=di H;have XK:=di t;clear g H t;go_wp2_with fail;go_quiet (fail);go_wp2_with fail;go_meet
     case rel=>exact⟨by rw[XK.o];rfl,fun _=>kG.o,below_drewN af _⟩
    ·have s1:((Doc.dF b a[0]:Int) !=1)=true:=aZ;have R:Hid (l=none):=by show _=_;rw[x.o,Y5.o,if_pos ⟨g,H⟩]
     clear g H t;go_wp2_with fail;go_quiet (fail);go_wp2_with fail;go_ret2;exact⟨by rw[R.o];rfl,below_drewN af _⟩
   ·have o12:((f.op:Int)==12)=false:=aj aO;have t:fr=0:=by rw[Y7.o,if_neg g]
    have Q:=di g;have XK:=di t;clear g t;go_wp2_with fail;go_meet
    case rel=>exact⟨by rw[XK.o];rfl,fun h=>absurd h Q.o,af⟩
  case rest=>
   obtain⟨rfl,g,i⟩:=hcut;have Q:=di g;obtain⟨E,G,q5,q6,qA,qT⟩:=HC.o _ i;have qy:=di i;clear T L f3 f4 M N z Z a0 e g i
   go_upto_if 49 with fail
   go_cut [10] (fun bg d=>bg=.int .i64 want/\Below w.heap.size w d)
   case first=>
    by_cases I:f.args=0
    ·have oA:((f.args:Int)==0)=true:=by rw[I];rfl
     have HW:Hid (want=Doc.dF b a[fr]):=by show _=_;rw[YG.o,if_pos I]
     clear I;go_wp2_with fail;go_quiet (fail);go_wp2_with fail;go_meet
     case rel=>exact⟨by rw[HW.o],below_drewN qy.o _⟩
    ·have oA:((f.args:Int)==0)=false:=aj aO;have HW:Hid (want=f.args):=by show _=_;rw[YG.o,if_neg I]
     clear I;go_wp2_with fail;go_meet
     case rel=>exact⟨by rw[HW.o],qy.o⟩
   case rest=>
    obtain⟨rfl,i⟩:=hcut;have yu:Hid (f.op=12/\Doc.dF b a[0]≠1->False):=fun h=>h.2 (Q.o h.1)
    have R:Hid (l=if ((a.drop fr).all (fun c=>Doc.dF b c==want))=false then none else if f.op=9/\want=1 then none else if f.sort=0 then some want else some f.sort):=by
     show _=_;have h:=x.o;rw[Y5.o,if_neg (fun h=>yu.o h)]at h;exact h
    have agl:=di i;clear E G q5 q6 qA qT i;go_wp2_with fail
    go_loopw [11] (fun bn wr=>∃k:Nat,bn=.int .i64 k/\k<=a.length/\((a.drop fr).all (fun c=>Doc.dF b c==want))=((a.drop k).all (fun c=>Doc.dF b c==want))/\Below w.heap.size w wr) (fun bn _=>a.length-(intOf bn).toNat)
    case atStart=>exact⟨fr,rfl,aO,rfl,agl.o⟩
    case round=>
     obtain⟨k,rfl,C,hall,i⟩:=hrel;obtain⟨E,G,q5,q6,_,_⟩:=HC.o _ i;have o:=di i;have HA:=di hall;clear hall
     by_cases hlk:k<a.length
     ·obtain⟨c1,c2,c3⟩:=HK.o _ k hlk i;have HD:=di (TF (fun c=>Doc.dF b c==want) a k hlk);clear i;generalize hak:a[k]=S at *
      by_cases J:Doc.dF b S=want
      ·have s1:((Doc.dF b S:Int) !=(want:Int))=false:=by rw[J];simp
       have HS:=di J;clear J;go_wp2_with fail;go_quiet (fail);go_wp2_with fail;go_roundw
       case rel=>exact⟨k+1,bJ,aO,by rw[HA.o,HD.o];simp[HS.o],below_drewN o.o _⟩
       case measure=>exact akL
      ·have s1:((Doc.dF b S:Int) !=(want:Int))=true:=aZ
       have p:Hid (l=none):=by
        show _=_;rw[R.o,HA.o,HD.o];have:(Doc.dF b S==want)=false:=aj J;simp only[this,Bool.false_and,if_true]
       clear J;go_wp2_with fail;go_quiet (fail);go_wp2_with fail;go_ret2;exact⟨by rw[p.o];rfl,below_drewN o.o _⟩
     ·have hnil:a.drop k=[]:=List.drop_eq_nil_of_le aO
      have p:Hid (l=if f.op=9/\want=1 then none else if f.sort=0 then some want else some f.sort):=by
       show _=_;have h:=R.o;rw[HA.o,hnil]at h;exact h
      clear i hnil
      by_cases m:f.op=9
      ·have o9:((f.op:Int)==9)=true:=by rw[m];rfl
       by_cases q:want=1
       ·have ow:((want:Int)==1)=true:=by rw[q];rfl
        have n:Hid (l=none):=by show _=_;rw[p.o,if_pos ⟨m,q⟩]
        clear m q;go_wp2_with fail;go_ret2;exact⟨akC,o.o⟩
       ·have ow:((want:Int)==1)=false:=aj aO
        by_cases e:f.sort=0
        ·have os:((f.sort:Int)==0)=true:=akj;have n:Hid (l=some want):=by show _=_;rw[p.o,if_neg (fun h=>q h.2),if_pos e]
         clear m q e;go_wp2_with fail;go_ret2;exact⟨akC,o.o⟩
        ·have os:((f.sort:Int)==0)=false:=aj aO;have n:Hid (l=some f.sort):=by show _=_;rw[p.o,if_neg (fun h=>q h.2),if_neg e]
         clear m q e;go_wp2_with fail;go_ret2;exact⟨akC,o.o⟩
      ·have o9:((f.op:Int)==9)=false:=aj aO
       by_cases e:f.sort=0
       ·have os:((f.sort:Int)==0)=true:=akj;have n:Hid (l=some want):=by show _=_;rw[p.o,if_neg (fun h=>m h.1),if_pos e]
        clear m e;go_wp2_with fail;go_ret2;exact⟨akC,o.o⟩
       ·have os:((f.sort:Int)==0)=false:=aj aO;have n:Hid (l=some f.sort):=by show _=_;rw[p.o,if_neg (fun h=>m h.1),if_neg e]
        clear m e;go_wp2_with fail;go_ret2;exact⟨akC,o.o⟩
def vN (w:World)(own:Own)(c:List Value)(s:Doc.Sym):Prop:=∃av,c=[dO s.name,av,.int .i64 s.sort]/\eD w own av s.args
def Cm (w:World)(own:Own)(c:List Value)(t:Doc.Term):Prop:=∃av,c=[dO t.text,.int .i64 t.op,.int .i64 t.sort,.int .i64 t.sym,av]/\eD w own av t.args
def xP (_:World)(_:Own)(c:List Value)(n:Nat):Prop:=c=[.int .i64 n]
def Bd (_:World)(_:Own)(c:List Value)(l:Nat × Nat × Nat):Prop:=c=[.int .i64 l.1,.int .i64 l.2.1,.int .i64 l.2.2]
theorem eD.step {w:World}{own:Own}(d:∀b,b<w.heap.size->own b=0->W.heap[b]?=w.heap[b]?/\o b=0){v:Value}{c:List Nat}(h:eD w own v c):eD W o v c:=
 fA.imp h fun g i hi a=>by
  obtain⟨e,f⟩:=d g (ai (a.2 hi)) a.1;exact⟨f,fun hi=>(World.cell?_of_block (w:=w) (a:=⟨g,i,none⟩) e).trans (a.2 hi)⟩
theorem kM:EX vN:=fun _ _ _ _ a _ _ ⟨b,c,d⟩=>⟨b,c,d.step a⟩
theorem rV:EX Cm:=fun _ _ _ _ a _ _ ⟨b,c,d⟩=>⟨b,c,d.step a⟩
theorem oz:EX xP:=fun _ _ _ _ _ _ _ h=>h
theorem qF:EX Bd:=fun _ _ _ _ _ _ _ h=>h
structure dE (w:World)(own:Own)(k sb:Nat)(S:Doc.dB):Prop where
 mine:own sb=k
 obj:∃cur,w.heap[sb]?=some (.cells cur 83 (0,0))
 fr:∀o,w.frozen? ⟨sb,o,none⟩=false
 syms:∃v,w.cell? ⟨sb,0,none⟩=some v/\dN w own k 174 3 (vN w own) v S.syms
 terms:∃v,w.cell? ⟨sb,1,none⟩=some v/\dN w own k 176 5 (Cm w own) v S.terms
 held:∃v,w.cell? ⟨sb,2,none⟩=some v/\dN w own k 3 1 (xP w own) v S.held
 levels:∃v,w.cell? ⟨sb,3,none⟩=some v/\dN w own k 172 3 (Bd w own) v S.levels
theorem dE.lt {own:Own}{S:Doc.dB}(h:dE w own n m S):m<w.heap.size:=by
 exact amf
theorem dE.step {w:World}{own:Own}{S:Doc.dB}(h:dE w own n m S)(c:∀b,b<w.heap.size->own b=0\/own b=n->W.heap[b]?=w.heap[b]?/\O b=own b):dE W O n m S:=by
 obtain⟨i,u,j⟩:=h.syms;obtain⟨k,x,l⟩:=h.terms;obtain⟨p,y,q⟩:=h.held;obtain⟨r,z,s⟩:=h.levels;have d:=c m h.lt (.inr h.mine);have e:∀o v,w.cell? ⟨m,o,none⟩=some v->W.cell? ⟨m,o,none⟩=some v:=fun o v A=>(World.cell?_of_block (w:=w) (a:=⟨m,o,none⟩) d.1).trans A;have f:∀b,b<w.heap.size->own b=0->W.heap[b]?=w.heap[b]?/\O b=0:=fun b a h=>⟨(c b a (.inl h)).1,by rw[(c b a (.inl h)).2,h]⟩;have g:∀{t:Type} {B:TypeId} {C:Nat} {D:List Value->t->Prop} {v:Value} {E:List t},dN w own n B C D v E->∀b,v.ownBlock=some b->W.heap[b]?=w.heap[b]?/\O b=own b:=fun h b a=>c b (h.type b a).2.1 (.inr (h.type b a).1);refine⟨by rw[d.2];exact h.mine,?_,fun o=>(World.frozen?_of_block (w:=w) (a:=⟨m,o,none⟩) d.1).trans (h.fr o),⟨i,e 0 i u,j.step kM f (g j)⟩,⟨k,e 1 k x,l.step rV f (g l)⟩,⟨p,e 2 p y,q.step oz f (g q)⟩,⟨r,e 3 r z,s.step qF f (g s)⟩⟩;obtain⟨F,G⟩:=h.obj;exact⟨F,by rw[d.1];exact G⟩
theorem dE.below {own:Own}{S:Doc.dB}(h:dE w own n m S)(a:Below w.heap.size w W):dE W own n m S:=h.step (fun b c _=>⟨a.block b c,rfl⟩)
theorem dE.fr' {own:Own}{S:Doc.dB}(h:dE w own n k S)(a:Fr own o m w W)(d:m≠0)(e:n≠m):dE W o n k S:=
 h.step (fun b c f=>⟨a.block b c aO,a.ext b c⟩)
theorem Jj {own:Own}{o:Nat}{s:Doc.Sym}(h:vN w own b s)(a:∀j u,j<3->b[j]?=some u->w.cell? ⟨n,o+j,none⟩=some u):EU w n o s:=by
 obtain⟨c,rfl,d⟩:=h;exact⟨a 0 _ aO rfl,⟨c,a 1 _ aO rfl,d.ints⟩,a 2 _ aO rfl⟩
theorem Rl {own:Own}{o:Nat}{t:Doc.Term}(h:Cm w own b t)(a:∀j u,j<5->b[j]?=some u->w.cell? ⟨n,o+j,none⟩=some u):wD w n o t:=by
 obtain⟨c,rfl,d⟩:=h;exact⟨a 0 _ aO rfl,a 1 _ aO rfl,a 2 _ aO rfl,a 3 _ aO rfl,⟨c,a 4 _ aO rfl,d.ints⟩⟩
theorem dE.book {own:Own}{S:Doc.dB}(h:dE w own n m S):Gp w m S.syms S.terms:=by
 obtain⟨d,e,f⟩:=h.syms;obtain⟨g,i,j⟩:=h.terms;refine⟨⟨d,e,fA.imp f.sl fun k l hi a _=>?_⟩,g,i,fA.imp j.sl fun k l hi a _=>?_⟩
 ·obtain⟨o,_,b,c⟩:=a.2 hi;exact Jj b c
 ·obtain⟨o,_,b,c⟩:=a.2 hi;exact Rl b c
theorem dE.pK {own:Own}{S:Doc.dB}(h:dE w own n m S){v e:Value}(x:w.cell? ⟨m,1,none⟩=some v)(a:jg w W own O n m 1 v e)(Q:n≠0){j:List Doc.Term}(y:dN W O n 176 5 (Cm W O) e j):dE W O n m { S with terms:=j }:=by
 obtain⟨z,A,k⟩:=h.syms;obtain⟨R,c,B⟩:=h.terms;obtain⟨C,D,l⟩:=h.held;obtain⟨E,F,p⟩:=h.levels;rw[x]at c;injection c with c
 subst c;obtain⟨G,q⟩:=h.obj;have f:∀b,b<w.heap.size->own b=0->W.heap[b]?=w.heap[b]?/\O b=0:=fun b d h=>⟨a.fr.block b d aO,by rw[a.fr.ext b d,h]⟩
 have g:∀{r:Type} {i:TypeId} {H:Nat} {I:List Value->r->Prop} {u:Value} {J:List r},dN w own n i H I u J->i≠83->i≠176->∀b,u.ownBlock=some b->W.heap[b]?=w.heap[b]?/\O b=own b:=fun K L M b d=>by
  obtain⟨_,s,T,t⟩:=K.type b d;refine⟨a.other b s (gp t q L) ?_,a.fr.ext b s⟩;intro N;obtain⟨_,_,U,P⟩:=B.type b N;exact gp t P M rfl
 refine⟨ahY,a.type G _ q,fun o=>(a.frozen o).trans (h.fr o),⟨z,(a.cells 0 aO).trans A,k.step kM f (g k aR aR)⟩,⟨e,a.cell,y⟩,⟨C,(a.cells 2 aO).trans D,l.step oz f (g l aR aR)⟩,⟨E,(a.cells 3 aO).trans F,p.step qF f (g p aR aR)⟩⟩
end Go.Proofs.YtbichedkajfmiaaGreatDoor
