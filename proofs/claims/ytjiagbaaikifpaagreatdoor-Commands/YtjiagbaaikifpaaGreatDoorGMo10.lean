import Derived.Test.YtjiagbaaikifpaaGreatDoorGPS0
import Derived.Test.YtjiagbaaikifpaaGreatDoorGWh6
set_option maxRecDepth 100000
set_option maxHeartbeats 16000000
namespace Go.Proofs.YtjiagbaaikifpaaGreatDoor
open Go.RowKit Go.Proofs.Tryz
theorem WG (sb:Nat)(p:List Doc.Sym)(ts:List Doc.Term)(g:Int)(d:Bool)(k:eu)(b e:Nat)(h:List (dN))(c:dN)(w:World)(hS:rV w sb p ts)(hws:∀bg∈p,Doc.vZ bg)(hA:jK w (.slice k b e) h)(hn:h.length=b)(hc:b<=e/\e<=2 ^ 63-1)(hva:c.length<=1000000)(har:∀bB∈h,bB.length<=1000000)(Gm:-9223372036854775808<=g/\g<=9223372036854775807) :
 dH 154 #[dK sb 0,.agg #[dw g,.bool d,.slice k b e,dD c]] w λbn w'=>bn=dF (.bool (Doc.kF p ⟨g,d,h,c⟩))/\dB w w':=by
 obtain⟨hc1,hc2⟩:=hc;obtain⟨y1,y2⟩:=Gm;obtain⟨aS,Uw,t,v,s3,hsc⟩:=BV hS;have HSC:=dn hsc;have T:Hid (∀W,dB w W->W.dQ sb 0=some (.slice aS p.length Uw)):=λW hb=>(hb.eT t);have rE:=dn (λW (hb:dB w W)=>(hA.below hb).get);have HAR:=dn har;have zi:=dn hws;have y:=dn hn;obtain⟨NS,yR⟩:=aK p.length;have uI:=dn yR;rw[yR]at v T;obtain⟨R,hR⟩:∃R,Doc.kF p ⟨g,d,h,c⟩=R:=⟨_,rfl⟩;rw[hR];have A:=dn hR;have hbx:dB w (w.alloc (.cells #[dw g,.bool d,.slice k b e,dD c] 142)):=ai;have U:=dn hbx;have d0:=T.o _ hbx;clear hsc t hS hws hA hn har yR hR hbx
 by_cases f:g<0
 ·have o:Hid (R=false):=by show _=_;rw[<-A.o];unfold Doc.kF;rw[decide_eq_false (show ¬(0:Int)<=g by omega)];rfl
  exact aqG
 have t1:decide (g<0)=false:=decide_eq_false f
 by_cases l:(NS:Int)<=g
 ·have o:Hid (R=false):=by show _=_;rw[<-A.o];unfold Doc.kF;rw[decide_eq_false (show ¬g<(p.length:Int) by rw[uI.o];omega),Bool.and_false];rfl
  exact aqG
 obtain⟨m,rfl⟩:∃m:Nat,g=(m:Int):=⟨g.toNat,aR⟩;have ru:m<NS:=aR;have hm':m<p.length:=by rw[uI.o];exact ru
 obtain⟨g2,J,B,rfl,hg2,hcc⟩:=HSC.o m hm';have K:=dn hcc;have E:=dn (Ri (aF hm') d h c);have V:=zi.o p[m] (List.getElem_mem hm');have qB:=V.few;generalize p[m]=x at *;have t2:decide ((NS:Int)<=(m:Int))=false:=decide_eq_false aR;have U8:Hid (∀j,j<b->∃z,h[j]?=some z/\z.length<=100000000):=λj hj=>⟨h[j]'(by rw[y.o];exact hj),aF _,Nat.le_trans (HAR.o _ (List.getElem_mem _)) aR⟩;have agm:=dn (λbC bg W f l=>QD bC bg W f l);clear hcc;go_enter func154,ntmps154;go_upto_region 3 with (go_quiet (fail))
 have L:=below_drewN U.o nq;have f0:((w.alloc (.cells #[dw (m:Int),.bool d,.slice k b e,dD c] 142)).drewN nq).dQ w.heap.size 0=some (dw (m:Int)):=aW;have f1:((w.alloc (.cells #[dw (m:Int),.bool d,.slice k b e,dD c] 142)).drewN nq).dQ w.heap.size 1=some (.bool d):=aW;have f2:((w.alloc (.cells #[dw (m:Int),.bool d,.slice k b e,dD c] 142)).drewN nq).dQ w.heap.size 2=some (.slice k b e):=aW;have f3:((w.alloc (.cells #[dw (m:Int),.bool d,.slice k b e,dD c] 142)).drewN nq).dQ w.heap.size 3=some (dD c):=aW;have M:w.heap.size<((w.alloc (.cells #[dw (m:Int),.bool d,.slice k b e,dD c] 142)).drewN nq).heap.size:=aW;clear d0 t1 t2;generalize (w.alloc (.cells #[dw (m:Int),.bool d,.slice k b e,dD c] 142)).drewN nq=n at *;obtain⟨nm,hnm⟩:=aK x.name;obtain⟨s,O⟩:=aK x.args.length;obtain⟨q,X⟩:=aK x.sort;rw[hnm,O,X]at K;rw[O]at qB;have aeN:q=1\/q=2\/q=3:=by rw[<-X];exact V.sort
 have ai0:=dn aeN;have HXA:Hid (∀j a,x.args[j]?=some a->a=1\/a=2\/a=3):=λj a r=>.inr (V.args a (List.mem_of_getElem? r));have Y:=dn O;have uH:=dn X;have z0:=T.o n L;obtain⟨z1,z2,z3,z4⟩:=K.o n L;obtain⟨k1,k2⟩:s<=B/\B<=2 ^ 63-1:=by obtain⟨_,_,bn,q1,q2,_⟩:=z4;injection bn with _ F C;subst C;rw[<-O];exact⟨q1,q2⟩
 have hb2:dB w (n.alloc (.cells #[eB,dE,dw 0] 197)):=L.fO;have y0:=T.o _ hb2;obtain⟨y3,y4,y5,_⟩:=K.o _ hb2;have G:dB n (n.alloc (.cells #[dD nm,.slice J s B,dw q] 197)):=ai;have u0:(n.alloc (.cells #[eB,dE,dw 0] 197)).dQ w.heap.size 0=some (dw (m:Int)):=((Below.refl _ n).alloc ae _).dL f0 M
 have Pk:Hid (CR (n.alloc (.cells #[dD nm,.slice J s B,dw q] 197)) w.heap.size n.heap.size m d k b e c J s B q):=
  ⟨(G.dL f0 M),(G.dL f1 M),(G.dL f2 M),(G.dL f3 M),aW,aW⟩
 have uL:Hid (dB w (n.alloc (.cells #[dD nm,.slice J s B,dw q] 197))):=L.dW G;have R7:=dn (λW (r:dB w W)=>mU (K.o W r).2.2.2);clear z4 L hb2 G hnm O X K U f1 f2 f3 V aeN;go_cut [5] (fun bD Z=>bD=dK n.heap.size 0/\CR Z w.heap.size n.heap.size m d k b e c J s B q/\dB w Z)
 case first=>
  go_region
  all_goals
   go_wp2;go_meet
   ·exact⟨rfl,Pk.o.below af.drew,uL.o.drew⟩
 case rest=>
  obtain⟨rfl,nJ,D⟩:=hcut;have pM:=dn nJ;have jG:=dn D;obtain⟨P,Q,F,C,t,v⟩:=nJ;obtain⟨LB,u⟩:=aK (Doc.jA c q);have H:=dn (agm.o c q wc aR ai0.o);rw[u]at H;rw[uH.o,u]at E;clear u u0 y0 y3 y4 y5 z0 z1 z2 z3 f0 Pk uL D;go_wp2_with fail;refine H.o.dX λw3 hb3=>?_;have acQ:=dn (pM.o.below hb3);have EA:=dn (jG.o.dW hb3);clear hb3 P Q F C t v H;obtain⟨P,Q,F,C,t,v⟩:=acQ.o;cases LB
  ·have o:Hid (R=false):=by show _=_;rw[<-A.o,E.o];rfl
   go_wp2;go_ret;exact⟨dS o.o.symm,EA.o⟩
  cases d
  case true=>
   have o:Hid (R=((b:Int)==0)):=by
    show _=_;rw[<-A.o,E.o,y.o];cases b with
    | zero=>rw[List.length_eq_zero_iff.1 y.o];cases x.args<;>rfl
    | succ bA=>show false=_;rw[eq_comm,beq_eq_false_iff_ne];omega
   go_wp2;go_ret;exact⟨dS o.o.symm,EA.o⟩
  case false=>
   by_cases hne:b=s
   ·subst hne
    have Ac:Hid (∀j z a,h[j]?=some z->x.args[j]?=some a->Doc.jA z a=false->R=false):=λj z a f l I=>by
     rw[<-A.o,E.o,Bool.and_eq_false_iff];refine .inr (Bool.eq_false_iff.2 λh4=>?_);rw[Doc.Fq h4 f l]at I;cases I
    have mr:Hid ((∀j z a,h[j]?=some z->x.args[j]?=some a->Doc.jA z a=true)->R=true):=λr=>by
     rw[<-A.o,E.o,y.o,Y.o,Fs (by rw[y.o,Y.o];exact ae) r];exact aW
    go_wp2_with fail
    go_loopw [51] (fun i Z=>∃j:Nat,i=dw j/\j<=b/\dB w3 Z/\∀i z a,i<j->h[i]?=some z->x.args[i]?=some a->Doc.jA z a=true) (fun i _=>b-(intOf i).toNat)
    ·exact⟨0,rfl,aR,af,λi _ _ r=>aR⟩
    case round=>
     obtain⟨j,rfl,hj,hbj,hpre⟩:=hrel;have CS:=dn hpre;clear hpre;rename World=>wj;clear P Q F C t v;obtain⟨P,Q,F,C,t,v⟩:=acQ.o.below hbj;have D:=EA.o.dW hbj;have oh:=dn hbj;have Vg:=dn D;clear hbj
     by_cases hjl:j<b
     ·obtain⟨z,hz,hzl⟩:=U8.o j hjl;obtain⟨ga,rfl,r1⟩:=rE.o wj D j z hz;obtain⟨a,S⟩:∃a,x.args[j]?=some a:=⟨_,aF (by rw[Y.o];exact hjl)⟩;obtain⟨gb,rfl,r2⟩:=R7.o wj D j a S;obtain⟨LB,u⟩:=aK (Doc.jA z a);have H:=dn (agm.o z a wj hzl (HXA.o j a S));rw[u]at H;have o:Hid (LB=false->R=false):=λr=>Ac.o j z a hz S (u.trans r)
      have abJ:Hid (LB=true->∀i z a,i<j+1->h[i]?=some z->x.args[i]?=some a->Doc.jA z a=true):=λr i z' n' hi f l=>by
       rcases Nat.lt_or_eq_of_le (Nat.le_of_lt_succ hi) with I|I
       ·exact CS.o i z' n' I f l
       ·subst I;rw[hz]at f;rw[S]at l;injection f with f;injection l with l;subst f;subst l;exact u.trans r
      have hjn:(j:Int)<(b:Int):=aR;clear hz S D u;go_wp2_with fail;refine H.o.dX λw4 hb4=>?_;have rz:=dn (Vg.o.dW hb4);have EC:=dn (oh.o.dW hb4);clear hb4 r1 r2 P Q F C t v;cases LB
      ·have ry:=dn (o.o rfl);go_wp2;go_ret;exact⟨dS ry.o.symm,rz.o⟩
      ·have HN3:=dn (abJ.o rfl);go_wp2;go_roundw
       ·exact⟨j+1,bL,aR,EC.o,HN3.o⟩
       ·exact aph
     ·have HT:Hid (R=true):=mr.o λi z a f l=>CS.o i z a (by have:=(aG f).1;rw[y.o]at this;omega) f l;have hjn:¬((j:Int)<(b:Int)):=aR;go_wp2;go_ret;exact⟨dS HT.o.symm,Vg.o⟩
   ·have o:Hid (R=false):=by
     show _=_;rw[<-A.o,E.o,y.o,Y.o];show((true&&(b==s))&&Doc.sZ h x.args)=false;rw[beq_eq_false_iff_ne.2 hne];rfl
    have hne2:((b:Int) !=(s:Int))=true:=amW;go_wp2;go_ret;exact⟨dS o.o.symm,EA.o⟩
end Go.Proofs.YtjiagbaaikifpaaGreatDoor
namespace Go.Proofs.YtjiagbaaikifpaaGreatDoor
open Go.Proofs.Tryz
variable {f:List Int}{l:List Nat}{n:Nat}
def lM (p:Nat)(zs:List Int):Nat->Int
 | 0=>zs.getD 0 0
 | k+1=>if p=17 then lM p zs k+zs.getD (k+1) 0 else if p=18 then lM p zs k+-(zs.getD (k+1) 0) else lM p zs k*zs.getD (k+1) 0
def yX (p:Nat)(zs:List Int):Int:=if p=18/\zs.length=1 then -(zs.getD 0 0) else lM p zs (zs.length-1)
theorem Cx (a:∀z∈f,(dC.dec z).length<=2000000)(i:Nat):(dC.dec (f.getD i 0)).length<=2000000:=by
 rw[List.getD_eq_getElem?_getD];cases e:f[i]? with
 | none=>rw[Option.getD_none,dC.gV];simp
 | some z=>exact a z (List.mem_of_getElem? e)
theorem aa8 {p:Nat}(a:∀z∈f,(dC.dec z).length<=2000000)(k:Nat):(dC.dec (lM p f k)).length<=2000003*(k+1):=by
 induction k with
 | zero=>have:=Cx a 0;unfold lM;omega
 | succ k b=>
  have c:=Cx a (k+1);have d:=rR (f.getD (k+1) 0);have e:=mX (lM p f k) (f.getD (k+1) 0);have g:=mX (lM p f k) (-(f.getD (k+1) 0));have h:=Av (lM p f k) (f.getD (k+1) 0);unfold lM;split
  ·exact aR
  ·split<;>omega
theorem Oz:∀k,k<f.length->lM 17 f k=(f.take (k+1)).sum
 | 0,h=>by
  rw[Doc.F7 (aF h)];unfold lM;rw[Doc.iI (aF h)];exact aW
 | k+1,h=>by
  rw[Doc.F7 (aF h),<-Oz k aR];show lM 17 f k+f.getD (k+1) 0=_;rw[Doc.iI (aF h)]
theorem adO (h:1<=f.length):yX 17 f=f.sum:=by
 unfold yX;rw[if_neg aR,Oz _ aR,List.take_of_length_le aR]
theorem Rm (h:f.length=1):yX 18 f=-(f.getD 0 0):=by
 unfold yX;rw[if_pos ⟨rfl,h⟩]
theorem adP (h:f.length=2):yX 18 f=f.getD 0 0-f.getD 1 0:=by
 unfold yX;rw[if_neg aR,h];show f.getD 0 0+-(f.getD 1 0)=_;exact aR
theorem adQ (h:f.length=2):yX 19 f=f.getD 0 0*f.getD 1 0:=by
 unfold yX;rw[if_neg aR,h];rfl
def pv (m:List Doc.En)(p num sym:Nat)(zs:List Int):Int:=
 if p=3 then num
 else if p=4 then Doc.num (Doc.look m sym (zs.map dC.dec))
 else if p=16 then(if (zs.getD 0 0 !=0)=true then zs.getD 1 0 else zs.getD 2 0)
 else if p=17\/p=18\/p=19 then yX p zs
 else if pj p zs then 1 else 0
theorem Xq {a:List Doc.Term}{f:Doc.Form}(h:Doc.fits a f l=some n):(∀b∈l.drop f.from_,Doc.dY a b=f.want a l)/\(f.op=12->Doc.dY a (l.getD 0 0)=1):=by
 unfold Doc.fits at h;split at h
 ·cases h
 ·split at h
  ·cases h
  ·rename_i d;split at h
   ·cases h
   ·rename_i e;have c:=Bool.not_eq_false _ ▸ e;rw[List.all_eq_true]at c;exact⟨λb g=>by have:=c b g;rwa [beq_iff_eq]at this,λi=>Classical.byContradiction λj=>d ⟨i,j⟩⟩
theorem Uk:∀f∈Doc.forms,3<=f.op->f.op<=7->f.args=1/\f.op≠12:=aY
theorem KH:∀f∈Doc.forms,(f.op=6\/f.op=7\/f.op=17\/f.op=18->f.least=2/\f.most=2)/\(f.op=15->f.least=1/\f.most=1)/\(f.op=12->f.least=3)/\1<=f.least:=aY
theorem TV {x:Doc.Str}(h:dC.Dg x):x.head?≠some 45:=by
 intro e;cases x with
 | nil=>simp at e
 | cons c x=>
  simp at e;have:=h c aW;rw[e]at this;exact absurd this.1 aY
theorem Zw {t:Doc.Term}(h:t.op=14)(a:Doc.digits t.text=true):((Doc.fP t:Nat):Int)=Doc.num t.text:=by
 obtain⟨b,_⟩:=Doc.nY a;unfold Doc.fP Doc.num;rw[if_pos h,if_neg (TV b)]
theorem agL {v:List Doc.Sym}{a:List Doc.Term}{m:List Doc.En}(w:Doc.iB v a)(D:Doc.lawful v m=true)(k:Nat)(g:k<a.length):pv m (Doc.eG a[k].op) (Doc.fP a[k]) a[k].sym (a[k].args.map (Doc.value m a))=Doc.value m a k:=by
 have e:=w.terms k g;have x:a[k]?=some a[k]:=aF g;rw[Doc.yC (m:=m) x e.args];have y:=Doc.GN w D;have j:∀b∈a[k].args,b<a.length:=λb c=>Nat.lt_trans (e.args b c) g;generalize a[k]=t at e x j ⊢;cases e.made with
 | bool h c z l=>rcases h with h|h<;>simp[h,Doc.tv,pv,Doc.eG,pj]
 | num h c z l E=>
  rw[Doc.Si h];unfold pv;rw[h,if_pos (by rfl)];exact Zw h E
 | app h l c z=>
  rw[Doc.Sj h,h];rfl
 | form f n h R c l S=>
  have T:=Doc.kM f n;obtain⟨o,F,A,U⟩:=KH f n;obtain⟨G,H⟩:=Xq c;have V:=Doc.jO c;have W:(t.args.map (Doc.value m a)).length=t.args.length:=List.length_map ..;have I:∀i,i<t.args.length->t.args.getD i 0∈t.args:=λi hi=>Doc.qC hi
  have J:∀i,i<t.args.length->(t.args.map (Doc.value m a)).getD i 0=Doc.value m a (t.args.getD i 0):=λi hi=>by
   rw[List.getD_eq_getElem?_getD,List.getD_eq_getElem?_getD,List.getElem?_map,aF hi];rfl
  by_cases p:t.op=12
  ·have d:=y (t.args.getD 0 0) (j _ (I 0 (aP (A aR)))) (H aR);rw[Doc.Sk p,p];rw[<-J 0 (aP (A aR))]at d;show(if _ then _ else _)=_;rcases d with d|d<;>rw[d]<;>rfl
  by_cases q:t.op=15
  ·have:=F aR;rw[Doc.Sg q,q];exact Rm aR
  by_cases r:t.op=17
  ·have:=o aR;rw[Doc.Sc r,r];exact adP aR
  by_cases s:t.op=18
  ·have:=o aR;rw[Doc.Sb s,s];exact adQ aR
  by_cases u:t.op=16
  ·rw[Doc.Sd u,u];exact adO aR
  ·have B:3<=t.op/\t.op<=11:=aR;rw[Doc.Mg aR aR aR aR p q r s u]
   have K:=Zx t.op (t.args.map (Doc.value m a)) B.1 B.2 (λX Y L=>by
    obtain⟨b,C,rfl⟩:=List.mem_map.1 L;obtain⟨M,N⟩:=Uk f n aR aR;have O:f.from_=0:=by unfold Doc.Form.from_;rw[if_neg N]
    have P:f.want a t.args=1:=by unfold Doc.Form.want;rw[if_neg aR];exact M
    exact y b (j b C) (by rw[G b (by rw[O];exact C),P])) (λZ=>aP (o aR))
   rw[<-K]
   have Q:5<=Doc.eG t.op/\Doc.eG t.op<=13:=by
    have:t.op=3\/t.op=4\/t.op=5\/t.op=6\/t.op=7\/t.op=8\/t.op=9\/t.op=10\/t.op=11:=aR;rcases this with h|h|h|h|h|h|h|h|h<;>rw[h]<;>decide
   generalize Doc.eG t.op=bg at Q;unfold pv;rw[if_neg aR,if_neg aR,if_neg aR,if_neg aR]
end Go.Proofs.YtjiagbaaikifpaaGreatDoor
namespace Go.Proofs.YtjiagbaaikifpaaGreatDoor
open Go.RowKit Go.Proofs.Tryz
variable {W w:World}{a:eu}{f:List Int}{k m n:Nat}{v:Value}{z:Int}
structure zu (V wr:World)(B:Nat)(b:Bool)(a:eu)(n c:Nat)(z:Int):Prop where
 c0:wr.cell? (dA B 0)=some (.bool b)
 c1:wr.cell? (dA B 1)=some (.slice a n c)
 fr:∀o,wr.frozen? (dA B o)=false
 num:gL wr (.agg #[.bool b,.slice a n c]) z
 ek:Below B V wr
theorem zu.lt {wr:World}{b:Bool}{n:Nat}(h:zu w wr m b a n k z):m<wr.heap.size:=aj h.c0
theorem zu.below {wr:World}{c:Bool}(h:zu w wr n c a m k z)(b:dB wr W):zu w W n c a m k z:=
 ⟨(b.dL h.c0 h.lt),(b.dL h.c1 h.lt),λo=>(b.gq (h.fr o) h.lt),h.num.below b,h.ek.trans (b.mono (Nat.le_of_lt h.lt))⟩
theorem zu.put {wr:World}{j:Bool}(h:zu w wr n j a m k z){b:Bool}{c:eu}{d e:Nat}{g:Int}(l:gL wr (.agg #[.bool b,.slice c d e]) g):∃f,(wr.setCell (dA n 0) (.bool b)).setCell (dA n 1) (.slice c d e)=f/\zu w f n b c d e g:=by
 obtain⟨f,i,p,q,r,s⟩:=jV h.c0 h.c1 (.bool b) (.slice c d e);refine⟨f,i,p,q,λo=>?_,l.put h.c0 s,r _ _ h.ek ae⟩;rw[<-i];simp[h.fr o]
theorem QN (p:Nat)(bg:eu)(n bn:Nat)(a:List Int)(w:World)(B:lG w (.slice bg n bn) a)(hn1:1<=n)(hn8:n<=4)(hlen:∀z∈a,(dC.dec z).length<=2000000)(hp:p=17\/p=18\/p=19) :
 dH 224 #[dw p,.slice bg n bn] w λl w'=>qH w' (yX p a) l/\dB w w':=by
 obtain⟨hn,hc1,hc2⟩:=oI B;obtain⟨W,s⟩:∃W,w.alloc (.cells #[dP,dE] 229)=W:=⟨_,rfl⟩;have HB0:Hid (dB w W):=by show Below _ _ _;rw[<-s];exact af.alloc ae _
 have FO:Hid (w.heap.size<W.heap.size):=by show _<_;rw[<-s];simp
 have Pm:Hid (EY W w.heap.size):=⟨by rw[<-s];simp,by rw[<-s];simp,λo=>by rw[<-s];simp⟩;have HAT:=dn (EN bg n bn 0 a W (B.below HB0.o));have HG:=dn (λe (hb:dB W e)=>wI (B.below (HB0.o.dW hb)));have uM:=dn (λu v D bq e c f E F=>YR u v D bq e c f E F);have ajp:=dn (λu v D bq e c f E F=>OT u v D bq e c f E F);have GD:=dn (λu D e c=>UO u D e c);have rY:=dn (λk=>aa8 (p:=p) hlen k);have PG:=dn (Cx hlen);have HN:=dn hn;have Jc:Hid (∀k,lM p a (k+1)=if p=17 then lM p a k+a.getD (k+1) 0 else if p=18 then lM p a k+-(a.getD (k+1) 0) else lM p a k*a.getD (k+1) 0):=λk=>rfl;have HNL:=dn rR;obtain⟨R,S⟩:=aK (a.getD 0 0);have HZ0:Hid (lM p a 0=R):=S;have FU:Hid (p=18->n=1->yX p a=-R):=λc f=>by rw[c,Rm aR,S]
 have RV:Hid (¬(p=18/\n=1)->yX p a=lM p a (n-1)):=λc=>by unfold yX;rw[hn,if_neg c]
 rw[S]at HAT;obtain⟨T,hR⟩:=aK (yX p a);rw[hR]at FU RV ⊢;clear B hn hlen S hR;have HP:=dn hp;have FIN:=dn (fun(w3:World) (Y:Bool) (Z:eu) (n4 c4:Nat) c f=>Pm.o.fin (w3:=w3) (b4:=Y) (a4:=Z) (n4:=n4) (c4:=c4) (R:=T) HB0.o ae c f);go_enter func224,ntmps224;go_wp2_with fail;refine HAT.o.mono ?_;rintro l g ⟨⟨v,rfl,hv⟩,hb1⟩;have HV:=dn hv;have HB1:=dn hb1;obtain⟨b2,a2,n2,c2,l2,rfl,t⟩:=hv;obtain⟨V,x⟩:∃V,g.alloc (.cells #[.bool b2,.slice a2 n2 c2] 229)=V:=⟨_,rfl⟩;have Ae:Hid (dB g V):=by show Below _ _ _;rw[<-x];exact af.alloc ae _
 have v0:V.dQ g.heap.size 0=some (.bool b2):=am8;have v1:V.dQ g.heap.size 1=some (.slice a2 n2 c2):=am8;have qJ:Hid (zu V V g.heap.size b2 a2 n2 c2 R):=⟨v0,v1,λo=>am8,HV.o.below Ae.o,af⟩;have jG:=dn (HB1.o.dW Ae.o);clear t hb1 s
 by_cases c18:p=18/\n=1
 ·obtain⟨aeR,hn1'⟩:=c18;have HR2:=dn (FU.o aeR hn1');subst aeR;subst hn1';go_wp2_with fail;refine(GD.o _ R _ qJ.o.num).mono ?_;rintro l w3 ⟨⟨vv,rfl,b⟩,hb3⟩;rw[<-HR2.o]at b;have Yk:=dn b;obtain⟨Y,Z,n4,c4,l4,rfl,t⟩:=b;obtain⟨G,H,ff,wz,hwz,z0,z1,I⟩:=FIN.o w3 Y Z n4 c4 (jG.o.dW hb3) Yk.o;clear t hb3 x v0 v1;go_wp2;exact dR (.agg #[.bool Y,.slice Z n4 c4]) (by simp[results,results224,go_sem,z0,z1]) rfl ⟨⟨_,rfl,I.o.1⟩,I.o.2⟩
 ·have HR2:=dn (RV.o c18);have hs1:w.heap.size<g.heap.size:=Nat.lt_of_lt_of_le FO.o HB1.o.size;have hsW:=HB1.o.size
  have jF:Hid (∀(k:Nat) (z:Int),1<=k->a[k]?=some z->lM p a (k+1-1)=if p=17 then lM p a (k-1)+z else if p=18 then lM p a (k-1)+-z else lM p a (k-1)*z):=λk z c h=>by
   obtain⟨bA,rfl⟩:∃bA,k=bA+1:=⟨k-1,aR⟩;have:=Jc.o bA;rw[Doc.iI h]at this;exact this
  have afZ:Hid (zu V V g.heap.size b2 a2 n2 c2 (lM p a (1-1))):=by have:=qJ.o;rw[<-HZ0.o]at this;exact this
  have HLZ:Hid (∀z∈a,(dC.dec z).length<=2000000):=λz h=>by
   obtain⟨J,hi,rfl⟩:=List.mem_iff_getElem.1 h;have:=PG.o J
   rwa [Doc.iI (aF hi)]at this
  obtain⟨K,t⟩:=aK p;have HQ:=dn t;obtain⟨C,hC⟩:=aK (lM p a);rw[hC]at jF afZ HR2;have aj3:Hid (∀k,(dC.dec (C k)).length<=2000003*(k+1)):=by rw[<-hC];exact rY.o
  clear t qJ HAT Jc PG FU RV HZ0 rY hC;have hp:=HP.o;clear HP;rcases hp with rfl|rfl|rfl
  case' inr.inl=>
   have t3:¬((n:Int)=1):=λB=>c18 ⟨rfl,aR⟩;have t4:((n:Int)==1)=false:=ak t3
  all_goals
   clear c18;go_wp2_with fail
   go_loopw [6] (fun J wr=>∃(k:Nat) (bC:Bool) (L:eu) (M N:Nat),J=dw k/\1<=k/\k<=n/\zu V wr g.heap.size bC L M N (C (k-1))) (fun J _=>n-(intOf J).toNat)
   clear x v0 v1
   ·exact⟨1,_,_,_,_,rfl,ae,hn1,afZ.o⟩
   case round=>
    obtain⟨k,b3,L,M,N,rfl,hk1,hkn,m⟩:=hrel;have q:=dn m;have d0:=m.c0;have d1:=m.c1;have df:=m.fr;have IV:=dn (jG.o.trans (m.ek.mono hsW));have hlt1:=m.lt;clear m
    by_cases hlt:k<n
    ·obtain⟨z,h⟩:∃z,a[k]?=some z:=⟨_,aF amS⟩;have zq:=dn (jF.o k z hk1 h);have hzl:=HLZ.o z (List.mem_of_getElem? h);have hxl:=aj3.o (k-1);have hnl:=HNL.o z;obtain⟨bD,b5,a5,m5,c5,rfl,q0,q1,q2⟩:=HG.o wr IV.o k z h;have Dm:=dn q2;have hkn':(k:Int)<(n:Int):=aR;have hl1:2000003*(k-1+1)<=100000000:=aR;have r:Hid ((dC.dec (C (k-1))).length<=100000000/\(dC.dec z).length<=100000000/\(dC.dec (-z)).length<=100000000):=⟨Nat.le_trans hxl hl1,aR,aR⟩;obtain⟨X,hX⟩:=aK (C (k-1));rw[hX]at q zq r;clear h q2 hzl hxl hnl hl1 hX
     first
     | (have aeQ:Hid (17=K):=HQ
        have y:Hid (C (k+1-1)=X+z):=zq.o;go_wp2_with fail
        go_region_with (go_at_call 263;refine(uM.o _ _ X z _ (q.o.num.below af.drew) (Dm.o.below af.drew) r.o.1 r.o.2.1).mono ?_;rintro l A ⟨⟨vv,rfl,b⟩,i⟩;have O:=dn b;obtain⟨b6,a6,m6,c6,l6,rfl,P⟩:=b;clear P;have d:=dn (q.o.below (af.drew.trans i));have G:=d.o.c0;have H:=d.o.c1;have ff:=d.o.fr;obtain⟨wz,hwz,j⟩:=d.o.put O.o;have Q:=dn j;clear j i)
        all_goals
         go_wp2;go_roundw
         ·exact aqR
         ·simp[intOf];omega)
     | (have aeQ:Hid (19=K):=HQ
        have y:Hid (C (k+1-1)=X*z):=zq.o;obtain⟨bB,hY⟩:=aK (X*z);have K4:=dn (λu v e c f E F=>ajp.o u v X z e c f E F);rw[hY]at y K4;clear hY;go_wp2_with fail
        go_region_with (go_at_call 264;refine(K4.o _ _ _ (q.o.num.below af.drew) (Dm.o.below af.drew) r.o.1 r.o.2.1).mono ?_;rintro l A ⟨⟨vv,rfl,b⟩,i⟩;have O:=dn b;obtain⟨b6,a6,m6,c6,l6,rfl,P⟩:=b;clear P;have d:=dn (q.o.below (af.drew.trans i));have G:=d.o.c0;have H:=d.o.c1;have ff:=d.o.fr;obtain⟨wz,hwz,j⟩:=d.o.put O.o;have Q:=dn j;clear j i)
        all_goals
         go_wp2;go_roundw
         ·exact aqR
         ·simp[intOf];omega)
     | (have aeQ:Hid (18=K):=HQ
        have y:Hid (C (k+1-1)=X+-z):=zq.o;go_wp2_with fail;refine(GD.o _ z _ Dm.o).mono ?_;rintro l A ⟨⟨vv,rfl,b⟩,i⟩;have O:=dn b;obtain⟨b6,a6,m6,c6,l6,rfl,P⟩:=b;obtain⟨U,hU⟩:∃U,A.alloc (.cells #[.bool b6,.slice a6 m6 c6] 229)=U:=⟨_,rfl⟩;have PQ:Hid (dB A U):=by show Below _ _ _;rw[<-hU];exact af.alloc ae _
        have u0:U.dQ A.heap.size 0=some (.bool b6):=by rw[<-hU];simp
        have u1:U.dQ A.heap.size 1=some (.slice a6 m6 c6):=by rw[<-hU];simp
        have d:=dn (q.o.below (i.dW PQ.o));have G:=d.o.c0;have H:=d.o.c1;have HVU:=dn (O.o.below PQ.o);clear P i d0 d1 df q0 q1;go_wp2_with fail;refine(uM.o _ _ X (-z) _ d.o.num HVU.o r.o.1 r.o.2.2).mono ?_;rintro l w5 ⟨⟨vv,rfl,b⟩,hb5⟩;have HV5:=dn b;obtain⟨b7,a7,m7,c7,l7,rfl,hq7⟩:=b;have OZ:=dn (d.o.below hb5);have g0:=OZ.o.c0;have g1:=OZ.o.c1;have gf:=OZ.o.fr;obtain⟨wz,hwz,j⟩:=OZ.o.put HV5.o;have Q:=dn j;clear j hb5 hq7 G H hU u0 u1;go_wp2;go_roundw
        ·exact aqR
        ·simp[intOf];omega)
    ·have hkn':¬((k:Int)<(n:Int)):=aR;have HVN:Hid (gL wr (.agg #[.bool b3,.slice L M N]) T):=by show gL _ _ _;rw[HR2.o,show n=k by omega];exact q.o.num
     obtain⟨G,H,ff,wz,hwz,z0,z1,I⟩:=FIN.o wr b3 L M N IV.o HVN.o;clear df;go_wp2;exact dR (.agg #[.bool b3,.slice L M N]) (by simp[results,results224,go_sem,z0,z1]) rfl ⟨⟨_,rfl,I.o.1⟩,I.o.2⟩
theorem Kr:∃i,prog.info? 229=some i/\i.zero=some (.agg #[dP,dE])/\i.size=2/\i.bytes=32:=by
 have h:(prog.info? 229).map (λi=>(i.zero,i.size,i.bytes))=some (some (.agg #[dP,dE]),2,32):=bR;cases e:prog.info? 229 with
 | none=>rw[e]at h;simp at h
 | some i=>rw[e]at h;simp at h;exact⟨i,rfl,h.1,h.2.1,h.2.2⟩
inductive iO (w:World):List (List Value)->List Int->Prop
 | nil:iO w [] []
 | snoc {xs:List (List Value)} {zs:List Int} {b:Bool} {a:eu} {n c:Nat} {z:Int} (h:iO w xs zs) (h2:gL w (.agg #[.bool b,.slice a n c]) z):iO w (xs++[[.bool b,.slice a n c]]) (zs++[z])
theorem iO.imp {a:List (List Value)}(h:iO w a f)(hi:∀v z,gL w v z->gL W v z):iO W a f:=by
 induction h with
 | nil=>exact .nil
 | snoc _ b c=>exact .snoc c (hi _ _ b)
theorem iO.down {a:List (List Value)}(h:iO w a f)(b:dB w W):iO W a f:=h.imp λ_ _ h=>h.below b
theorem iO.len {a:List (List Value)}(h:iO w a f):a.length=f.length:=by
 induction h with
 | nil=>rfl
 | snoc _ _ b=>simp[b]
theorem iO.get {d:List (List Value)}(h:iO w d f):∀i (hi:i<f.length),∃(b:Bool) (a:eu) (n c:Nat),d[i]?=some [.bool b,.slice a n c]/\gL w (.agg #[.bool b,.slice a n c]) f[i]:=by
 induction h with
 | nil=>intro i hi;simp at hi
 | @snoc d f b a n c z h g j=>
  intro i hi
  by_cases e:i<f.length
  ·obtain⟨b,a,n,c,k,l⟩:=j i e;exact⟨b,a,n,c,by rw[List.getElem?_append_left (by rw[h.len];exact e)];exact k,by rw[List.getElem_append_left e];exact l⟩
  ·have:i=f.length:=by simp at hi;omega
   subst this;exact⟨b,a,n,c,by rw[List.getElem?_append_right (by rw[h.len];exact ae),h.len,Nat.sub_self];rfl,by rw[List.getElem_append_right ae];simpa using g⟩
theorem iO.two {b:List (List Value)}(h:iO w b f):∀x∈b,x.length=2:=by
 induction h with
 | nil=>simp
 | snoc _ _ c=>
  intro x d;rcases List.mem_append.1 d with a|a
  ·exact c x a
  ·simp at a;rw[a];rfl
theorem Cf {b:List (List Value)}(h:w.ownsRow n 229 2 v m b.flatten)(a:iO w b f)(j:f.length=m):lG w v f:=by
 subst j;rw[<-a.len]at h;refine gu.imp' (Row.fq h rfl a.two).sl a.len λs k hi c l=>?_;obtain⟨d,e,m,g,o,p⟩:=a.get k l;obtain⟨t,i⟩:=aG o;have q:=c hi 0 aR (.bool d) ao9;have r:=c hi 1 aR (.slice e m g) ao9;exact⟨d,e,m,g,q,r,p⟩
theorem Qb (q p num h so b J K M nE cE:Nat)(N O aE:eu)(B:List Nat)(r:List Int)(L:List fU)(w:World)(P:w.dQ q 0=some (.slice aE nE cE))(Q:w.dQ q 1=some (.slice O K M))(hL:gI w aE cE L)(hLn:L.length=nE)(hV:lG w (.slice O K M) r)(hA:eX w (.slice N b J) B)(hA4:b<=4)(hlen:∀z∈r,(dC.dec z).length<=2000000)
 (hlk:∀f,(Doc.look (fZ L) h f).length<=100000000/\dC.Is (Doc.look (fZ L) h f)=true) (d:p=3\/p=4\/p=16\/(p=17\/p=18\/p=19)\/(p=1\/p=2\/p=5\/p=6\/p=7\/p=8\/p=9\/p=10\/p=11\/p=12\/p=13)) (hpn:p=17\/p=18\/p=19->1<=b) (ahW:num<=1000000000) :
 dH 155 #[dK q 0,.agg #[dw p,dw h,dw num,.slice N b J,dw so]] w λbg w'=>qH w' (pv (fZ L) p num h (B.map (λx=>r.getD x 0))) bg/\dB w w':=by
 obtain⟨hn,hc1,hc2⟩:=iy hA;obtain⟨i0,hi,hz0,hz1,hz2⟩:=Kr;obtain⟨W,i⟩:∃W,(w.alloc (.cells #[dw p,dw h,dw num,.slice N b J,dw so] 226)).alloc (.cells #[dP,dE] 229)=W:=⟨_,rfl⟩;have u:Hid (dB w W):=by show Below _ _ _;rw[<-i];exact ai.alloc aW _
 have FO:Hid (w.heap.size+1<W.heap.size):=by show _<_;rw[<-i];simp
 have pM:Hid (∀c,dB W c->c.dQ w.heap.size 0=some (dw p)/\c.dQ w.heap.size 1=some (dw h)/\c.dQ w.heap.size 2=some (dw num)/\c.dQ w.heap.size 3=some (.slice N b J)/\c.dQ q 1=some (.slice O K M)):=λc o=>by
  have C:∀{bq:Addr} {S:Value},W.cell? bq=some S->c.cell? bq=some S:=λv=>(o.cell (aj v)).trans v;exact⟨C amf,C amf,C amf,C amf,C ((u.o.eT Q))⟩
 have Pm:Hid (EY W (w.heap.size+1)):=⟨amf,amf,λ_=>amf⟩;obtain⟨a,D⟩:=aK (B.map (λx=>r.getD x 0));have hzl:a.length=b:=by rw[<-D,List.length_map];exact hn
 have zh:=dn hzl
 have HZD:Hid (∀z∈a,(dC.dec z).length<=2000000):=λz T=>by
  rw[<-D]at T;obtain⟨x,_,rfl⟩:=List.mem_map.1 T;exact Cx hlen x
 have HZG:Hid (∀k x,B[k]?=some x->a[k]?=some (r.getD x 0)):=λk x bn=>by rw[<-D,List.getElem?_map,bn];rfl
 have HG:=dn (λc (o:dB W c)=>mU (hA.below (u.o.dW o)));have HAT:=dn (fun(E:Nat) c (o:dB W c)=>Rc O K M E r W c (hV.below u.o) o);have EE:=dn (λc (o:dB W c) (U:eu) (bA:Nat) (bn:lG c (.slice U b bA) a)=>Nf q h b bA nE cE U aE a L c ((u.o.dW o).cell (p:=dA q 0) (aj P) |>.trans P) (hL.below (u.o.dW o)) hLn bn aR (λz T=>Nat.le_trans (HZD.o z T) aR) (hlk _).1 (hlk _).2);have HAN:=dn hn;rw[D];obtain⟨R,hR⟩:=aK (pv (fZ L) p num h a);rw[hR];have s:=dn hR;have hvb:q<W.heap.size:=Nat.lt_trans (aj P) (aP FO.o);have FIN:=dn (fun(t:World) (j:Bool) (l:eu) (m n:Nat) Q h2=>Pm.o.fin (w3:=t) (b4:=j) (a4:=l) (n4:=m) (c4:=n) (R:=R) u.o aR Q h2);obtain⟨V,X,Y,Z,x4⟩:=pM.o W af;have HP:=dn d;have Et:=dn hpn;clear P Q hL hLn hV hA hn hlen hlk D hzl hR d hpn;go_enter func155,ntmps155;go_wp2_with fail
 go_loopw [5,11] (fun S E wr=>∃(k:Nat) (f:List (List Value)),E=dw k/\k<=b/\iO W f (a.take k)/\f.length=k/\wr.ownsRow W.heap.size 229 2 S k f.flatten/\dB W wr) (fun _ E _=>b-(intOf E).toNat)
 ·exact⟨0,[],rfl,aR,.nil,rfl,World.ownsRow_nil _ _ _ _,af⟩
 case round=>
  obtain⟨k,f,rfl,hk,hxs,hxl,hown,hbel⟩:=hrel;have RG:=dn hxs;have HXL:=dn hxl;have HOWN:=dn hown;have g:=dn hbel;clear hxs hxl hown hbel V X Y Z x4;obtain⟨V,X,Y,Z,x4⟩:=pM.o wr g.o
  by_cases hlt:k<b
  ·obtain⟨x,F⟩:∃x,B[k]?=some x:=⟨_,aF (by rw[HAN.o];exact hlt)⟩;obtain⟨bB,rfl,q0⟩:=HG.o wr g.o k x F;have e:=dn (HAT.o x wr g.o);have HZK:=dn (HZG.o k x F);generalize r.getD x 0=z at *;have hkn:(k:Int)<(b:Int):=aR;clear F;go_wp2_with fail;refine e.o.mono ?_;rintro bg w2 ⟨⟨vv,rfl,G⟩,y⟩;have HV:=dn G;obtain⟨j,l,m,n,l4,rfl,v⟩:=G;have zo:=dn (ownsRow_below HOWN.o y);have HB2:=dn (g.o.dW y);have HXN:Hid (iO W (f++[[.bool j,.slice l m n]]) (a.take (k+1))):=by show iO _ _ _;rw[List.take_add_one,HZK.o];exact .snoc RG.o HV.o
   clear y q0 V X Y Z x4 v;go_wp2_with (at_builtin;refine dU rfl (.tmp 15) (.tmp 22) 222 rfl W.heap.size 229 i0 (.agg #[dP,dE]) 2 32 underlying222 hi hz0 hz1 hz2 rfl aY _ k f.flatten rfl (by exact zo.o.alloc _) (dA w2.heap.size 0) 1 [.bool j,.slice l m n] rfl rfl (by exact oW _ [.bool j,.slice l m n] _) (by intro bC hu;simp only[List.mem_cons,List.not_mem_nil,or_false]at hu;rcases hu with rfl|rfl<;>rfl) bz aR (by simp;have:=HB2.o.size;omega) ?_;intro gn fD t hown' hgrow _ tu);have BG:Hid (t.ownsRow W.heap.size 229 2 (dJ gn (k+1) fD) (k+1) (f++[[Value.bool j,Value.slice l m n]]).flatten):=by show World.ownsRow _ _ _ _ _ _ _;rw[List.flatten_append];exact hown'
   have HB3:Hid (dB W t):=(HB2.o.fO).grown hgrow (by simp;have:=HB2.o.size;omega) (λx F=>(zo.o.lt x F).1);clear hown' hgrow tu;go_wp2;go_roundw
   ·exact⟨k+1,_,bL,aR,HXN.o,by rw[List.length_append,HXL.o];rfl,BG.o,HB3.o⟩
   ·exact aph
  ·have hkn:¬((k:Int)<(b:Int)):=aR;have Pv:Hid (iO W f a):=by have:=RG.o;rw[List.take_of_length_le (by rw[zh.o];omega)]at this;exact this
   have H:=dn (Cf HOWN.o (Pv.o.down g.o) (by rw[zh.o];omega));obtain⟨ao,cap,hv,zT,hcb,_⟩:=H.o;rw[zh.o]at hv zT;subst hv;unfold maxLen at hcb;have d:=HP.o;have ajb:=dn Et.o;clear HP Et HAT HG HZG RG HOWN Pv;rcases d with rfl|rfl|rfl|d|d
   case' inl=>
    have A:Hid ((num:Int)=R):=s.o;go_wp2_with fail;refine(PV num _ ahW).mono ?_
   case' inr.inl=>
    have A:Hid (Doc.num (Doc.look (fZ L) h (a.map dC.dec))=R):=s.o;have e:=dn (EE.o wr g.o ao cap H.o);go_wp2_with fail;refine e.o.mono ?_
   case' inr.inr.inl=>
    have A:Hid ((if (a.getD 0 0 !=0)=true then a.getD 1 0 else a.getD 2 0)=R):=s.o;have e:=dn (Uv ao b cap a wr H.o);go_wp2_with fail;refine e.o.mono ?_
   case' inr.inr.inr.inl=>
    have e:=dn (QN p ao b cap a wr H.o (ajb.o d) hA4 HZD.o d);have A:Hid (yX p a=R):=by show _=_;rw[<-s.o];unfold pv;rw[if_neg aR,if_neg aR,if_neg aR,if_pos d]
    clear s;rcases d with rfl|rfl|rfl
   case' inr.inr.inr.inl.inl=>
    go_wp2_with fail;refine e.o.mono ?_
   case' inr.inr.inr.inl.inr.inl=>
    go_wp2_with fail;refine e.o.mono ?_
   case' inr.inr.inr.inl.inr.inr=>
    go_wp2_with fail;refine e.o.mono ?_
   case' inr.inr.inr.inr=>
    have e:=dn (Tz p ao b cap a wr H.o aR d);have A:Hid ((if pj p a then(1:Int) else 0)=R):=by show _=_;rw[<-s.o];unfold pv;rw[if_neg (show ¬p=3 by omega),if_neg (show ¬p=4 by omega),if_neg (show ¬p=16 by omega),if_neg (show ¬(p=17\/p=18\/p=19) by omega)]
    have t1:((p:Int)==3)=false:=ak aR;have t2:((p:Int)==4)=false:=ak aR;have t3:((p:Int)==16)=false:=ak aR;have t4:((p:Int)==17)=false:=ak aR;have t5:((p:Int)==18)=false:=ak aR;have t6:((p:Int)==19)=false:=ak aR;generalize pj p a=U at *;clear d s;go_wp2_with fail;refine e.o.dX λw2 y=>?_;have oh:=dn (g.o.dW y);clear e g y V X Y Z x4;have g:=dn oh.o;cases U
   case' false=>
    obtain⟨f0,f1,ff,wz,hwz,z0,z1,I⟩:=FIN.o w2 false none 0 0 g.o (by rw[<-A.o];exact gL.zero _);go_wp2;exact dR (.agg #[dP,dE]) (by simp[results,results155,go_sem,z0,z1]) rfl ⟨⟨_,rfl,I.o.1⟩,I.o.2⟩
   case' true=>
    go_wp2_with fail;refine(PV 1 _ aR).mono ?_
   all_goals
    rintro bg t ⟨⟨vv,rfl,G⟩,hb3⟩;have HV:Hid (gL t vv R):=by show gL _ _ _;rw[<-A.o];exact G
    obtain⟨j,l,m,n,l4,rfl,v⟩:=G;obtain⟨f0,f1,ff,wz,hwz,z0,z1,I⟩:=FIN.o t j l m n (g.o.dW hb3) HV.o;clear v hb3;go_wp2;exact dR (.agg #[.bool j,.slice l m n]) (by simp[results,results155,go_sem,z0,z1]) rfl ⟨⟨_,rfl,I.o.1⟩,I.o.2⟩
