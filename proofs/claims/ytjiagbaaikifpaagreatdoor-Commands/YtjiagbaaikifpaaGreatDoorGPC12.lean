import Derived.Test.YtjiagbaaikifpaaGreatDoorGPC7
import Derived.Test.YtjiagbaaikifpaaGreatDoorGPL6
set_option maxRecDepth 100000
set_option maxHeartbeats 16000000
namespace Go.Proofs.YtjiagbaaikifpaaGreatDoor
open Go.RowKit Go.Proofs.Tryz
variable {A:List Doc.Tr}{I:List Doc.Item}{O o:Own}{U W u w:World}{Y:Doc.Tr}{h:Ending}{i k m n:Nat}{l:List Nat}{v:Value}{x:dN}
theorem Es {b p:Nat}{ks:List Doc.Tr}{own:Own}(hi:vO w v I)(f:Doc.mg I b (.list p ks))(g:I.length<=1000000)(h:∀d,w.heap.size<=d->own d=0) :
 dH 79 #[v,dw b] w λe a=>(∃A q,e=dF (.slice A ks.length q)/\fG a own (.slice A ks.length q) (Doc.places ks (b+1)))/\dB w a:=by
 refine(UT v I b p ks w hi f g).mono ?_;rintro e a ⟨⟨u,rfl,c⟩,i⟩;have j:=Doc.BZ ks (b+1);have k:fG a own u (Doc.places ks (b+1)):=Ba c h;rw[j]at c;obtain⟨l,m,rfl,_,_⟩:=ik c;exact⟨⟨l,m,rfl,k⟩,i⟩
theorem mV {a:Doc.Item}(h:I[n]?=some a):uj I n=a:=by unfold uj;rw[h];rfl
theorem J6 (d c k u b q:Nat)(e:List Doc.Item)(own:Own)(S:Doc.dO)(x:dN)(w:World)(v:jT w own d c e)(y:dI w own k c S)(z:eD own w)(N:k≠0)(A:Doc.iB S.syms S.terms)(B:Doc.mg e b (.word q x))(O:x≠[])(P:x.length<=1000000) :
 dH 178 #[dK d 0,dw b] w λf l=>jP w l own k c S (Doc.term S.syms (u+1) (.word q x) S.terms) f:=by
 have C:Doc.term S.syms (u+1) (.word q x) S.terms=Doc.je q (Doc.leaf S.syms S.terms x):=rfl;rw[C];obtain⟨a,g⟩:∃a,w.alloc (.cells #[dw 0,dw 0] 64)=a:=⟨_,rfl⟩;have m:dB w a:=by rw[<-g];exact af.alloc ae _
 have hsz:a.heap.size=w.heap.size+1:=al5;have D:fF w a w.heap.size:=⟨al5,al5,λbn=>al5⟩;have Q:=dn D;have s:Hid (Fr own (dG own w.heap.size (k+1)) k w a):=Fr.boxed z m ae aR;have E:dI a (dG own w.heap.size (k+1)) k c S:=y.boxed m ae;have h:jT a (dG own w.heap.size (k+1)) d c e:=v.boxed m ae;have hol:=h.lt;obtain⟨vI,hcI,t⟩:=h.items;obtain⟨R,T,rfl,_⟩:=id t;have F:=B.item;have n:=dn (zw (.slice R e.length T) e b a t.items);rw[mV F]at n;simp only[Doc.Tr.pos,Doc.Tr.text]at n;obtain⟨fin,G⟩:=aK (b+(Doc.flat (.word q x) b).length);rw[G]at n
 have U:Hid (∀W,dB a W->dH 235 #[dK d 0,.agg #[dw q,dD x,dw fin]] W λf l=>jP a l (dG own w.heap.size (k+1)) k c S (Doc.je q (Doc.leaf S.syms S.terms x)) f):=λW o=>
  (Mc d c k q fin _ S x W (h.below o).st (E.below o) (λV X=>s.o.eH V (Nat.le_trans o.size X)) N A P).mono (λf l Y=>Y.lift s.o.eH o)
 have Z:(x==[])=false:=ak O;have Lb:Hid (dG own w.heap.size (k+1) w.heap.size≠k):=bT;clear v y z A B m D E t F G C;generalize Doc.je q (Doc.leaf S.syms S.terms x)=bq at *;have o0:=h.st;clear h;go_enter func178,ntmps178;go_wp2_with fail;refine n.o.dX λi H=>?_;have I:dB a (i.alloc (.cells #[dw q,dD x,dw fin] 129)):=H.fO;have nG:=dn I;have J:=dn (oL q fin x (i.alloc (.cells #[dw q,dD x,dw fin] 129)));rw[Z]at J;clear H I;go_wp2_with fail;refine J.o.dX λw2 j=>?_;have i0:=(j.cell (p:=dA i.heap.size 0) aW).trans (show _=some (dw (q:Int)) by simp);have i1:=(j.cell (p:=dA i.heap.size 1) aW).trans (show _=some (dD x) by simp);have i2:=(j.cell (p:=dA i.heap.size 2) aW).trans (show _=some (dw (fin:Int)) by simp);have zt:=dn (nG.o.dW j);clear j;go_wp2_with fail;refine(U.o _ zt.o).mono ?_;rintro f w5 p;obtain⟨bg,K,b,rfl⟩:=p.three;have r:=p.fb Q.o Lb.o;have c0:=r.c0;have c1:=r.c1;have cf:=r.fr;obtain⟨wz,hwz,z0,z1,L,M⟩:=eP c0 c1 (dw (K:Int)) (dw (b:Int));have HFin:=dn (p.fw s.o ae aR L M);clear p r L M;go_wp2;exact dR (dM #[dw (bg:Int),.agg #[dw (K:Int),dw (b:Int)]]) (by simp[results,results178,go_sem,z0,z1]) rfl HFin.o
theorem jD {u0 u1 u2:Value}(j:w.cell? (dA n 0)=some u0)(k:w.cell? (dA n 1)=some u1)(l:w.cell? (dA n 2)=some u2)(e f g:Value) :
 ∃c,((w.setCell (dA n 0) e).setCell (dA n 1) f).setCell (dA n 2) g=c/\c.cell? (dA n 0)=some e/\c.cell? (dA n 1)=some f/\c.cell? (dA n 2)=some g/\Below n w c/\c.heap.size=w.heap.size:=by
 have m:∀(a b:Nat),a≠b->((dA n a):Addr)≠(dA n b):=λa b h p=>h (by injection p);have o:∀(w:World) (a b:Nat) (v u:Value),a≠b->w.cell? (dA n b)=some u->(w.setCell (dA n a) v).cell? (dA n b)=some u:=λw a b v u h q=>(ax (m a b h)).trans q;have d:∀(i:World) (a:Nat) (v:Value),Below n w i->Below n w (i.setCell (dA n a) v):=λ_ _ _ h=>h.setCell ae _;refine⟨_,rfl,?_,?_,?_,d _ _ _ (d _ _ _ (d _ _ _ af)),amn⟩
 ·exact o _ 2 0 _ _ aR (o _ 1 0 _ _ aR (aC j))
 ·exact o _ 2 1 _ _ aR (aC (o _ 0 1 _ _ aR k))
 ·exact aC (o _ 1 2 _ _ aR (o _ 0 2 _ _ aR l))
theorem abe {a:List Doc.Sym}{b:List Doc.Term}{t:Doc.Term}(h:mZ a b n l=.ok t):l.length=(Doc.iD a n).length:=by
 unfold mZ at h;split at h
 ·cases h
 ·exact aR
theorem ZM (h:Doc.oks A):Doc.oks (A.drop 1):=by
 cases A with
 | nil=>exact h
 | cons a A=>simp only[Doc.oks]at h;exact h.2
theorem Qa (a:List Doc.Tr):Doc.fE (a.drop 1)<=Doc.fE a:=by
 cases a with
 | nil=>exact ae
 | cons b a=>simp only[Doc.fE,List.drop_succ_cons,List.drop_zero];omega
theorem jP.aeo {S:Doc.dO}{b:List Doc.Term}{R:Except (Nat × Nat) (List Doc.Term × Nat)}(d:jP W u O n m { S with terms:=b } R h)(e:Fr o O n w W)(f:∃a,b=S.terms++a):jP w u o n m S R h:=by
 obtain⟨g,i,c⟩:=d;refine⟨g,e.trans i,?_⟩;cases R with
 | ok r=>exact c
 | error x=>
  obtain⟨j,k,a,l⟩:=c;obtain⟨p,rfl⟩:=f;exact⟨j,k,p++a,by rw[<-List.append_assoc];exact l⟩
theorem jP.Xr {own:Own}{a b:Nat}{S:Doc.dO}{e:List Doc.Term}(g:Fr own (dG own k (n+1)) n w W)(h:Fr (dG own k (n+1)) o n W u)(i:dI u o n m { S with terms:=e })(j:∃c,e=S.terms++c)(l:w.heap.size<=k)(p:k<W.heap.size)(q:a≠0)
 (r:∀(own f:Own) (n:Nat) (d:World),Fr own f n d u->d.heap.size<=k->Fr own f n d U) (s:∀(own:Own) (n m:Nat) (S:Doc.dO),dI u own n m S->own k≠0->own k≠n->dI U own n m S):jP w U own n m S (.error (a,b)) (dF (dM #[dw 0,.agg #[dw (a:Nat),dw (b:Nat)]])):=by
 obtain⟨c,rfl⟩:=j;have t:jP W u (dG own k (n+1)) n m S (.error (a,b)) (dF (dM #[dw 0,.agg #[dw (a:Nat),dw (b:Nat)]])):=⟨o,h,rfl,q,c,i⟩;exact t.fw g l p r s
theorem VE (n i k u o p:Nat)(B:List Doc.Item)(own:Own)(S:Doc.dO)(d:List Doc.Tr)(w:World)(ho:jT w own n i B)(hS:dI w own k i S)(hfr:eD own w)(hk:k≠0)(hw:Doc.iB S.syms S.terms)(hlies:Doc.mg B o (.list p d))(hok:Doc.oks d)(hwd:Doc.fE d<=800)(hits:B.length<=1000)(hn:d.length<=1000)
 (ih:∀(t:Doc.Tr) (bt:Nat) (own:Own) (S:Doc.dO) (w:World),t∈d->jT w own n i B->dI w own k i S->eD own w->Doc.iB S.syms S.terms->Doc.mg B bt t->t.ok->t.width<=800->
  dH 178 #[dK n 0,dw (bt:Nat)] w λe m=>jP w m own k i S (Doc.term S.syms u t S.terms) e) :
 dH 178 #[dK n 0,dw o] w λe m=>jP w m own k i S (Doc.term S.syms (u+1) (.list p d) S.terms) e:=by
 have hR:=gU;obtain⟨R,Oc⟩:=aK (Doc.term S.syms (u+1) (.list p d) S.terms);rw[Oc];have uR:=dn Oc;obtain⟨l,hW1⟩:∃l,w.alloc (.cells #[dw 0,dw 0] 64)=l:=⟨_,rfl⟩;have hb1:dB w l:=amH;have hsz:l.heap.size=w.heap.size+1:=alZ;have yQ:fF w l w.heap.size:=⟨alZ,alZ,λbn=>alZ⟩;have Vf:=dn yQ;have L:Hid (Fr own (dG own w.heap.size (k+1)) k w l):=Fr.boxed hfr hb1 ae aR;have hS1:dI l (dG own w.heap.size (k+1)) k i S:=hS.boxed hb1 ae;have nS:=dn hS1;have ho1:jT l (dG own w.heap.size (k+1)) n i B:=ho.boxed hb1 ae;have uS:=dn ho1;have hol:=ho1.lt;obtain⟨vI,hcI,xB⟩:=ho1.items;obtain⟨aI,cI,rfl,_⟩:=id xB;have ach:=hlies.item
 have HAT:Hid (∀b' it,B[b']?=some it->∀W,dB l W->dH 120 #[.slice aI B.length cI,dw (b':Nat)] W λe m=>e=dF (.agg #[dw it.pos,dD it.word,dw it.fin])/\dB W m):=λb' it h W hW=>by
  have:=zw (.slice aI B.length cI) B b' W (xB.items.below hW);rw[mV h]at this;exact this
 have abP:Hid (∀W,dB l W->dH 79 #[.slice aI B.length cI,dw o] W λe m=>(∃bB bg,e=dF (.slice bB d.length bg)/\fG m (dG own w.heap.size (k+1)) (.slice bB d.length bg) (Doc.places d (o+1)))/\dB W m):=λW hW=>
  Es (xB.items.below hW) hlies aR (λbq hc=>L.o.eH bq (Nat.le_trans hW.size hc))
 have HOC:=dn (λW (hW:dB l W)=>show W.dQ n 0=some (dK i 0)/\W.dQ n 1=some (.slice aI B.length cI) from⟨(hW.dL ho1.st hol),(hW.dL hcI hol)⟩);have ab3:=dn (HAT.o o _ ach l af);simp only[Doc.Tr.pos,Doc.Tr.text]at ab3;obtain⟨fin,hfin⟩:=aK (o+(Doc.flat (.list p d) o).length);rw[hfin]at ab3;have LY:=dn hlies;have K8:=dn ih;have oP:=dn hok;have IW:=dn hwd;have HW:=dn hw;have Lb:Hid (dG own w.heap.size (k+1) w.heap.size≠k):=bT;obtain⟨o0,o1⟩:=HOC.o l af;have alM:Hid ((⟨([]:dN).toArray⟩:ByteArray)=⟨#[]⟩):=rfl;clear ho hS hfr hw hlies hb1 yQ hS1 xB ach hfin Oc ho1 hcI ih hok hwd;go_enter func178,ntmps178;go_wp2_with fail;refine ab3.o.dX λZ v=>?_;have hbb:dB l (Z.alloc (.cells #[dw p,dD ([]:dN),dw fin] 129)):=v.fO;have nG:=dn hbb;have HIL:=dn (oL p fin [] (Z.alloc (.cells #[dw p,dD ([]:dN),dw fin] 129)));have KA:(([]:dN)==[])=true:=rfl;rw[KA]at HIL;have hwI:=v.size;clear v hbb KA;go_wp2_with fail;refine HIL.o.dX λw2 hbc=>?_;have hI1:Z.heap.size<w2.heap.size:=by have:=hbc.size;simp at this;omega
 have j0:=(hbc.cell (p:=dA Z.heap.size 0) aW).trans (show _=some (dw (p:Int)) by simp);have zt:=dn (nG.o.dW hbc);clear hbc;obtain⟨o2,o3⟩:=HOC.o w2 zt.o;go_wp2_with fail;refine(abP.o _ zt.o).mono ?_;rintro e f ⟨⟨aN,cN,rfl,hins⟩,hbd⟩;have acL:=dn hins;have ED:=dn (zt.o.dW hbd);have j3:=hbd.dL j0 hI1;have hI3:=Nat.lt_of_lt_of_le hI1 hbd.size;obtain⟨rH,xA,yN⟩:=iM hins.ints;rw[<-rH]at xA;clear hbd hins rH
 by_cases h0:d.length=0
 ·have E:Hid (R=.error (4,p)):=by show _=_;rw[<-uR.o];exact Doc.Mh S.syms u p S.terms h0
  have t0:((d.length:Int)==0)=true:=by rw[h0];rfl
  clear uR h0;generalize d.length=bF at *;go_wp2_with fail;have F:dB l f:=ED.o;have x:=Vf.o.below F;have O:=x.c0;have P:=x.c1;have df:=x.fr;obtain⟨wz,hwz,y,z,q,j⟩:=eP O P (dw 4) (dw (p:Int));have G:=dn (jP.fault (a:=4) (b:=p) L.o nS.o F ae aR aR q j).drew;clear q j F x;go_region
  all_goals
   go_wp2;exact dR (dM #[dw 0,.agg #[dw 4,dw (p:Int)]]) amd rfl amZ
 ·have hpos:0<d.length:=aR;have t0:((d.length:Int)==0)=false:=ak aR;obtain⟨gN,rfl,n0⟩:=gF acL.o.ints 0 (o+1) (by rw[Doc.mJ hpos,Doc.xK]);have hhd:=LY.o.kid hpos;rw[Doc.xK]at hhd;have JY:=dn (HAT.o (o+1) _ hhd.item);obtain⟨Q,NQ⟩:=aK (d[0]);rw[NQ]at JY;obtain⟨Ar,Hu⟩:=aK (o+1+(Doc.flat Q (o+1)).length);rw[Hu]at JY;have air:((o+1:Nat):Int)=(o:Int)+1:=aR;rw[air]at JY n0;have hgN:gN<f.heap.size:=aj n0;have ahV:n<f.heap.size:=aP ED.o.size;have HK0:Hid (d[0]?=some Q):=by show _=_;rw[aF hpos,NQ]
  have ajJ:Hid Q.ok:=by rw[<-NQ];exact Doc.mG oP.o _ (List.getElem_mem hpos)
  have ajI:Hid (Q.width<=800):=by rw[<-NQ];exact Nat.le_of_succ_le (Nat.le_trans (Doc.kH (ks:=d) _ (List.getElem_mem hpos)) IW.o)
  obtain⟨o4,o5⟩:=HOC.o f ED.o;have alq:(0:Int)<(d.length:Int):=aR;clear Hu hhd NQ h0;obtain⟨g,hhp⟩:=aK Q.pos;obtain⟨c,hhx⟩:=aK Q.text;rw[hhp,hhx]at JY;have HHP:=dn hhp;have HHX:=dn hhx;clear hhp hhx;go_upto_region 7 with fail
  go_cut [8] (fun bA wx=>∃i2,bA=dK i2 0/\dB f wx/\f.heap.size<=i2/\i2<wx.heap.size/\wx.dQ i2 0=some (dw (g:Int))/\wx.dQ i2 1=some (dD c)/\wx.dQ i2 2=some (dw (Ar:Int)))
  case first=>
   go_region_with (go_at_call 120;first|(refine(JY.o _ ED.o.drew).dX fun w4 M=>?_;have hbx:dB f w4:=(Below.refl f.heap.size f).drew.trans M)|(refine(JY.o _ (ED.o.fO).drew).dX fun w4 M=>?_;have hbx:dB f w4:=((Below.refl f.heap.size f).alloc ae _).drew.trans (M.mono aW);have q0:=(M.cell (p:=dA f.heap.size 0) aW).trans (show _=some (dw 0) by simp);have q1:=(M.cell (p:=dA f.heap.size 1) aW).trans (show _=some (eB) by simp);have q2:=(M.cell (p:=dA f.heap.size 2) aW).trans (show _=some (dw 0) by simp);have qf:∀bn,w4.uV f.heap.size bn=false:=fun bn=>(M.frozen (p:=dA f.heap.size bn) aW).trans aW;have hs4:f.heap.size<w4.heap.size:=by have:=M.size;simp at this;omega))
   all_goals
    first
    | (obtain⟨wz,rfl,y,z,z2,zb,j⟩:=jD q0 q1 q2 (dw (g:Int)) (dD c) (dw (Ar:Int))
       have HZ:=dn (hbx.trans zb);have HZZ:=dn (Nat.lt_of_lt_of_eq hs4 j.symm);have HZ0:=dn y;have HZ1:=dn z;have HZ2:=dn z2;clear M hbx zb j y z z2;go_wp2;go_meet
       ·exact⟨f.heap.size,rfl,HZ.o,ae,HZZ.o,HZ0.o,HZ1.o,HZ2.o⟩)
    | (have HE:Hid (dB f (w4.alloc (.cells #[dw (g:Nat),dD c,dw (Ar:Nat)] 129))):=hbx.fO
       have RI:=dn hbx.size;clear M hbx;go_wp2;go_meet
       ·exact⟨w4.heap.size,rfl,HE.o,RI.o,aW,aW,aW,aW⟩)
  case rest=>
   obtain⟨i2,rfl,hbf,hi2,TM,c0,c1,c2⟩:=hcut;have tK:=dn (ED.o.dW hbf);have j4:=hbf.dL j3 hI3;have hI4:=Nat.lt_of_lt_of_le hI3 hbf.size;have agp:=dn (acL.o.below hbf);have Vd:=dn (oL g Ar c wc);clear hbf j3 j0 o4 o5 n0 hgN ahV;cases Bp:Q with
   | list bg qs=>
    have e1:g=bg:=by rw[<-HHP.o,Bp];rfl
    have e2:c=[]:=by rw[<-HHX.o,Bp];rfl
    have E:Hid (R=.error (4,g)):=by show _=_;rw[<-uR.o,e1];exact Doc.J8 S.syms u p S.terms (by rw[HK0.o,Bp])
    subst e2;have KA:(([]:dN)==[])=true:=rfl;rw[KA]at Vd;clear KA Bp e1 uR;go_wp2_with fail;refine Vd.o.dX λw5 D=>?_;have c0':=D.dL c0 TM;have PR:=dn (tK.o.dW D);clear D c0 c1 c2;go_wp2_with fail;have F:dB l w5:=PR.o;have x:=Vf.o.below F;have O:=x.c0;have P:=x.c1;have df:=x.fr;obtain⟨wz,hwz,y,z,q,j⟩:=eP O P (dw 4) (dw (g:Int));have G:=dn (jP.fault (a:=4) (b:=g) L.o nS.o F ae aR aR q j).drew;clear q j F x;go_region
    all_goals
     go_wp2;exact dR (dM #[dw 0,.agg #[dw 4,dw (g:Int)]]) amd rfl amZ
   | word bg U=>
    have e1:g=bg:=by rw[<-HHP.o,Bp];rfl
    have e2:c=U:=by rw[<-HHX.o,Bp];rfl
    subst e1 e2;have hxo:c≠[]:=by have h:=ajJ.o;rw[Bp]at h;exact h.1
    have hxl:c.length<=1000000:=by have h:=ajI.o;rw[Bp]at h;simp only[Doc.Tr.width]at h;omega
    have hxe:(c==[])=false:=ak hxo;rw[hxe]at Vd;have O8:Hid (R=if Doc.lT c=false/\Doc.gD S.syms c=none then .error (5,g) else match Doc.iN (Doc.term S.syms u) (d.drop 1) S.terms [] with|.error U=>.error U|.ok r=>Doc.je p (if Doc.lT c=true then Doc.oH r.1 c r.2 else Doc.applied S.syms r.1 ((Doc.gD S.syms c).getD 0) r.2)):=by show _=_;rw[<-uR.o];exact Doc.J7 S.syms u p S.terms (by rw[HK0.o,Bp])
    have Po:Hid (Doc.lT c=true↔Doc.kD c≠0):=Doc.xL c;have Ew:=dn (λA=>Doc.nK (ss:=S.syms) (w:=c) (s:=A));have wT:Hid (∀W,dB l W->dH 123 #[dK i 0,dD c] W λe m=>e=dF (dw (placeOf (Doc.gD S.syms c)))/\dB W m):=λW h=>GJ i S.syms S.terms c W (nS.o.book.below h);have age:Hid (∀W,dB l W->dH 175 #[dD c] W λe m=>e=dF (dw (Doc.kD c:Nat))/\m=W):=λW h=>Eo c W (uS.o.jq.below h);have agd:=dn (λh=>Doc.Qx (w:=c) h);clear Bp uR hxe hxo;go_wp2_with fail;refine Vd.o.dX λw5 D=>?_;have c0':=D.dL c0 TM;have c1':=D.dL c1 TM;have aia:=Nat.lt_of_lt_of_le TM D.size;have j5:=D.dL j4 hI4;have hI5:=Nat.lt_of_lt_of_le hI4 D.size;have PR:=dn (tK.o.dW D);have agn:=dn (agp.o.below D);obtain⟨o6,o7⟩:=HOC.o w5 PR.o;clear D c0 c1 c2 j4 hI4 agp;go_wp2_with fail;refine(age.o _ PR.o).dX λw5' lW=>?_;rw[lW];clear lW w5';obtain⟨fs,hfs⟩:=aK (Doc.gD S.syms c);rw[hfs]at wT O8 Ew;obtain⟨H,hop⟩:=aK (Doc.kD c);rw[hop]at Po agd ⊢;have abI:=dn hop;clear hfs hop age;go_upto_region 11 with fail
    go_cut [10] (fun bA wx=>bA=dw (placeOf fs)/\dB w5 wx)
    case first=>
     go_region_with (go_at_call 123;refine(wT.o _ (by first|exact PR.o|exact PR.o.drew)).mono ?_;rintro e w6 ⟨rfl,V⟩)
     all_goals
      have HE:Hid (dB w5 w6):=af.drew.trans V;clear V;go_wp2;go_meet
      ·exact⟨rfl,HE.o⟩
    case rest=>
     obtain⟨rfl,V⟩:=hcut;rename World=>w6;have d0':=V.dL c0' aia;have j6:=V.dL j5 hI5;have hI6:=Nat.lt_of_lt_of_le hI5 V.size;have R5:=dn (PR.o.dW V);have ajD:=dn (agn.o.below V);clear V c0' c1' j5 hI5 agn o6 o7
     by_cases hno:H=0/\fs=none
     ·obtain⟨h01,h02⟩:=hno;subst h01 h02
      have E:Hid (R=.error (5,g)):=by
       show _=_;rw[O8.o,if_pos ⟨by cases h:Doc.lT c;rfl;exact absurd rfl (Po.o.1 h),rfl⟩]
      have hps:placeOf none=(-1:Int):=rfl;rw[hps];clear O8;go_wp2_with fail;have F:dB l w6:=R5.o;have x:=Vf.o.below F;have O:=x.c0;have P:=x.c1;have df:=x.fr;obtain⟨wz,hwz,y,z,q,j⟩:=eP O P (dw 5) (dw (g:Int));have G:=dn (jP.fault (a:=5) (b:=g) L.o nS.o F ae aR aR q j).drew;clear q j F x;go_region
      all_goals
       go_wp2;exact dR (dM #[dw 0,.agg #[dw 5,dw (g:Int)]]) amd rfl amZ
     ·have pO:=dn (LH n i k u o p B _ S d (some (dA gN 0)) cN w6 (uS.o.below R5.o) (nS.o.below R5.o) (λbq hc=>L.o.eH bq (Nat.le_trans R5.o.size hc)) hk HW.o ajD.o LY.o oP.o IW.o hpos hn K8.o)
      by_cases N:H=0
      case' pos=>
       obtain⟨A,hs⟩:∃A,fs=some A:=by
        cases fs with
        | none=>exact absurd ⟨N,rfl⟩ hno
        | some A=>exact⟨A,rfl⟩
       subst hs;obtain⟨hsl,_⟩:=Ew.o A rfl
       obtain⟨T,EE,Ab,HTW,Yo⟩:∃T:List Doc.Term->List Nat->Except Nat Doc.Term,Hid (∀a b C I W X,W.dQ n 0=some (dK i 0)->dI W X k i { S with terms:=a }->Doc.iB S.syms a->eX W (.slice C b.length I) b->(∀J∈b,J<a.length)->b.length<=1000->dH 237 #[dK n 0,dw (H:Int),dw (placeOf (some A)),.slice C b.length I] W λe m=>yA W m C (T a b) e/\dB W m)/\
        Hid (R=match Doc.iN (Doc.term S.syms u) (d.drop 1) S.terms [] with|.error U=>.error U|.ok r=>match T r.1 r.2 with|.error e=>.error (e,p)|.ok t=>Doc.je p (Doc.note r.1 t))/\Hid (∀a b t,Doc.iB S.syms a->(∀J∈b,J<a.length)->T a b=.ok t->Doc.rU S.syms a a.length t/\t.args.length<=1000)/\Hid (∀a b e,T a b=.error e->e≠0):=by
        refine⟨λa b=>mZ S.syms a A b,λa b C I W X h1 h2 h3 h4 h5 h6=>?_,?_,?_,λa b e h=>abf h⟩
        ·rw[N];exact OD n i S.syms a A _ b C I W h1 h2.book h4 hsl rfl h5
        ·show _=_;rw[O8.o,if_neg (by rintro ⟨_,h⟩;cases h)];have hio:¬Doc.lT c=true:=λh=>Po.o.1 h N;cases Doc.iN (Doc.term S.syms u) (d.drop 1) S.terms [] with
         | error U=>rfl
         | ok r=>
          simp only[if_neg hio,Option.getD_some];rw[abd];cases mZ S.syms r.1 A r.2<;>rfl
        ·intro a b t h3 h5 h;obtain⟨q1,q2⟩:=adV hsl h5 h
         have h8:b.length<=2:=by
          have hq:=abe h;rw[BQ hsl]at hq;have:=(HW.o.syms _ (List.getElem_mem hsl)).few;exact aR
         exact⟨q1,by rw[q2];omega⟩
       have top:((H:Int)==0)=true:=by rw[N];rfl
       have hsv:¬(placeOf (some A)<0):=by show ¬((A:Int)<0);omega
       generalize placeOf (some A)=sv at *;clear O8 N hno Ew d0' wT
      case' neg=>
       obtain⟨h5,h19⟩:=agd.o N
       obtain⟨T,EE,Ab,HTW,Yo⟩:∃T:List Doc.Term->List Nat->Except Nat Doc.Term,Hid (∀a b C I W X,W.dQ n 0=some (dK i 0)->dI W X k i { S with terms:=a }->Doc.iB S.syms a->eX W (.slice C b.length I) b->(∀J∈b,J<a.length)->b.length<=1000->dH 237 #[dK n 0,dw (H:Int),dw (placeOf fs),.slice C b.length I] W λe m=>yA W m C (T a b) e/\dB W m)/\
        Hid (R=match Doc.iN (Doc.term S.syms u) (d.drop 1) S.terms [] with|.error U=>.error U|.ok r=>match T r.1 r.2 with|.error e=>.error (e,p)|.ok t=>Doc.je p (Doc.note r.1 t))/\Hid (∀a b t,Doc.iB S.syms a->(∀J∈b,J<a.length)->T a b=.ok t->Doc.rU S.syms a a.length t/\t.args.length<=1000)/\Hid (∀a b e,T a b=.error e->e≠0):=by
        have hon:Doc.kD c≠0:=by rw[abI.o];exact N
        refine⟨λa b=>Doc.jI Except.ok a H b,λa b C I W X h1 h2 h3 h4 h5' h6=>LJ n i S.syms a H _ b C I W h1 h2.book h3 h4 h5 h19 h5' h6,?_,?_,λa b e h=>Doc.Wv h⟩
        ·show _=_;rw[O8.o,if_neg (by rintro ⟨h,_⟩;rw[Po.o.2 N]at h;cases h)];cases hAA:Doc.iN (Doc.term S.syms u) (d.drop 1) S.terms [] with
         | error U=>rfl
         | ok r=>
          have hgl:=Doc.FJ (λt a r h1 h2 h3 h4=>Doc.uW S.syms u t a r h1 h2 h3 h4) (d.drop 1) S.terms [] r HW.o (ZM oP.o) (Nat.le_trans (Qa d) IW.o) (by intro J ha;cases ha) hAA;simp only[if_pos (Po.o.2 N)];rw[Wu hgl.wf hon hgl.lt,abI.o];cases Doc.jI Except.ok r.1 H r.2<;>rfl
        ·intro a b t h3 h5' h;rw[<-abI.o]at h;obtain⟨q1,q2⟩:=ZK h3 hon h5' h;exact⟨q1,aR⟩
       have top:((H:Int)==0)=false:=ak aR;generalize placeOf fs=sv at *;clear O8 N hno Ew d0' wT h5 h19
      all_goals
       go_wp2_with fail;refine pO.o.mono ?_;rintro e s ⟨X,hf2,hm⟩;have Gr:=(Vf.o.below R5.o).fr' hf2 Lb.o;have JC:=(Fr.of_below k L.o.eH R5.o).trans hf2;have aiq:X w.heap.size=k+1:=by rw[JC.ext _ aR];unfold dG;rw[if_pos rfl]
       have j7:s.dQ Z.heap.size 0=some (dw (p:Int)):=hf2.cell j6 (by show dG own w.heap.size (k+1) Z.heap.size≠k;rw[L.o.eH Z.heap.size hwI];exact hk.symm);have hI7:=Nat.lt_of_lt_of_le hI6 hf2.size;have ak5:w.heap.size<s.heap.size:=aj Gr.c0;cases hA:Doc.iN (Doc.term S.syms u) (d.drop 1) S.terms [] with
       | error xx=>
        rw[hA]at hm Ab;obtain⟨he,hne,ex,xc⟩:=hm;subst he;have E:Hid (R=.error xx):=Ab.o;obtain⟨Y,x2⟩:=xx;simp only at hne;have hen:((Y:Int) !=0)=true:=bJ;have lq:=dn xc;have GG:=dn JC;clear hA hf2 xc JC pO j6;go_upto_region 16 with fail;have v:dB s (s.alloc (.cells #[dw (Y:Nat),dw (x2:Nat)] 64)):=ai;have f0:(s.alloc (.cells #[dw (Y:Nat),dw (x2:Nat)] 64)).dQ s.heap.size 0=some (dw (Y:Nat)):=aW;have f1:(s.alloc (.cells #[dw (Y:Nat),dw (x2:Nat)] 64)).dQ s.heap.size 1=some (dw (x2:Nat)):=aW;have TQ:=Gr.below v;have uL:=dn v;clear v;generalize s.alloc (.cells #[dw (Y:Nat),dw (x2:Nat)] 64)=wa at *;have O:=TQ.c0;have P:=TQ.c1;have df:=TQ.fr;obtain⟨wz,hwz,y,z,q,j⟩:=eP O P (dw (Y:Int)) (dw (x2:Int));have G:=dn (jP.Xr (a:=Y) (b:=x2) L.o (GG.o.trans (Fr.of_below k GG.o.eH uL.o)) (lq.o.below uL.o) ⟨ex,rfl⟩ ae aR hne q j).drew;clear q j TQ Gr;go_region
        all_goals
         go_wp2;exact dR (dM #[dw 0,.agg #[dw (Y:Nat),dw (x2:Nat)]]) amd rfl amZ
       | ok r=>
        rw[hA]at hm Ab;obtain⟨⟨C,I,he,hro⟩,xc,TC,hlt2,aff,hl2⟩:=hm;subst he;have v:dB s (s.alloc (.cells #[dw 0,dw 0] 64)):=ai;have o8:(s.alloc (.cells #[dw 0,dw 0] 64)).dQ n 0=some (dK i 0):=((uS.o.fr JC hk).below v).st;have acR:=dn (EE.o r.1 r.2 C I _ X o8 (xc.below v) TC (hro.below v).ints hlt2 hl2);have lq:=dn xc;have GG:=dn JC;have uL:=dn v;have aiN:=dn TC;have agk:=dn hlt2;have agu:=dn aff;have U3:Hid (R=match T r.1 r.2 with|.error e=>.error (e,p)|.ok t=>Doc.je p (Doc.note r.1 t)):=Ab.o;have abz:=dn (λt=>HTW.o r.1 r.2 t TC hlt2);have abB:=dn (λe=>Yo.o r.1 r.2 e);obtain⟨n2,hn2⟩:=aK r.2.length;rw[hn2]at acR ⊢;have Ad:=dn hn2;generalize T r.1 r.2=TT at *;have jf:=v.dL j7 hI7;clear hA hf2 xc JC pO j6 v TC hlt2 aff hl2 hro hn2 Ab;go_wp2_with fail;refine acR.o.mono ?_;rintro e w8 ⟨hres,hbk⟩;have HB8:=dn (uL.o.dW hbk);have Fv:=HB8.o.size;clear hbk;cases H9:TT with
        | error er=>
         rw[H9]at hres;have hres':e=dF (dM #[kW,dw (er:Nat)]):=hres;subst hres';have hne:=abB.o er H9;have E:Hid (R=.error (er,p)):=by show _=_;rw[U3.o,H9]
         have hen:((er:Int) !=0)=true:=bJ;unfold kW;clear hres H9 U3 abz abB;go_upto_region 19 with fail
         have K:dB s (w8.alloc (.cells #[dw 0,dw 0,dw 0,dE,dw 0] 226)):=HB8.o.alloc Fv _;have j8:=K.dL j7 hI7;have TP:=Gr.below K;have FZ:=dn K;clear K;generalize w8.alloc (.cells #[dw 0,dw 0,dw 0,dE,dw 0] 226)=wb at *;have O:=TP.c0;have P:=TP.c1;have df:=TP.fr;obtain⟨wz,hwz,y,z,q,j⟩:=eP O P (dw (er:Int)) (dw (p:Int));have G:=dn (jP.Xr (a:=er) (b:=p) L.o (GG.o.trans (Fr.of_below k GG.o.eH FZ.o)) (lq.o.below FZ.o) agu.o ae aR hne q j).drew;clear q j TP Gr j7 jf;go_region
         all_goals
          go_wp2;exact dR (dM #[dw 0,.agg #[dw (er:Int),dw (p:Int)]]) amd rfl amZ
        | ok t=>
         rw[H9]at hres;obtain⟨A3,p3,he,afB,hA3⟩:=hres;subst he;obtain⟨hwt,htl⟩:=abz.o t H9;have E:Hid (R=Doc.je p (Doc.note r.1 t)):=by show _=_;rw[U3.o,H9]
         have K:dB s (w8.alloc (.cells #[dw (Doc.eG t.op:Nat),dw t.sym,dw (Doc.fP t:Nat),.slice A3 t.args.length p3,dw t.sort] 226)):=HB8.o.alloc Fv _;have j8:=K.dL j7 hI7;have FZ:=dn K;have abU:=dn (GG.o.trans (Fr.of_below k GG.o.eH K));have HJC:=dn (Nt n i k p X { S with terms:=r.1 } t A3 p3 _ (uS.o.fr abU.o hk).st (lq.o.below K) abU.o.eH hk aiN.o hwt (afB.below ai) htl);have ajT:=dn (Gr.below K);have ak1:Z.heap.size<w8.heap.size:=aR;clear H9 hwt htl afB hA3 K Gr U3 abz abB;generalize Doc.eG t.op=po at *;generalize Doc.fP t=pn at *;go_wp2_with fail;refine HJC.o.mono ?_;rintro e w9 hp0;have uO:=hp0.fb ajT.o (by rw[aiq];omega);have g:=hp0.aeo abU.o agu.o;obtain⟨bD,J,o,rfl⟩:=g.three;have c0:=uO.c0;have c1:=uO.c1;have cf:=uO.fr;obtain⟨wz,hwz,y,z,q,j⟩:=eP c0 c1 (dw (J:Int)) (dw (o:Int));have G:=dn (g.fw L.o ae aR q j);clear hp0 g uO q j;go_wp2;exact dR (dM #[dw (bD:Int),.agg #[dw (J:Int),dw (o:Int)]]) amd rfl amZ
theorem ady (a:List Doc.Tr)(b:Nat):a.length<=(Doc.gP a b).length:=by
 have h:=Mq a b a.length ae;rw[Doc.zF]at h;exact aR
theorem Wi (n g k:Nat)(h:List Doc.Item)(p:k≠0)(r:h.length<=1000):∀(d:Nat) (t:Doc.Tr) (e:Nat) (own:Own) (S:Doc.dO) (w:World),Doc.within d t->jT w own n g h->dI w own k g S->eD own w->Doc.iB S.syms S.terms->Doc.mg h e t->t.ok->t.width<=800->
 dH 178 #[dK n 0,dw (e:Nat)] w λs u=>jP w u own k g S (Doc.term S.syms (d+1) t S.terms) s:=by
 intro d
 induction d with
 | zero=>
  intro t e own S w f i j l m a b c
  match t,f,a,b,c with
  | .word q x,_,a,b,c=>exact J6 n g k 0 e q h own S x w i j l p m a b.1 anQ
  | .list q o,f,_,_,_=>exact absurd f (by simp[Doc.within])
 | succ d v=>
  intro t e own S w f i j l m a b c
  match t,f,a,b,c with
  | .word q x,_,a,b,c=>exact J6 n g k (d+1) e q h own S x w i j l p m a b.1 anQ
  | .list q o,f,a,b,c=>
   have y:∀k∈o,Doc.within d k:=f
   have z:o.length<=1000:=by
    have A:=a.lt;simp only[Doc.flat,List.length_cons]at A;have D:=ady o (e+1);exact aR
   exact VE n g k (d+1) e q h own S o w i j l p m a b anQ r z
    (λt B own S w C i j l m a b c=>v t B own S w (y t C) i j l m a b c)
theorem xU (a b c:Value)(w:World):(Instr.field 129 (.agg #[a,b,c]) 0).run prog w=.ok a w:=by
 first
 | (simp[Instr.field,run_underlying underlying129,go_sem];done)
 | kernel_rfl
structure iU (w:World)(own:Own)(ob sb:Nat)(its:List Doc.Item)(p:Nat)(ks:List Doc.Tr):Prop where
 ord:jT w own ob sb its
 ins:∃A q,w.cell? (dA ob 2)=some (.slice A ks.length q)/\fG w own (.slice A ks.length q) (Doc.places ks 1)
 lies:Doc.mg its 0 (.list p ks)
 few:its.length<=1000
theorem iU.step {w:World}{own:Own}(h:iU w own n m I k A)(a:∀b,b<w.heap.size->own b=0->W.heap[b]?=w.heap[b]?/\o b=0):iU W o n m I k A:=by
 obtain⟨c,q,d,e⟩:=h.ins;exact⟨h.ord.step a,⟨c,q,(World.cell?_of_block (w:=w) (a:=dA n 2) (a n h.ord.lt h.ord.ZG).1).trans d,e.step a⟩,h.lies,h.few⟩
theorem iU.below {own:Own}(h:iU w own n m I k A)(a:dB w W):iU W own n m I k A:=h.step (λb c d=>⟨a.block b c,d⟩)
theorem iU.fr {own:Own}(h:iU w own n m I i A)(a:Fr own o k w W)(e:k≠0):iU W o n m I i A:=h.step (λb c d=>⟨a.block b c aR,by rw[a.ext b c];exact d⟩)
theorem iU.boxed {own:Own}{B c:Nat}(h:iU w own n m I k A)(a:dB w W)(f:w.heap.size<=B):iU W (dG own B c) n m I k A:=
 h.step (λb d e=>⟨a.block b d,by unfold dG;rw[if_neg aR];exact e⟩)
theorem jW {u0 u1:Value}(e:w.cell? (dA n 0)=some u0)(f:w.cell? (dA n 1)=some u1)(b c:Value) :
 ∃a,(w.setCell (dA n 0) b).setCell (dA n 1) c=a/\a.cell? (dA n 0)=some b/\a.cell? (dA n 1)=some c/\Below n w a:=by
 obtain⟨a,d,g,h,_,_⟩:=eP e f b c;refine⟨a,d,g,h,?_⟩;rw[<-d];exact((Below.refl n w).setCell ae _).setCell ae _
theorem fF.start (w:World):fF w (w.alloc (.cells #[dw 0,dw 0] 64)) w.heap.size/\dB w (w.alloc (.cells #[dw 0,dw 0] 64)):=
 ⟨⟨aW,aW,λj=>aW⟩,ai⟩
theorem jS (i q p a:Nat)(own:Own)(e:List Doc.Item)(j:List Doc.Tr)(w:World)(h:iU w own i q e p j) :
 dH 80 #[dK i 0,dw (a:Int)] w λr s=>r=dF (.agg #[dw (a:Int),dw (p:Int)])/\dB w s:=by
 obtain⟨F,k,f⟩:=h.ord.items;obtain⟨t,u,rfl,_⟩:=id f;have v:=h.ord.lt;obtain⟨l,b⟩:=fF.start w;have x:=dn l;have y:=dn b;have m:=h.lies.item;have c:=dn (zw (.slice t e.length u) e 0 _ (f.items.below b));rw[mV m]at c;simp only[Doc.Tr.pos,Doc.Tr.text]at c;obtain⟨fin,n⟩:=aK (0+(Doc.flat (.list p j) 0).length);rw[n]at c;have G:=b.dL k v;have H:=xU (dw (p:Int)) (dD ([]:dN)) (dw (fin:Int));clear l b m n f h k;go_enter func80,ntmps80;go_wp2_with fail;refine c.o.dX λI g=>?_;have d:=x.o.below g;have z:=dn (y.o.dW g);have A:=d.c0;have B:=d.c1;have J:=d.fr;obtain⟨K,L,C,D,o⟩:=jW A B (dw (a:Int)) (dw (p:Int));have E:=dn (z.o.trans o);clear g d o;go_wp2;exact dR (.agg #[dw (a:Int),dw (p:Int)]) (by simp[results,results80,go_sem,C,D]) rfl ⟨rfl,E.o⟩
theorem qw (l v x j:Nat)(own:Own)(d:List Doc.Item)(a:List Doc.Tr)(w:World)(h:iU w own l v d x a)(m:j<a.length) :
 dH 81 #[dK l 0,dw (j:Int)] w λe f=>e=dF (.agg #[dw (a[j].pos:Int),dD a[j].text,dw ((Doc.start a 1 j+(Doc.flat a[j] (Doc.start a 1 j)).length:Nat):Int)])/\dB w f:=by
 obtain⟨O,y,g⟩:=h.ord.items;obtain⟨n,o,rfl,_⟩:=id g;obtain⟨P,Q,z,i⟩:=h.ins;have p:=h.ord.lt;obtain⟨q,A,R⟩:=iM i.ints;rw[<-q]at A;have b:dB w (w.alloc (.cells #[dw 0,eB,dw 0] 129)):=ai;have B:=dn b;have k:=(h.lies.kid m).item;rw[Nat.zero_add]at k;obtain⟨S,rfl,r⟩:=gF i.ints j _ (Doc.mJ m);have T:=b.eT r;have U:=aj r
 have C:Hid (∀W,Below (w.heap.size+1) (w.alloc (.cells #[dw 0,eB,dw 0] 129)) W->dH 120 #[.slice n d.length o,dw (Doc.start a 1 j:Nat)] W λe f=>e=dF (.agg #[dw (a[j].pos:Int),dD a[j].text,dw ((Doc.start a 1 j+(Doc.flat a[j] (Doc.start a 1 j)).length:Nat):Int)])/\dB W f):=λW D=>by
  have:=zw (.slice n d.length o) d (Doc.start a 1 j) W (g.items.below (b.trans (D.mono aR)));rw[mV k]at this;exact this
 have V:=b.dL y p;have X:=b.dL z p;generalize Doc.start a 1 j+(Doc.flat a[j] (Doc.start a 1 j)).length=fin at *;generalize Doc.start a 1 j=Y at *;generalize a[j].pos=s at *;generalize a[j].text=t at *;have Z:(j:Int)<(a.length:Int):=aR;have hj0:¬((j:Int)<0):=aR;clear b k g h i q;go_enter func81,ntmps81;go_wp2_with fail
 go_region_with (go_at_call 120;refine(C.o _ bY).dX fun E c=>?_;have F:=(c.cell (p:=dA w.heap.size 0) aW).trans (show _=some (dw 0) by simp);have G:=(c.cell (p:=dA w.heap.size 1) aW).trans (show _=some (eB) by simp);have H:=(c.cell (p:=dA w.heap.size 2) aW).trans (show _=some (dw 0) by simp);have qf:∀j,E.uV w.heap.size j=false:=fun j=>(c.frozen (p:=dA w.heap.size j) aW).trans aW)
 all_goals
  obtain⟨wz,I,J,K,L,u,M⟩:=jD F G H (dw (s:Int)) (dD t) (dw (fin:Int));have N:=dn ((B.o.drew.trans (c.mono aW)).trans u);clear c u M;go_wp2_with fail;rw[I];exact dR (.agg #[dw (s:Int),dD t,dw (fin:Int)]) (by simp[results,results81,go_sem,J,K,L]) rfl ⟨rfl,N.o⟩
theorem KT (e g p:Nat)(own:Own)(i:List Doc.Item)(a:List Doc.Tr)(w:World)(h:iU w own e g i p a) :
 dH 87 #[dK e 0] w λo q=>o=dF (if a.length=1 then .agg #[dw 0,dw 0] else .agg #[dw 4,dw (p:Int)])/\dB w q:=by
 obtain⟨E,F,r,j⟩:=h.ins;have s:=h.ord.lt;obtain⟨k,t,G⟩:=iM j.ints;rw[<-k]at t;obtain⟨l,c⟩:=fF.start w;have u:=dn l;have m:=dn c;have H:=c.dL r s;have v:=dn (jS e g p 4 own i a _ (h.below c));clear k j h c l
 by_cases b:a.length=1
 ·rw[if_pos b];have x:((a.length:Int) !=1)=false:=by rw[b];rfl
  generalize a.length=L at *;clear b;go_enter func87,ntmps87;go_wp2;exact dR (.agg #[dw 0,dw 0]) (by simp[results,results87,go_sem]) rfl ⟨rfl,m.o⟩
 ·rw[if_neg b];have x:((a.length:Int) !=1)=true:=aX;generalize a.length=L at *;clear b;go_enter func87,ntmps87;go_wp2_with fail;refine v.o.dX λI f=>?_;have d:=u.o.below f;have y:=dn (m.o.dW f);have z:=d.c0;have A:=d.c1;have J:=d.fr;obtain⟨K,M,B,C,n⟩:=jW z A (dw 4) (dw (p:Int));have D:=dn (y.o.trans n);clear f d n;go_wp2;exact dR (.agg #[dw 4,dw (p:Int)]) (by simp[results,results87,go_sem,B,C]) rfl ⟨rfl,D.o⟩
def iL (w w':World)(own:Own)(k sb:Nat)(S:Doc.dO)(R:Except (Nat × Nat) Doc.dO)(e:Ending):Prop:=
 ∃own',Fr own own' k w w'/\match R with
  | .ok S'=>e=dF (.agg #[dw 0,dw 0])/\dI w' own' k sb S'
  | .error x=>e=dF (.agg #[dw (x.1:Nat),dw (x.2:Nat)])/\x.1≠0/\dI w' own' k sb S
theorem iL.two {own:Own}{S:Doc.dO}{R:Except (Nat × Nat) Doc.dO}(b:iL w W own n m S R h):∃c d:Nat,h=dF (.agg #[dw (c:Int),dw (d:Int)]):=by
 obtain⟨_,_,a⟩:=b;cases R with
 | ok r=>exact⟨0,0,a.1⟩
 | error x=>exact⟨x.1,x.2,a.1⟩
theorem iL.fb {own:Own}{S:Doc.dO}{R:Except (Nat × Nat) Doc.dO}(a:iL W u own n m S R h)(b:fF w W k)(c:own k≠n):fF w u k:=by
 obtain⟨_,d,_⟩:=a;exact b.fr' d c
theorem iL.fw {own:Own}{S:Doc.dO}{R:Except (Nat × Nat) Doc.dO}(i:iL W u (dG own k (n+1)) n m S R h)(j:Fr own (dG own k (n+1)) n w W)(e:w.heap.size<=k)(l:k<W.heap.size)
 (o:∀(own a:Own) (n:Nat) (d:World),Fr own a n d u->d.heap.size<=k->Fr own a n d U) (p:∀(own:Own) (n m:Nat) (S:Doc.dO),dI u own n m S->own k≠0->own k≠n->dI U own n m S):iL w U own n m S R h:=by
 obtain⟨a,f,b⟩:=i;have r:a k=n+1:=anC;refine⟨dG a k 0,(o _ _ _ _ (j.trans f) e).unbox e,?_⟩;have g:∀c,dI u a n m c->dI U (dG a k 0) n m c:=λc q=>(p a n m c q aR aR).unbox aR aR;cases R with
 | ok s=>exact⟨b.1,g _ b.2⟩
 | error x=>exact⟨b.1,b.2.1,g _ b.2.2⟩
theorem iL.fault {own:Own}{a b:Nat}{S:Doc.dO}(d:eD own w)(e:dI w own n m S)(c:dB w W)(f:a≠0):iL w W own n m S (.error (a,b)) (dF (.agg #[dw (a:Nat),dw (b:Nat)])):=
 ⟨own,Fr.of_below n d c,rfl,f,e.below c⟩
theorem iL.drew {own:Own}{S:Doc.dO}{R:Except (Nat × Nat) Doc.dO}(c:iL w W own n m S R h):iL w W.drew own n m S R h:=by
 obtain⟨d,e,a⟩:=c;have b:dB W W.drew:=af.drew;refine⟨d,e.drew,?_⟩;cases R with
 | ok r=>exact⟨a.1,a.2.below b⟩
 | error x=>exact⟨a.1,a.2.1,a.2.2.below b⟩
theorem nP.cpp {own:Own}{S a:Doc.dO}(h:nP W u own n m a)(b:eD own w)(c:dB w W):iL w u own n m S (.ok a) (dF (.agg #[dw 0,dw 0])):=by
 obtain⟨d,e,f⟩:=h;exact⟨d,(Fr.of_below n b c).trans e,rfl,f⟩
theorem V7 (o e p k:Nat)(own:Own)(s:List Doc.Item)(j:List Doc.Tr)(S:Doc.dO)(w:World)(D:iU w own o e s p j)(E:dI w own k e S)(F:eD own w)(t:k≠0) :
 dH 86 #[dK o 0] w λN O=>iL w O own k e S (if j.length=1 then .ok Doc.dO.empty else .error (4,p)) N:=by
 obtain⟨b,G⟩:∃b,w.alloc (.cells #[dw 0,dw 0] 64)=b:=⟨_,rfl⟩;obtain⟨u,l⟩:=fF.start w;rw[G]at u l;have hsz:b.heap.size=w.heap.size+1:=anE;have H:=dn u;have f:Hid (Fr own (dG own w.heap.size (k+1)) k w b):=Fr.boxed F l ae aR;have I:Hid (dI b (dG own w.heap.size (k+1)) k e S):=E.boxed l ae;have J:Hid (iU b (dG own w.heap.size (k+1)) o e s p j):=D.boxed l ae;have q:=dn (KT o e p _ s j b J.o);have K:Hid (dG own w.heap.size (k+1) w.heap.size≠k):=bT;clear D E F u l
 by_cases i:j.length=1
 ·rw[if_pos i];rw[if_pos i]at q;clear i;go_enter func86,ntmps86;go_wp2_with fail;refine q.o.dX λa g=>?_;have d:dB b (a.alloc (.cells #[dw 0,dw 0] 64)):=g.fO;have P:=dn d;have v:=g.size;have Q:=(J.o.ord.below d).st;have L:eD (dG own w.heap.size (k+1)) (a.alloc (.cells #[dw 0,dw 0] 64)):=λR T=>f.o.eH R (Nat.le_trans d.size T);have U:=dn (Ye e k _ S _ (I.o.below d) L t);clear g d L;go_wp2_with fail;refine U.o.dX λM r=>?_;have h:=r.cpp (S:=S) f.o.eH P.o;have c:=h.fb H.o K.o
  have V:M.dQ a.heap.size 0=some (dw 0):=by
   obtain⟨_,x,_⟩:=r;exact x.cell (p:=dA a.heap.size 0) aW ani
  have W:M.dQ a.heap.size 1=some (dw 0):=by
   obtain⟨_,x,_⟩:=r;exact x.cell (p:=dA a.heap.size 1) aW ani
  have y:=c.c0;have z:=c.c1;have X:=c.fr;obtain⟨Y,Z,A,B,m,n⟩:=eP y z (dw 0) (dw 0);have C:=dn (h.fw f.o ae aR m n);clear r h c m n Q;go_wp2;exact dR (.agg #[dw 0,dw 0]) (by simp[results,results86,go_sem,A,B]) rfl C.o
 ·rw[if_neg i];rw[if_neg i]at q;clear i;go_enter func86,ntmps86;go_wp2_with fail;refine q.o.dX λa g=>?_;have d:dB b (a.alloc (.cells #[dw 4,dw (p:Int)] 64)):=g.fO;have v:=g.size;have V:(a.alloc (.cells #[dw 4,dw (p:Int)] 64)).dQ a.heap.size 0=some (dw 4):=aW;have W:(a.alloc (.cells #[dw 4,dw (p:Int)] 64)).dQ a.heap.size 1=some (dw (p:Int)):=aW;clear g;go_upto_region 2 with fail;generalize a.alloc (.cells #[dw 4,dw (p:Int)] 64)=wa at *;have h:=iL.fault (a:=4) (b:=p) f.o.eH I.o d aR;have c:=h.fb H.o K.o;have y:=c.c0;have z:=c.c1;have X:=c.fr;obtain⟨Y,Z,A,B,m,n⟩:=eP y z (dw 4) (dw (p:Int));have C:=dn (h.fw f.o ae aR m n);clear h c m n d;go_wp2;exact dR (.agg #[dw 4,dw (p:Int)]) (by simp[results,results86,go_sem,A,B]) rfl C.o
def countP (p:Nat)(ks:List Doc.Tr):Except (Nat × Nat) Nat:=
 if 2<ks.length then .error (4,p) else if ks.length<2 then .ok 1
 else match ks[1]? with|none=>.ok 1|some t=>if Doc.digits t.text=true then .ok (numOf t.text) else .error (4,t.pos)
def Ee (R:Except (Nat × Nat) Nat):Value:=match R with
 | .ok n=>dM #[dw (n:Nat),.agg #[dw 0,dw 0]]
 | .error x=>dM #[dw 0,.agg #[dw (x.1:Nat),dw (x.2:Nat)]]
theorem KN (w D p:Nat)(own:Own)(E:List Doc.Item)(a:List Doc.Tr)(y:World)(i:iU y own w D E p a)(hwd:Doc.fE a<=800) :
 dH 129 #[dK w 0] y λQ R=>Q=dF (Ee (countP p a))/\dB y R:=by
 obtain⟨bg,bn,S,I⟩:=i.ins;have T:=i.ord.lt;obtain⟨J,U,k2⟩:=iM I.ints;rw[<-J]at U;obtain⟨K,j⟩:=fF.start y;have F:=dn K;have z:=dn j;have o2:=j.dL S T;have V:=dn (jS w D p 4 own E a _ (i.below j));have A:=dn (fun(k:1<a.length)=>qw w D p 1 own E a _ (i.below j) k);clear J I i j K
 by_cases g:2<a.length
 ·have l:Hid (countP p a=.error (4,p)):=by show _=_;unfold countP;rw[if_pos g]
  rw[l.o];have L:(2:Int)<(a.length:Int):=aR;clear g A;go_enter func129,ntmps129;go_wp2_with fail;refine V.o.dX λh c=>?_;have b:=F.o.below c;have m:=dn (z.o.dW c);have n:=b.c0;have o:=b.c1;have M:=b.fr;obtain⟨N,O,q,r,d⟩:=jW n o (dw 4) (dw (p:Int));have s:=dn (m.o.trans d);clear c b d;go_wp2;exact dR (dM #[dw 0,.agg #[dw 4,dw (p:Int)]]) anx rfl ⟨rfl,s.o⟩
 ·by_cases u:a.length<2
  ·have l:Hid (countP p a=.ok 1):=by show _=_;unfold countP;rw[if_neg g,if_pos u]
   rw[l.o];have L:¬((2:Int)<(a.length:Int)):=aR;have W:(a.length:Int)<2:=aR;clear g A u;go_enter func129,ntmps129;go_wp2;exact dR (dM #[dw 1,.agg #[dw 0,dw 0]]) (by simp[results,results129,go_sem]) rfl ⟨rfl,z.o⟩
  ·have k:1<a.length:=aR;obtain⟨t,B⟩:=aK (a[1]);have l:Hid (countP p a=if Doc.digits t.text=true then .ok (numOf t.text) else .error (4,t.pos)):=by show _=_;unfold countP;rw[if_neg g,if_neg u,aF k,B]
   rw[l.o];have G:=dn (A.o k);rw[B]at G
   have hwt:t.text.length<=1000:=by
    have X:t∈a:=by rw[<-B];exact List.getElem_mem k
    have:=Doc.kH (ks:=a) t X;have u:t.text.length<=t.width:=by cases t<;>simp[Doc.Tr.text,Doc.Tr.width]
    exact aR
   have L:¬((2:Int)<(a.length:Int)):=aR;have W:¬((a.length:Int)<2):=aR;generalize Doc.start a 1 1+(Doc.flat t (Doc.start a 1 1)).length=fin at *;generalize t.text=x at *;generalize t.pos=e at *;have C:=dn (λY=>FL x Y aR);have Z:numOf x=numOf x:=rfl;clear g u A B Z;cases hd:Doc.digits x
   ·rw[hd]at C;simp only[Bool.false_eq_true,if_false];clear hd;generalize numOf x=P at *;go_enter func129,ntmps129;go_wp2_with fail;refine G.o.dX λh c=>?_;have f:=c.alloc c.size (.cells #[dw (e:Int),dD x,dw (fin:Int)] 129);have b:=F.o.below f;have m:=dn (z.o.dW f);have i0:(h.alloc (.cells #[dw (e:Int),dD x,dw (fin:Int)] 129)).dQ h.heap.size 0=some (dw (e:Int)):=aW;clear c f;go_wp2_with fail;refine(C.o _).dX λH v=>?_;rw[v];clear v H;go_upto_region 8 with fail;generalize h.alloc (.cells #[dw (e:Int),dD x,dw (fin:Int)] 129)=wa at *;have n:=b.c0;have o:=b.c1;have M:=b.fr;obtain⟨N,O,q,r,d⟩:=jW n o (dw 4) (dw (e:Int));have s:=dn (m.o.trans d).drew;clear b d;go_region
    all_goals
     go_wp2;exact dR (dM #[dw 0,.agg #[dw 4,dw (e:Int)]]) anx rfl ⟨rfl,s.o⟩
   ·rw[hd]at C;simp only[if_true];clear hd;generalize numOf x=P at *;go_enter func129,ntmps129;go_wp2_with fail;refine G.o.dX λh c=>?_;have f:=c.alloc c.size (.cells #[dw (e:Int),dD x,dw (fin:Int)] 129);have b:=F.o.below f;have m:=dn (z.o.dW f);clear c f;go_wp2_with fail;refine(C.o _).dX λH v=>?_;rw[v];clear v H;go_upto_region 7 with fail;generalize h.alloc (.cells #[dw (e:Int),dD x,dw (fin:Int)] 129)=wa at *;have n:=b.c0;have o:=b.c1;have M:=b.fr;obtain⟨N,O,q,r,d⟩:=jW n o (dw 0) (dw 0);have s:=dn (m.o.trans d);clear b d;go_wp2;exact dR (dM #[dw (P:Int),.agg #[dw 0,dw 0]]) anx rfl ⟨rfl,s.o⟩
theorem Iq {p:Nat}{ks:List Doc.Tr}{x:Nat × Nat}(h:countP p ks=.error x):x.1≠0:=by
 unfold countP at h;split at h
 ·injection h with h;subst h;exact aW
 ·split at h
  ·cases h
  ·split at h
   ·cases h
   ·split at h
    ·cases h
    ·injection h with h;subst h;exact aW
theorem Qy (x:dN):numOf x<100000000:=by
 cases h:Doc.digits x
 ·rw[yK h];exact aR
 ·rw[zJ h];exact J4 h
theorem countP_le {p:Nat}{ks:List Doc.Tr}{n:Nat}(h:countP p ks=.ok n):n<=1000000000:=by
 unfold countP at h;split at h
 ·cases h
 ·split at h
  ·exact anP
  ·split at h
   ·exact anP
   ·split at h
    ·injection h with h;have:=Qy (by assumption:Doc.Tr).text;exact aR
    ·cases h
theorem XK (u e p k:Nat)(own:Own)(F:List Doc.Item)(c:List Doc.Tr)(S:Doc.dO)(w:World)(N:iU w own u e F p c)(O:dI w own k e S)(P:eD own w)(Q:k≠0)(T:Doc.iq S)(U:Doc.fE c<=800) :
 dH 84 #[dK u 0] w λbg w'=>iL w w' own k e S (match countP p c with|.error x=>.error x|.ok n=>if n+S.levels.length<=4 then .ok (dO.lv S n) else .error (9,p)) bg:=by
 obtain⟨d,V⟩:∃d,w.alloc (.cells #[dw 0,dw 0] 64)=d:=⟨_,rfl⟩;obtain⟨J,v⟩:=fF.start w;rw[V]at J v;have hsz:d.heap.size=w.heap.size+1:=by rw[<-V];simp
 have G:=dn J;have q:Hid (Fr own (dG own w.heap.size (k+1)) k w d):=Fr.boxed P v ae aR;have W:Hid (dI d (dG own w.heap.size (k+1)) k e S):=O.boxed v ae;have K:Hid (iU d (dG own w.heap.size (k+1)) u e F p c):=N.boxed v ae;have h:=dn (KN u e p _ F c d K.o U);have H:Hid (dG own w.heap.size (k+1) w.heap.size≠k):=bT;have HW:=dn T;have xG:=dn (λx=>Iq (p:=p) (ks:=c) (x:=x));have rY:=dn (λn=>countP_le (p:=p) (ks:=c) (n:=n));clear N O P J v T U;obtain⟨R,L⟩:∃R,(match countP p c with|.error x=>Except.error x|.ok n=>if n+S.levels.length<=4 then .ok (dO.lv S n) else .error (9,p))=R:=⟨_,rfl⟩;rw[L];have r:=dn L;clear L;cases i:countP p c with
 | error x=>
  have X:=xG.o x i;rw[i]at h r;have s:Hid (R=.error x):=r.o.symm;unfold Ee at h;obtain⟨f,j⟩:=x;simp only at X h;have hen:((f:Int) !=0)=true:=bJ;clear i r;go_enter func84,ntmps84;go_wp2_with fail;refine h.o.dX λg y=>?_;have l:dB d (g.alloc (.cells #[dw (f:Int),dw (j:Int)] 64)):=y.fO;have f0:(g.alloc (.cells #[dw (f:Int),dw (j:Int)] 64)).dQ g.heap.size 0=some (dw (f:Int)):=aW;have f1:(g.alloc (.cells #[dw (f:Int),dw (j:Int)] 64)).dQ g.heap.size 1=some (dw (j:Int)):=aW;clear y;go_upto_region 2 with fail
  generalize g.alloc (.cells #[dw (f:Int),dw (j:Int)] 64)=wa at *;have b:=iL.fault (a:=f) (b:=j) q.o.eH W.o l X;have a:=b.fb G.o H.o;have z:=a.c0;have A:=a.c1;have Y:=a.fr;obtain⟨Z,hwz,B,C,m,o⟩:=eP z A (dw (f:Int)) (dw (j:Int));have D:=dn (b.fw q.o ae aR m o);clear b a m o l;go_wp2;exact dR (.agg #[dw (f:Int),dw (j:Int)]) anH rfl amY
 | ok n=>
  have hn:=rY.o n i;rw[i]at h r;have s:Hid (R=if n+S.levels.length<=4 then .ok (dO.lv S n) else .error (9,p)):=r.o.symm;unfold Ee at h;simp only at h;clear i r;go_enter func84,ntmps84;go_wp2_with fail;refine h.o.dX λg y=>?_;have l:dB d (g.alloc (.cells #[dw 0,dw 0] 64)):=y.fO;have tK:=dn l;have o0:=(K.o.ord.below l).st;have hfr2:eD (dG own w.heap.size (k+1)) (g.alloc (.cells #[dw 0,dw 0] 64)):=λbn i=>q.o.eH bn (Nat.le_trans l.size i);have HPU:=dn (abt e k n _ S _ (W.o.below l) hfr2 Q HW.o.ve hn);clear y l hfr2;go_wp2_with fail;refine HPU.o.dX λw3 E=>?_
  by_cases t:n+S.levels.length<=4
  ·rw[if_pos t]at E s;rw[decide_eq_true t];have b:=E.cpp (S:=S) q.o.eH tK.o;have a:=b.fb G.o H.o;have z:=a.c0;have A:=a.c1;have Y:=a.fr;obtain⟨Z,hwz,B,C,m,o⟩:=eP z A (dw 0) (dw 0);have D:=dn (b.fw q.o ae aR m o);clear E b a m o o0 t;go_wp2;exact dR (.agg #[dw 0,dw 0]) anH rfl amY
  ·rw[if_neg t]at E s;rw[decide_eq_false t];obtain⟨pI,hf3,Ia⟩:=E;have I:=(Fr.of_below k q.o.eH tK.o).trans hf3;have PK:=dn I;have mO:=dn Ia;have BJ:=dn (jS u e p 9 pI F c w3 (K.o.fr I Q));have JB:=G.o.fr' I H.o;clear hf3 I Ia o0 t;go_wp2_with fail;refine BJ.o.dX λw4 M=>?_;have b:iL d w4 (dG own w.heap.size (k+1)) k e S (.error (9,p)) (dF (.agg #[dw ((9:Nat):Int),dw (p:Nat)])):=⟨pI,PK.o.trans (Fr.of_below k PK.o.eH M),rfl,aW,mO.o.below M⟩;have a:=b.fb G.o H.o;have z:=a.c0;have A:=a.c1;have Y:=a.fr;obtain⟨Z,hwz,B,C,m,o⟩:=eP z A (dw 9) (dw (p:Int));have D:=dn (b.fw q.o ae aR m o);clear b a m o M JB;go_wp2;exact dR (.agg #[dw 9,dw (p:Int)]) anH rfl amY
theorem aa9 (u e p k:Nat)(own:Own)(F:List Doc.Item)(c:List Doc.Tr)(S:Doc.dO)(w:World)(N:iU w own u e F p c)(O:dI w own k e S)(P:eD own w)(Q:k≠0)(T:Doc.iq S)(U:Doc.fE c<=800) :
 dH 85 #[dK u 0] w λbg w'=>iL w w' own k e S (match countP p c with|.error x=>.error x|.ok n=>if n<=S.levels.length then .ok (Aj n S) else .error (10,p)) bg:=by
 obtain⟨d,V⟩:∃d,w.alloc (.cells #[dw 0,dw 0] 64)=d:=⟨_,rfl⟩;obtain⟨J,v⟩:=fF.start w;rw[V]at J v;have hsz:d.heap.size=w.heap.size+1:=by rw[<-V];simp
 have G:=dn J;have q:Hid (Fr own (dG own w.heap.size (k+1)) k w d):=Fr.boxed P v ae aR;have W:Hid (dI d (dG own w.heap.size (k+1)) k e S):=O.boxed v ae;have K:Hid (iU d (dG own w.heap.size (k+1)) u e F p c):=N.boxed v ae;have h:=dn (KN u e p _ F c d K.o U);have H:Hid (dG own w.heap.size (k+1) w.heap.size≠k):=bT;have HW:=dn T;have xG:=dn (λx=>Iq (p:=p) (ks:=c) (x:=x));have rY:=dn (λn=>countP_le (p:=p) (ks:=c) (n:=n));clear N O P J v T U;obtain⟨R,L⟩:∃R,(match countP p c with|.error x=>Except.error x|.ok n=>if n<=S.levels.length then .ok (Aj n S) else .error (10,p))=R:=⟨_,rfl⟩;rw[L];have r:=dn L;clear L;cases i:countP p c with
 | error x=>
  have X:=xG.o x i;rw[i]at h r;have s:Hid (R=.error x):=r.o.symm;unfold Ee at h;obtain⟨f,j⟩:=x;simp only at X h;have hen:((f:Int) !=0)=true:=bJ;clear i r;go_enter func85,ntmps85;go_wp2_with fail;refine h.o.dX λg y=>?_;have l:dB d (g.alloc (.cells #[dw (f:Int),dw (j:Int)] 64)):=y.fO;have f0:(g.alloc (.cells #[dw (f:Int),dw (j:Int)] 64)).dQ g.heap.size 0=some (dw (f:Int)):=aW;have f1:(g.alloc (.cells #[dw (f:Int),dw (j:Int)] 64)).dQ g.heap.size 1=some (dw (j:Int)):=aW;clear y;go_upto_region 2 with fail
  generalize g.alloc (.cells #[dw (f:Int),dw (j:Int)] 64)=wa at *;have b:=iL.fault (a:=f) (b:=j) q.o.eH W.o l X;have a:=b.fb G.o H.o;have z:=a.c0;have A:=a.c1;have Y:=a.fr;obtain⟨Z,hwz,B,C,m,o⟩:=eP z A (dw (f:Int)) (dw (j:Int));have D:=dn (b.fw q.o ae aR m o);clear b a m o l;go_wp2;exact dR (.agg #[dw (f:Int),dw (j:Int)]) anG rfl amY
 | ok n=>
  have hn:=rY.o n i;rw[i]at h r;have s:Hid (R=if n<=S.levels.length then .ok (Aj n S) else .error (10,p)):=r.o.symm;unfold Ee at h;simp only at h;clear i r;go_enter func85,ntmps85;go_wp2_with fail;refine h.o.dX λg y=>?_;have l:dB d (g.alloc (.cells #[dw 0,dw 0] 64)):=y.fO;have tK:=dn l;have o0:=(K.o.ord.below l).st;have hfr2:eD (dG own w.heap.size (k+1)) (g.alloc (.cells #[dw 0,dw 0] 64)):=λbn i=>q.o.eH bn (Nat.le_trans l.size i);have HPU:=dn (ad4 e k n _ S _ (W.o.below l) hfr2 Q HW.o hn);clear y l hfr2;go_wp2_with fail;refine HPU.o.dX λw3 E=>?_
  by_cases t:n<=S.levels.length
  ·rw[if_pos t]at E s;rw[decide_eq_true t];have b:=E.cpp (S:=S) q.o.eH tK.o;have a:=b.fb G.o H.o;have z:=a.c0;have A:=a.c1;have Y:=a.fr;obtain⟨Z,hwz,B,C,m,o⟩:=eP z A (dw 0) (dw 0);have D:=dn (b.fw q.o ae aR m o);clear E b a m o o0 t;go_wp2;exact dR (.agg #[dw 0,dw 0]) anG rfl amY
  ·rw[if_neg t]at E s;rw[decide_eq_false t];obtain⟨pI,hf3,Ia⟩:=E;have I:=(Fr.of_below k q.o.eH tK.o).trans hf3;have PK:=dn I;have mO:=dn Ia;have BJ:=dn (jS u e p 10 pI F c w3 (K.o.fr I Q));have JB:=G.o.fr' I H.o;clear hf3 I Ia o0 t;go_wp2_with fail;refine BJ.o.dX λw4 M=>?_;have b:iL d w4 (dG own w.heap.size (k+1)) k e S (.error (10,p)) (dF (.agg #[dw ((10:Nat):Int),dw (p:Nat)])):=⟨pI,PK.o.trans (Fr.of_below k PK.o.eH M),rfl,aW,mO.o.below M⟩;have a:=b.fb G.o H.o;have z:=a.c0;have A:=a.c1;have Y:=a.fr;obtain⟨Z,hwz,B,C,m,o⟩:=eP z A (dw 10) (dw (p:Int));have D:=dn (b.fw q.o ae aR m o);clear b a m o M JB;go_wp2;exact dR (.agg #[dw 10,dw (p:Int)]) anG rfl amY
def yz (S:Doc.dO)(p:Nat)(t:Doc.Tr):Except (Nat × Nat) Doc.dO:=match Doc.term S.syms 12 t S.terms with
 | .error x=>.error x
 | .ok r=>if Doc.dY r.1 r.2≠1 then .error (7,t.pos) else if S.held.length=12 then .error (9,p) else .ok { S with terms:=r.1,held:=S.held++[r.2] }
def F5 (w w':World)(own:Own)(k sb:Nat)(S:Doc.dO)(R:Except (Nat × Nat) Doc.dO)(e:Ending):Prop:=
 ∃own',Fr own own' k w w'/\match R with
  | .ok S'=>e=dF (.agg #[dw 0,dw 0])/\dI w' own' k sb S'
  | .error x=>e=dF (.agg #[dw (x.1:Nat),dw (x.2:Nat)])/\x.1≠0/\∃ex,dI w' own' k sb { S with terms:=S.terms++ex }
theorem F5.fb {own:Own}{S:Doc.dO}{R:Except (Nat × Nat) Doc.dO}(a:F5 W u own n m S R h)(b:fF w W k)(c:own k≠n):fF w u k:=by
 obtain⟨_,d,_⟩:=a;exact b.fr' d c
theorem F5.fw {own:Own}{S:Doc.dO}{R:Except (Nat × Nat) Doc.dO}(i:F5 W u (dG own k (n+1)) n m S R h)(j:Fr own (dG own k (n+1)) n w W)(e:w.heap.size<=k)(l:k<W.heap.size)
 (o:∀(own a:Own) (n:Nat) (c:World),Fr own a n c u->c.heap.size<=k->Fr own a n c U) (p:∀(own:Own) (n m:Nat) (S:Doc.dO),dI u own n m S->own k≠0->own k≠n->dI U own n m S):F5 w U own n m S R h:=by
 obtain⟨a,f,d⟩:=i;have x:a k=n+1:=anC;refine⟨dG a k 0,(o _ _ _ _ (j.trans f) e).unbox e,?_⟩;have g:∀b,dI u a n m b->dI U (dG a k 0) n m b:=λb q=>(p a n m b q aR aR).unbox aR aR;cases R with
 | ok y=>exact⟨d.1,g _ d.2⟩
 | error z=>
  obtain⟨r,s,t,v⟩:=d;exact⟨r,s,t,g _ v⟩
theorem JQ (E c p k B:Nat)(own:Own)(o:List Doc.Item)(Y:List Doc.Tr)(t:Doc.Tr)(S:Doc.dO)(w:World)(Z:iU w own E c o p Y)(hS:dI w own k c S)(hfr:eD own w)(J:k≠0)(K:Doc.iq S)(hl:Doc.mg o B t)(hin:Doc.within 11 t)(hok:t.ok)(hwd:t.width<=800) :
 dH 127 #[dK E 0,dw (B:Nat)] w λbn w'=>F5 w w' own k c S (yz S p t) bn:=by
 obtain⟨d,hW1⟩:∃d,w.alloc (.cells #[dw 0,dw 0] 64)=d:=⟨_,rfl⟩;obtain⟨yQ,i⟩:=fF.start w;rw[hW1]at yQ i;have hsz:d.heap.size=w.heap.size+1:=alZ;have L:=dn yQ;have F:Hid (Fr own (dG own w.heap.size (k+1)) k w d):=Fr.boxed hfr i ae aR;have hS1:dI d (dG own w.heap.size (k+1)) k c S:=hS.boxed i ae;have lH:Hid (iU d (dG own w.heap.size (k+1)) E c o p Y):=Z.boxed i ae;have HT:=dn (Wi E c k o J Z.few 11 t B _ S d hin lH.o.ord hS1 F.o.eH K.book hl hok hwd);have CY:=dn (λr=>Doc.uW S.syms 12 t S.terms r K.book hok hwd);have M:Hid (dG own w.heap.size (k+1) w.heap.size≠k):=bT;have hit:=hl.item;have h12:=K.qR;obtain⟨R,hR⟩:=aK (yz S p t);rw[hR];have N:=dn hR;have HIT:=dn hit;clear Z hS hfr yQ i K hR hS1 hit hl hin hok hwd;go_enter func127,ntmps127;go_wp2_with fail;refine HT.o.mono ?_;rintro bn e ⟨O,q,P⟩;have Q:=L.o.fr' q M.o;cases hT:Doc.term S.syms 12 t S.terms with
 | error xx=>
  simp only[hT]at P;obtain⟨rfl,hne,ex,G⟩:=P;have j:Hid (R=.error xx):=by show _=_;rw[<-N.o];unfold yz;rw[hT]
  obtain⟨f,l⟩:=xx;simp only at hne;have hen:((f:Int) !=0)=true:=bJ;have m:dB e (e.alloc (.cells #[dw (f:Nat),dw (l:Nat)] 64)):=ai;have f0:(e.alloc (.cells #[dw (f:Nat),dw (l:Nat)] 64)).dQ e.heap.size 0=some (dw (f:Nat)):=aW;have f1:(e.alloc (.cells #[dw (f:Nat),dw (l:Nat)] 64)).dQ e.heap.size 1=some (dw (l:Nat)):=aW;have a:F5 d (e.alloc (.cells #[dw (f:Nat),dw (l:Nat)] 64)) (dG own w.heap.size (k+1)) k c S (.error (f,l)) (dF (.agg #[dw (f:Nat),dw (l:Nat)])):=⟨O,q.trans (Fr.of_below k q.eH m),rfl,hne,ex,G.below m⟩;have T:=Q.below m;clear hT q G m N;go_upto_region 2 with fail
  generalize e.alloc (.cells #[dw (f:Nat),dw (l:Nat)] 64)=wa at *;have s:=T.c0;have u:=T.c1;have cf:=T.fr;obtain⟨wz,hwz,v,x,g,h⟩:=eP s u (dw (f:Int)) (dw (l:Int));have y:=dn (a.fw F.o ae aR g h);clear g h T a Q;go_wp2;exact dR (.agg #[dw (f:Nat),dw (l:Nat)]) amK rfl aoh
 | ok r=>
  simp only[hT]at P;obtain⟨rfl,G⟩:=P;have z:=CY.o r hT;obtain⟨exg,afe⟩:=z.ext;have La:=dn afe;have j:Hid (R=if Doc.dY r.1 r.2≠1 then .error (7,t.pos) else if S.held.length=12 then .error (9,p) else .ok { S with terms:=r.1,held:=S.held++[r.2] }):=by show _=_;rw[<-N.o];unfold yz;rw[hT]
  have m:dB e (e.alloc (.cells #[dw 0,dw 0] 64)):=ai;have hf3:=q.trans (Fr.of_below k q.eH m);have aal:=G.below m;have aaz:=lH.o.fr hf3 J;have JB:=Q.below m;obtain⟨aA,mY,_,htm⟩:=tC c S.syms r.1 r.2 _ aal.book z.lt;have hts:=uZ (ts:=r.1) z.lt;have o0:=aaz.ord.st;clear hT q G m N Q afe;go_upto_region 4 with fail
  generalize e.alloc (.cells #[dw 0,dw 0] 64)=wa at *;have Yn:=dn (htm wa af);rw[<-hts]at Yn;obtain⟨C,hso⟩:=aK (Doc.dY r.1 r.2);rw[hso]at Yn j;have hfl:=Ih (dw (Doc.eG (r.1[r.2]'z.lt).op:Nat)) (dw (r.1[r.2]'z.lt).sym) (dw (Doc.fP (r.1[r.2]'z.lt):Nat)) (.slice aA (r.1[r.2]'z.lt).args.length mY) (dw (C:Nat));have n:=dn hf3;have Pb:=dn aal;have agx:=dn aaz;have alP:=dn JB;clear htm hts hso hf3 aal aaz JB;go_wp2_with fail;refine Yn.o.dX λw4 U=>?_;have A:=dn U;have o4:=(agx.o.ord.below U).st;obtain⟨vI,hcI,xB⟩:=(agx.o.ord.below U).items;obtain⟨aI,cI,rfl,_⟩:=id xB;have HAT:=dn (zw (.slice aI o.length cI) o B w4 xB.items);rw[mV HIT.o]at HAT;obtain⟨fin,hfin⟩:=aK (B+(Doc.flat t B).length);simp only[hfin]at HAT;clear U xB hfin
  by_cases i:C=1
  ·have t1:((C:Int) !=1)=false:=ao9;rw[if_neg aR]at j;have ae8:eD O w4:=λbg hc=>n.o.eH bg (Nat.le_trans A.o.size hc);have HAS:=dn (Vm c k r.2 O { S with terms:=r.1 } w4 (Pb.o.below A.o) ae8 J);simp only at HAS;clear i ae8;go_wp2_with fail;refine HAS.o.dX λV W=>?_
   by_cases D:S.held.length<12
   ·rw[if_pos D]at W;rw[if_neg aR]at j;rw[decide_eq_true D];obtain⟨X,H,I⟩:=W;have a:F5 d V (dG own w.heap.size (k+1)) k c S (.ok { S with terms:=r.1,held:=S.held++[r.2] }) (dF (.agg #[dw 0,dw 0])):=⟨X,(n.o.trans (Fr.of_below k n.o.eH A.o)).trans H,rfl,I⟩;have b:=a.fb L.o M.o;have s:=b.c0;have u:=b.c1;have cf:=b.fr;obtain⟨wz,hwz,v,x,g,h⟩:=eP s u (dw 0) (dw 0);have y:=dn (a.fw F.o ae aR g h);clear a b g h H I D o4 o0 hcI;go_wp2;exact dR (.agg #[dw 0,dw 0]) amK rfl aoh
   ·rw[if_neg D]at W;rw[if_pos aR]at j;rw[decide_eq_false D];obtain⟨X,H,I⟩:=W;have aaw:=(n.o.trans (Fr.of_below k n.o.eH A.o)).trans H;have agt:=dn aaw;have pV:=dn I;have BJ:=dn (jS E c p 9 X o Y V (lH.o.fr aaw J));clear H aaw I D o4 o0 hcI;go_wp2_with fail;refine BJ.o.dX λw6 hb6=>?_;have a:F5 d w6 (dG own w.heap.size (k+1)) k c S (.error (9,p)) (dF (.agg #[dw ((9:Nat):Int),dw (p:Nat)])):=⟨X,agt.o.trans (Fr.of_below k agt.o.eH hb6),rfl,aW,exg,by have:=pV.o.below hb6;simp only[La.o]at this;exact this⟩;have b:=a.fb L.o M.o;have s:=b.c0;have u:=b.c1;have cf:=b.fr;obtain⟨wz,hwz,v,x,g,h⟩:=eP s u (dw 9) (dw (p:Int));have y:=dn (a.fw F.o ae aR g h);clear a b g h hb6;go_wp2;exact dR (.agg #[dw 9,dw (p:Int)]) amK rfl aoh
  ·have t1:((C:Int) !=1)=true:=aX;rw[if_pos i]at j;have aif:=xU (dw (t.pos:Int)) (dD t.text) (dw (fin:Int));clear i;go_wp2_with fail;refine HAT.o.dX λV hb5=>?_;have a:F5 d V (dG own w.heap.size (k+1)) k c S (.error (7,t.pos)) (dF (.agg #[dw ((7:Nat):Int),dw (t.pos:Nat)])):=⟨O,(n.o.trans (Fr.of_below k n.o.eH A.o)).trans (Fr.of_below k (λbg hc=>n.o.eH bg (Nat.le_trans A.o.size hc)) hb5),rfl,aW,exg,by have:=(Pb.o.below A.o).below hb5;simp only[La.o]at this;exact this⟩;have b:=a.fb L.o M.o;have s:=b.c0;have u:=b.c1;have cf:=b.fr;obtain⟨wz,hwz,v,x,g,h⟩:=eP s u (dw 7) (dw (t.pos:Int));have y:=dn (a.fw F.o ae aR g h);clear a b g h hb5 o4 o0 hcI;go_wp2;exact dR (.agg #[dw 7,dw (t.pos:Int)]) amK rfl aoh
theorem Qo {S:Doc.dO}(h:A.length=2)(a:A[1]?=some Y):Doc.assert S n A=yz S n Y:=by
 match A,h with
 | [b,c],_=>
  simp at a;subst a;rfl
theorem Qp {S:Doc.dO}(h:A.length≠2):Doc.assert S n A=.error (4,n):=by
 match A,h with
 | [],_=>rfl
 | [_],_=>rfl
 | [_,_],h=>exact absurd rfl h
 | _::_::_::_,_=>rfl
theorem QS (q e p k:Nat)(own:Own)(E:List Doc.Item)(b:List Doc.Tr)(S:Doc.dO)(w:World)(O:iU w own q e E p b)(P:dI w own k e S)(Q:eD own w)(r:k≠0)(F:Doc.iq S)(R:∀t∈b,Doc.within 11 t)(T:Doc.oks b)(hwd:Doc.fE b<=800) :
 dH 83 #[dK q 0] w λU w'=>iL w w' own k e S (Doc.assert S p b) U:=by
 obtain⟨f,hW1⟩:∃f,w.alloc (.cells #[dw 0,dw 0] 64)=f:=⟨_,rfl⟩;obtain⟨G,o⟩:=fF.start w;rw[hW1]at G o;have hsz:f.heap.size=w.heap.size+1:=alZ;have V:=dn G;have s:Hid (Fr own (dG own w.heap.size (k+1)) k w f):=Fr.boxed Q o ae aR;have u:dI f (dG own w.heap.size (k+1)) k e S:=P.boxed o ae;have nS:=dn u;have i:iU f (dG own w.heap.size (k+1)) q e E p b:=O.boxed o ae;have lH:=dn i;have W:Hid (dG own w.heap.size (k+1) w.heap.size≠k):=bT;obtain⟨bA,bB,hcN,H⟩:=i.ins;obtain⟨X,k1,k2⟩:=iM H.ints;rw[<-X]at k1;have o0:=i.ord.st;obtain⟨aT,cT,Rk,t1,t2,_⟩:=vU u.book
 by_cases v:b.length=2
 ·obtain⟨t,I⟩:∃t,b[1]?=some t:=⟨_,aF aR⟩;have J:=List.mem_of_getElem? I;obtain⟨Y,ht'⟩:=aG I;rw[Qo v I];obtain⟨bC,rfl,d0⟩:=gF H.ints 1 _ (Doc.mJ Y);have Z:=i.lies.kid Y;rw[Nat.zero_add,ht']at Z;have hwt:=Doc.kH (ks:=b) t J;have HAT:=dn (JQ q e p k (Doc.start b 1 1) _ E b t S f i u s.o.eH r F Z (R t J) (Doc.mG T t J) aR);have h80:=F.book.many;generalize Doc.start b 1 1=st at *;obtain⟨bg,hR⟩:=aK (yz S p t);rw[hR]at HAT ⊢;have tl:((b.length:Int) !=2)=false:=by rw[v];rfl
  have tl1:(1:Int)<(b.length:Int):=aR;obtain⟨K,uP⟩:=aK S.terms.length;rw[uP]at Rk t1 h80;have uT:=dn uP;clear O P Q G o F u i H X I ht' Z hwt hR v J R T hwd Y uP;generalize b.length=bn at *;go_enter func83,ntmps83;go_wp2_with fail;refine HAT.o.mono ?_;rintro U a ⟨x,j,hm⟩;cases bg with
  | ok S'=>
   obtain⟨rfl,y⟩:=hm;have n:dB a (a.alloc (.cells #[dw 0,dw 0] 64)):=ai;have f0:(a.alloc (.cells #[dw 0,dw 0] 64)).dQ a.heap.size 0=some (dw 0):=aW;have f1:(a.alloc (.cells #[dw 0,dw 0] 64)).dQ a.heap.size 1=some (dw 0):=aW;have d:iL f (a.alloc (.cells #[dw 0,dw 0] 64)) (dG own w.heap.size (k+1)) k e S (.ok S') (dF (.agg #[dw 0,dw 0])):=⟨x,j.trans (Fr.of_below k j.eH n),rfl,y.below n⟩;clear j y n;go_upto_region 5 with fail
   generalize a.alloc (.cells #[dw 0,dw 0] 64)=wa at *;have c:=d.fb V.o W.o;have z:=c.c0;have A:=c.c1;have cf:=c.fr;obtain⟨wz,hwz,B,C,l,m⟩:=eP z A (dw 0) (dw 0);have D:=dn (d.fw s.o ae aR l m);clear d c l m;go_wp2;exact dR (.agg #[dw 0,dw 0]) anI rfl D.o
  | error bq=>
   obtain⟨g,h⟩:=bq;obtain⟨rfl,hne,ex,y⟩:=hm;simp only at hne;have hen:((g:Int) !=0)=true:=bJ;have n:dB a (a.alloc (.cells #[dw (g:Int),dw (h:Int)] 64)):=ai;have L:=j.trans (Fr.of_below k j.eH n);have hs1:=j.size;have f0:(a.alloc (.cells #[dw (g:Int),dw (h:Int)] 64)).dQ a.heap.size 0=some (dw (g:Int)):=aW;have f1:(a.alloc (.cells #[dw (g:Int),dw (h:Int)] 64)).dQ a.heap.size 1=some (dw (h:Int)):=aW;have Ia:=y.below n;have hfo:x a.heap.size=0:=j.eH _ ae;clear j y n;go_upto_region 5 with fail
   generalize a.alloc (.cells #[dw (g:Int),dw (h:Int)] 64)=wa at *;have o3:=(lH.o.fr L r).ord.st
   have ah2:(S.terms++ex).length<=2 ^ 63-1:=by
    obtain⟨bD,_,hr⟩:=Ia.terms;obtain⟨_,_,_,q1,q2⟩:=hr.form;simp only at q1;exact aR
   have HKT:=dn (Dl e k K x { S with terms:=S.terms++ex } wa Ia L.eH r aR ah2);have tJ:=dn L;clear L Ia;go_wp2_with fail;refine HKT.o.mono ?_;rintro U w4 ⟨rfl,ZF,M,N⟩
   have hSS:({ syms:=S.syms,terms:=(S.terms++ex).take K,held:=S.held,levels:=S.levels }:Doc.dO)=S:=by
    rw[<-uT.o,List.take_append_of_le_length ae,List.take_length]
   try simp only at N
   rw[hSS]at N;have g0:=M.cell f0 (by show x a.heap.size≠k;rw[hfo];exact r.symm);have g1:=M.cell f1 (by show x a.heap.size≠k;rw[hfo];exact r.symm);have d:iL f w4 (dG own w.heap.size (k+1)) k e S (.error (g,h)) (dF (.agg #[dw (g:Nat),dw (h:Nat)])):=⟨ZF,tJ.o.trans M,rfl,hne,N⟩;have c:=d.fb V.o W.o;have z:=c.c0;have A:=c.c1;have cf:=c.fr;obtain⟨wz,hwz,B,C,l,m⟩:=eP z A (dw (g:Int)) (dw (h:Int));have D:=dn (d.fw s.o ae aR l m);clear d c l m M N f0 f1 o3 o0 hSS;go_wp2;exact dR (.agg #[dw (g:Nat),dw (h:Nat)]) anI rfl D.o
 ·rw[Qp v];have tl:((b.length:Int) !=2)=true:=aX;have BJ:=dn (jS q e p 4 _ E b f i);generalize b.length=bn at *;clear O P Q G o F u i H X v R T hwd;go_enter func83,ntmps83;go_wp2_with fail;refine BJ.o.dX λa hb2=>?_;have d:=iL.fault (a:=4) (b:=p) s.o.eH nS.o hb2 aR;have c:=d.fb V.o W.o;have z:=c.c0;have A:=c.c1;have cf:=c.fr;obtain⟨wz,hwz,B,C,l,m⟩:=eP z A (dw 4) (dw (p:Int));have D:=dn (d.fw s.o ae aR l m);clear d c l m hb2;go_wp2;exact dR (.agg #[dw 4,dw (p:Int)]) anI rfl D.o
theorem aew (d:0<x.length):Doc.forbidden x=(decide (8<x.length)||(x==[116,114,117,101])||(x==[102,97,108,115,101])||decide (Doc.gJ x≠0)||decide (Doc.kD x≠0)||!(Doc.letter x[0])):=by
 have e:x.headD 0=x[0]:=by
  cases x with
  | nil=>simp at d
  | cons c u=>rfl
 have f:(decide (Doc.gJ x≠0))=(x==Doc.zz||x==Doc.Dv||x==Doc.wU):=by
  rw[Bool.eq_iff_iff];unfold Doc.gJ
  by_cases a:x=Doc.zz
  ·simp[a]
  ·rw[if_neg a]
   by_cases b:x=Doc.Dv
   ·rw[if_pos b];simp[b]
   ·rw[if_neg b]
    by_cases c:x=Doc.wU
    ·rw[if_pos c];simp[c]
    ·rw[if_neg c];simp[a,b,c]
 have g:(decide (Doc.kD x≠0))=Doc.lT x:=by
  rw[Bool.eq_iff_iff,decide_eq_true_iff];exact(Doc.xL x).symm
 rw[f,g];unfold Doc.forbidden;rw[e];show(Doc.lT x||x==[116,114,117,101]||x==[102,97,108,115,101]||_||_||_||_||_)=_;generalize Doc.lT x=h;generalize (x==[116,114,117,101])=i;generalize (x==[102,97,108,115,101])=j;generalize (x==Doc.zz)=k;generalize (x==Doc.Dv)=l;generalize (x==Doc.wU)=m;generalize Doc.letter x[0]=n;generalize decide (8<x.length)=o;cases h<;>cases i<;>cases j<;>cases k<;>cases l<;>cases m<;>cases n<;>cases o<;>rfl
theorem Qz (x:dN)(w:World)(m:gZ w)(o:0<x.length)(u:x.length<=1000000) :
 dH 122 #[dD x] w λp q=>p=dF (.bool (!(Doc.forbidden x)))/\q=w:=by
 have v:=gU;have c:=dn (aew o);have f:=dn (λW=>Gz x W);have g:=dn (Eo x w m);have n:=dn (λW=>Er x[0] W);generalize Doc.forbidden x=y at *;obtain⟨d,h⟩:=aK (Doc.gJ x);obtain⟨e,i⟩:=aK (Doc.kD x);obtain⟨lt,j⟩:=aK (Doc.letter x[0]);rw[h,i,j]at c;rw[h]at f;rw[i]at g;rw[j]at n;clear h i j m;have z:((x.length:Int)==0)=false:=ak aR;go_enter func122,ntmps122
 by_cases A:(8:Int)<x.length
 ·go_wp2;go_ret;exact⟨dS (by rw[c.o];simp[show 8<x.length by omega]),rfl⟩
 ·have r:Hid (decide (8<x.length)=false):=by show _=_;simp;omega
  cases h1:(x==[116,114,117,101])
  ·cases h2:(x==[102,97,108,115,101])
   ·by_cases k:d=0
    ·have s:((d:Int) !=0)=false:=by rw[k];rfl
     by_cases l:e=0
     ·have t:((e:Int) !=0)=false:=by rw[l];rfl
      go_wp2_with fail;refine(f.o _).dX λb a=>?_;rw[a];clear a b;go_wp2_with fail;refine g.o.dX λb a=>?_;rw[a];clear a b;go_wp2_with fail;refine(n.o _).dX λb a=>?_;rw[a];clear a b;go_wp2;go_ret;exact⟨dS (by rw[c.o,r.o,h1,h2,k,l];cases lt<;>rfl),rfl⟩
     ·have t:((e:Int) !=0)=true:=aX;go_wp2_with fail;refine(f.o _).dX λb a=>?_;rw[a];clear a b;go_wp2_with fail;refine g.o.dX λb a=>?_;rw[a];clear a b;go_wp2;go_ret;exact⟨dS (by rw[c.o];simp[l]),rfl⟩
    ·have s:((d:Int) !=0)=true:=aX;go_wp2_with fail;refine(f.o _).dX λb a=>?_;rw[a];clear a b;go_wp2;go_ret;exact⟨dS (by rw[c.o];simp[k]),rfl⟩
   ·go_wp2;go_ret;exact⟨dS (by rw[c.o,h2];simp),rfl⟩
  ·go_wp2;go_ret;exact⟨dS (by rw[c.o,h1];simp),rfl⟩
theorem A8 (j s t u:Nat)(own:Own)(k:List Doc.Item)(a b:List Doc.Tr)(w:World)(h:iU w own j s k t a)(l:eD own w)(d:2<a.length)(m:a[2]=.list u b) :
 dH 174 #[dK j 0] w λe c=>(∃A q,e=dF (.slice A b.length q)/\fG c own (.slice A b.length q) (Doc.places b (Doc.start a 1 2+1)))/\dB w c:=by
 obtain⟨I,J,f⟩:=h.ord.items;obtain⟨v,x,rfl,_⟩:=id f;obtain⟨A,q,K,g⟩:=h.ins;obtain⟨n,y,L⟩:=iM g.ints;rw[<-n]at y;obtain⟨M,rfl,N⟩:=gF g.ints 2 _ (Doc.mJ d);have i:=h.lies.kid d;rw[Nat.zero_add,m]at i;have O:=h.few
 have z:Hid (∀W,dB w W->dH 79 #[.slice v k.length x,dw (Doc.start a 1 2:Nat)] W λe c=>(∃A q,e=dF (.slice A b.length q)/\fG c own (.slice A b.length q) (Doc.places b (Doc.start a 1 2+1)))/\dB W c):=λW o=>
  Es (f.items.below o) i aR (λB C=>l B (Nat.le_trans o.size C))
 have P:¬((a.length:Int)<3):=aR;have Q:(2:Int)<(a.length:Int):=aR;generalize Doc.start a 1 2=R at *;clear f i h g n m l;generalize b.length=S at *;generalize a.length=T at *;clear d;go_enter func174,ntmps174;go_wp2_with fail
 go_region_with (go_at_call 79;refine(z.o _ bY).mono ?_;rintro e D ⟨⟨E,F,rfl,p⟩,r⟩)
 all_goals
  have G:=dn p;have H:Hid (dB w D):=af.drew.trans r;clear p r;go_wp2;go_ret;exact⟨⟨E,F,rfl,G.o⟩,H.o⟩
def OC (r:Nat)(js:List Doc.Tr):Except Nat (List Nat):=if 2<js.length then .error r else Doc.takes js
def AsP (w':World)(own:Own)(R:Except Nat (List Nat))(e:Ending):Prop:=match R with
 | .ok l=>∃A q,e=dF (dM #[.slice A l.length q,.agg #[dw 0,dw 0]])/\fG w' own (.slice A l.length q) l/\l.length<=2
 | .error x=>e=dF (dM #[dE,.agg #[dw 7,dw (x:Nat)]])
def agZ (js:List Doc.Tr)(m:Nat)(l:List Nat):Prop:=l.length=m/\Doc.ko js m l
theorem Fa (H X Y r:Nat)(own:Own)(i:List Doc.Item)(d a:List Doc.Tr)(w:World)(h:iU w own H X i Y d)(Z:eD own w)(hl:2<d.length)(I:d[2]=.list r a) :
 dH 124 #[dK H 0] w λk J=>AsP J own (OC r a) k/\dB w J:=by
 obtain⟨i0,hi0,hz0,hz1,hz2⟩:=info_parts nk;obtain⟨uO,K⟩:=fF.start w;have HFB:=dn uO;have HB0:=dn K;have ajP:=dn Z;have NU:eD own (w.alloc (.cells #[dw 0,dw 0] 64)):=λbA hc=>Z bA (Nat.le_trans K.size hc);have I1:=dn (A8 H X Y r own i d a _ (h.below K) NU hl I);have HIT:=dn (λW (q:dB w W)=>qw H X Y 2 own i d W (h.below q) hl);simp only[I,Doc.Tr.pos,Doc.Tr.text]at HIT;obtain⟨Ar,Hu⟩:=aK (Doc.start d 1 2+(Doc.flat (.list r a) (Doc.start d 1 2)).length);rw[Hu]at HIT;obtain⟨vI,hcI,xB⟩:=h.ord.items;obtain⟨aI,cI,rfl,_⟩:=id xB;have hol:=h.ord.lt;have hlk:=h.lies.kid hl;rw[Nat.zero_add,I]at hlk;clear Hu;generalize Doc.start d 1 2=n at *;have uS:=dn (λW (q:dB w W)=>(q.dL hcI hol))
 have HAT:Hid (∀j (hj:j<a.length),∃fin:Nat,∀W,dB w W->dH 120 #[.slice aI i.length cI,dw (Doc.start a (n+1) j:Nat)] W λk J=>k=dF (.agg #[dw (a[j].pos:Int),dD a[j].text,dw (fin:Int)])/\dB W J):=λj hj=>by
  refine⟨Doc.start a (n+1) j+(Doc.flat a[j] (Doc.start a (n+1) j)).length,λW q=>?_⟩;have:=zw (.slice aI i.length cI) i (Doc.start a (n+1) j) W (xB.items.below q);rw[mV (hlk.kid hj).item]at this;exact this
 have Yv:=dn (λbq (h:bq<a.length)=>Doc.mJ (ks:=a) (b:=n+1) (n:=bq) h);have hfl:=xU (dw (r:Int)) (dD ([]:dN)) (dw (Ar:Int));obtain⟨R,hR⟩:=aK (OC r a);have pO:Hid (R=if 2<a.length then .error r else Doc.takes a):=by show _=_;rw[<-hR];rfl
 rw[hR];clear hR uO K Z NU I hlk xB h hcI;go_enter func124,ntmps124;go_wp2_with fail;refine I1.o.mono ?_;rintro k s ⟨⟨bD,bF,rfl,hro⟩,L⟩;obtain⟨rH,k1,k2⟩:=iM hro.ints;rw[<-rH]at k1;have Yr:=dn hro;have M:=dn (HB0.o.dW L);have abT:=dn (HFB.o.below L);have hsz1:=L.size;simp only[World.size_alloc]at hsz1;clear rH hro L
 by_cases t:2<a.length
 ·have N:Hid (R=.error r):=by show _=_;rw[pO.o,if_pos t]
  have t2:(2:Int)<(a.length:Int):=aR;clear t;go_wp2_with fail;refine(HIT.o _ M.o).dX λu f=>?_;have O:=abT.o.below f;have HB1:=dn (M.o.dW f);have v:=O.c0;have x:=O.c1;have cf:=O.fr;obtain⟨P,hwz,y,z,e⟩:=jW v x (dw 7) (dw (r:Int));have A:=dn (HB1.o.trans e);clear f O e;go_wp2;exact dR (dM #[dE,.agg #[dw 7,dw (r:Int)]]) anz rfl ⟨by rw[N.o];rfl,A.o⟩
 ·have N:Hid (R=Doc.takes a):=by show _=_;rw[pO.o,if_neg t]
  have t2:¬((2:Int)<(a.length:Int)):=aR;go_wp2_with fail
  go_loopw [5,21] (fun bB bg wr=>∃(m:Nat) (l:List Nat),bg=dw m/\m<=a.length/\agZ a m l/\wr.ownsRow s.heap.size 3 1 bB m (ja l)/\dB s wr) (fun _ bg _=>a.length-(intOf bg).toNat)
  ·exact⟨0,[],rfl,aR,⟨rfl,Doc.ko.zero a⟩,World.ownsRow_nil _ _ _ _,af⟩
  case round=>
   obtain⟨m,l,rfl,hm,B,hown,Q⟩:=hrel;have HOW:=dn hown;have C:=dn B;have om:=dn Q;have jG:=dn (M.o.trans (Q.mono aR));obtain⟨o,p,rfl,hv1,hv2⟩:=ik hown;have o1:=uS.o wr jG.o;clear hown B
   by_cases S:m<a.length
   ·obtain⟨bG,rfl,d1⟩:=gF (Yr.o.ints.below Q) m _ (Yv.o m S);obtain⟨fin,hcall⟩:=HAT.o m S;have HC:=dn (hcall wr jG.o);have T:=dn (C.o.2.bad S);have U:=dn (C.o.2.next S);have Pe:=dn (λW=>Gz a[m].text W);obtain⟨b,B⟩:=aK (Doc.gJ a[m].text);rw[B]at T U Pe;clear hcall B Q;generalize Doc.start a (n+1) m=stm at *;generalize a[m].text=tx at *;generalize a[m].pos=g at *;go_wp2_with fail;refine HC.o.dX λu f=>?_;have hbb:=f.alloc f.size (.cells #[dw (g:Int),dD tx,dw (fin:Int)] 129);have V:=dn (om.o.dW hbb);have agc:=dn (ownsRow_below HOW.o hbb);have hs2:=V.o.size;simp only[World.size_alloc]at hs2;have i0':(u.alloc (.cells #[dw (g:Int),dD tx,dw (fin:Int)] 129)).cell? (dA u.heap.size 0)=some (dw (g:Int)):=aW;clear f hbb;go_wp2_with fail;refine(Pe.o _).dX λD hw3=>?_;rw[hw3];clear hw3 D
    by_cases E:b=2\/b=3
    ·have HN:=dn (U.o E)
     have hcase:(((b:Int) !=2)=false)\/(((b:Int) !=2)=true/\((b:Int) !=3)=false):=by
      rcases E with rfl|rfl
      ·exact Or.inl rfl
      ·exact Or.inr ⟨rfl,rfl⟩
     clear E U T i0';rcases hcase with t1|⟨t1,t3⟩
     all_goals
      go_wp2_with (at_builtin;refine dU rfl (.tmp 43) (.tmp 45) 57 rfl s.heap.size 3 i0 (dw 0) 1 8 underlying57 hi0 hz0 hz1 hz2 rfl aY (.slice o m p) m (ja l) rfl (by exact agc.o.alloc _) (dA (u.heap.size+1) 0) 1 [dw (b:Int)] rfl rfl (by exact vG _ _ _ _ aW) bX bz aR aX ?_;intro ga fD D hown' hgrow hg1 hg2;have HB3:Hid (dB s D):=(V.o.fO).grown hgrow aX (λbC hx=>(agc.o.lt bC hx).1))
      have tJ:Hid (D.ownsRow s.heap.size 3 1 (dJ ga (m+1) fD) (m+1) (ja (l++[b]))):=by
       show D.ownsRow _ _ _ _ _ _;have F:ja (l++[b])=ja l++[dw (b:Int)]:=by simp[ja]
       rw[F];exact hown'
      clear hown' hgrow hg1 hg2;go_wp2;go_roundw
      ·exact⟨m+1,l++[b],bL,aR,⟨by rw[List.length_append,C.o.1];rfl,HN.o⟩,tJ.o,HB3.o⟩
      ·exact aph
    ·have EB:Hid (R=.error g):=by show _=_;rw[N.o,T.o E]
     have t1:((b:Int) !=2)=true:=aX;have t3:((b:Int) !=3)=true:=aX;have c:=abT.o.below V.o;have tK:=dn (M.o.trans (V.o.mono aR));clear U T E;go_upto_region 11 with fail
     generalize u.alloc (.cells #[dw (g:Int),dD tx,dw (fin:Int)] 129)=wa at *;have v:=c.c0;have x:=c.c1;have cf:=c.fr;obtain⟨P,hwz,y,z,e⟩:=jW v x (dw 7) (dw (g:Int));have A:=dn (tK.o.trans e).drew;clear c e;go_region
     all_goals
      go_wp2;exact dR (dM #[dE,.agg #[dw 7,dw (g:Int)]]) anz rfl ⟨by rw[EB.o];rfl,A.o⟩
   ·have EB:Hid (R=.ok l):=by show _=_;rw[N.o,C.o.2.end aR]
    have c:=abT.o.below om.o;have v:=c.c0;have x:=c.c1;have cf:=c.fr;obtain⟨P,hwz,y,z,e⟩:=jW v x (dw 0) (dw 0);have A:=dn (jG.o.trans e)
    have iP:Hid (AsP P own (.ok l) (dF (dM #[.slice o m p,.agg #[dw 0,dw 0]]))):=by
     have F:=C.o.1;have t:=HOW.o;have h3:fG wr (dG own w.heap.size 1) (.slice o m p) l:=Ba (by rw[F];exact t) (λbn hb=>by unfold dG;rw[if_neg aR];exact ajP.o bn aR)
     have h4:fG P own (.slice o m p) l:=h3.step (λbn hb G=>by
      have hne:bn≠w.heap.size:=by
       intro k;unfold dG at G;rw[if_pos k]at G;exact aR
      refine⟨?_,by unfold dG at G;rw[if_neg hne]at G;exact G⟩;rw[<-hwz];exact(aD hne).trans (aD hne))
     exact⟨o,p,by rw[F],by rw[F];exact h4,aR⟩
    clear c e;go_wp2;exact dR (dM #[.slice o m p,.agg #[dw 0,dw 0]]) anz rfl ⟨by rw[EB.o];exact iP.o,A.o⟩
